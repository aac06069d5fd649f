import PyProof.Rows.All
import Wide.All
import OpenK.AllK
import Wide.FinOn
import Lean
import PyProof.EqAt
import PyProof.EqKinds
import PyProof.TupleCall
import PySem.Challenge.RW_curveseat_k65_near
set_option compiler.extract_closed false
set_option genSizeOfSpec false
set_option bootstrap.genMatcherCode false
namespace PySem.W.Fast
noncomputable def tw5326201457613391262:=()
noncomputable def tw15351125184066352782:=()
noncomputable def tw9966055264972139120:=()
noncomputable def tw8360076582473004409:=()
noncomputable def tw14590938642105132692:=()
noncomputable def tw11575641530754279810:=()
noncomputable def tw16024657834826227552:=()
noncomputable def tw3479361599928340944:=()
noncomputable def tw818683705304335100:=()
noncomputable def tw17567600454261133809:=()
noncomputable def tw3591963184982621374:=()
noncomputable def tw14024600005925976124:=()
noncomputable def tw12973986968407150302:=()
noncomputable def tw3599992689526283900:=()
noncomputable def tw12648909313162244712:=()
noncomputable def tw7425051747500692205:=()
noncomputable def tw5847057906838500143:=()
noncomputable def tw11369436733592809188:=()
noncomputable def tw4986795573080603697:=()
noncomputable def tw8971210129015669488:=()
noncomputable def tw1022594510772777286:=()
noncomputable def tw2008371844698763512:=()
noncomputable def tw5846143011878124550:=()
noncomputable def tw5322750605210032372:=()
noncomputable def tw7089330667135518107:=()
noncomputable def tw5265530292716427309:=()
noncomputable def tw6154239527408003898:=()
noncomputable def tw2361791144974293208:=()
noncomputable def tw16970839220320722819:=()
noncomputable def tw10969629779427704576:=()
noncomputable def tw5396633908167630367:=()
noncomputable def tw6011323548760161732:=()
noncomputable def tw4902925023357307003:=()
noncomputable def tw178412772370741937:=()
noncomputable def tw8048138449033585497:=()
noncomputable def tw15156783620775971311:=()
noncomputable def tw319808951355366884:=()
noncomputable def tw8611338985611552534:=()
noncomputable def tw11145186811056617881:=()
noncomputable def tw10151365365101305875:=()
noncomputable def tw9798225954134863162:=()
noncomputable def tw579156237503274797:=()
noncomputable def tw3763891715423835358:=()
noncomputable def tw16645600263808227825:=()
noncomputable def tw9601262119496019882:=()
noncomputable def tw5694119753874308889:=()
noncomputable def tw890603491490714143:=()
noncomputable def tw9610168206546174266:=()
noncomputable def tw15570484640688958389:=()
noncomputable def tw2662039621323749299:=()
noncomputable def tw1847413080643927195:=()
noncomputable def tw18302154586942668299:=()
noncomputable def tw3030443906721156084:=()
noncomputable def tw7493911330401474667:=()
noncomputable def tw14055473218418026325:=()
noncomputable def tw1299333550438672928:=()
noncomputable def tw17722779509223842364:=()
noncomputable def tw10383715090561631452:=()
noncomputable def tw12107564751819408205:=()
noncomputable def tw14862157714612571025:=()
noncomputable def tw86191552949608760:=()
noncomputable def tw3156809985244417195:=()
noncomputable def tw2300933604472384004:=()
noncomputable def tw6825042655415625087:=()
noncomputable def tw7640723138946119806:=()
noncomputable def tw14055621286090761166:=()
noncomputable def tw16123820369231193345:=()
noncomputable def tw4864970454578411807:=()
noncomputable def tw1605842676235409082:=()
noncomputable def tw3551046881008170703:=()
noncomputable def tw8653564469461744613:=()
noncomputable def tw9882448782491163876:=()
noncomputable def tw15091313559435417970:=()
noncomputable def tw9167719912466601667:=()
noncomputable def tw13998202126646283064:=()
noncomputable def tw4149489582512777451:=()
noncomputable def tw4612618908780407081:=()
noncomputable def tw16427526810016579684:=()
noncomputable def tw4312219983516343589:=()
noncomputable def tw17463043249869568335:=()
noncomputable def tw12586346269914714390:=()
noncomputable def tw6535388359048532621:=()
noncomputable def tw6351401728874904513:=()
noncomputable def tw3651377226373225373:=()
noncomputable def tw8436887058087388560:=()
noncomputable def tw13126259146018673540:=()
noncomputable def tw14778459790283127988:=()
noncomputable def tw640382238922592678:=()
noncomputable def tw2674323635346672866:=()
noncomputable def tw9049963015187893370:=()
noncomputable def tw4607997890046937995:=()
noncomputable def tw3872420624809778220:=()
noncomputable def tw900493662565699008:=()
noncomputable def tw7490641508660761828:=()
noncomputable def tw14828200874400808209:=()
noncomputable def tw17725673292051678997:=()
noncomputable def tw7152428321835781988:=()
noncomputable def tw9234601822874263240:=()
noncomputable def tw6106252079808433414:=()
noncomputable def tw847044479250112350:=()
noncomputable def tw14369228260353690132:=()
noncomputable def tw12145756883584525490:=()
noncomputable def tw2288974355266342223:=()
noncomputable def tw15854200977478129579:=()
noncomputable def tw10627492508921153852:=()
noncomputable def tw10812285499897368647:=()
noncomputable def tw2272545223563447381:=()
noncomputable def tw726278555295593188:=()
noncomputable def tw3054290405804801448:=()
noncomputable def tw12139495854333317923:=()
noncomputable def tw3716182707823309994:=()
noncomputable def tw6903487415260558220:=()
noncomputable def tw6605120842260713352:=()
noncomputable def tw3020043959726412675:=()
noncomputable def tw3062836799112193295:=()
noncomputable def tw9467581221812390748:=()
noncomputable def tw11902328601818488389:=()
noncomputable def tw266663101193658588:=()
noncomputable def tw7274578321953416853:=()
noncomputable def tw2808547539847173539:=()
noncomputable def tw1486464535592631325:=()
noncomputable def tw2163210765120150664:=()
noncomputable def tw953938053922527237:=()
noncomputable def tw5727703182084139544:=()
noncomputable def tw1742073174678168328:=()
noncomputable def tw17095860236358364074:=()
noncomputable def tw9488273892270354609:=()
noncomputable def tw6231860319415733767:=()
noncomputable def tw913792880699243168:=()
noncomputable def tw6009635950868684016:=()
noncomputable def tw18373263080985386740:=()
noncomputable def tw13671387492975426699:=()
noncomputable def tw2565475031665370076:=()
noncomputable def tw16868790247013050987:=()
noncomputable def tw4860858234702043351:=()
noncomputable def tw9330589632289498424:=()
noncomputable def tw14465819960438835540:=()
noncomputable def tw15367728419744731052:=()
noncomputable def tw6219214247477532278:=()
noncomputable def tw14280833544794344072:=()
noncomputable def tw9804139481137114621:=()
noncomputable def tw10646459261767902836:=()
noncomputable def tw13197510458320790395:=()
noncomputable def tw9949270011864611705:=()
noncomputable def tw8435716170153302252:=()
noncomputable def tw4030059548338344548:=()
noncomputable def tw15189894017191718789:=()
noncomputable def tw1818961937112391922:=()
noncomputable def tw4727425350833576415:=()
noncomputable def tw12771650087325521994:=()
noncomputable def tw6999522197881722603:=()
noncomputable def tw3679015494572875618:=()
noncomputable def tw8895612405010847029:=()
noncomputable def tw13126056232503698555:=()
noncomputable def tw10444291272902840591:=()
noncomputable def tw16340242415332101315:=()
noncomputable def tw4423716774809666885:=()
noncomputable def tw1624315028315341096:=()
noncomputable def tw17821169228570200182:=()
noncomputable def tw11642033002495863873:=()
noncomputable def tw3692475710581556681:=()
noncomputable def tw5470898419606636592:=()
noncomputable def tw1741817619120113222:=()
noncomputable def tw3752079260772742211:=()
noncomputable def tw6975524948509476092:=()
noncomputable def tw11754928765141588895:=()
noncomputable def tw4505631697894207330:=()
noncomputable def tw7638159841664137553:=()
noncomputable def tw5537665662330764014:=()
noncomputable def tw2932386494584586569:=()
noncomputable def tw8882041062147049003:=()
noncomputable def tw13024310266576149044:=()
noncomputable def tw10524456524817157196:=()
noncomputable def tw673715042780830566:=()
noncomputable def tw16632137217252071:=()
noncomputable def tw16001579087403526883:=()
noncomputable def tw186915087045547800:=()
noncomputable def tw12021087460153172774:=()
noncomputable def tw3511234165394882749:=()
noncomputable def tw18239312609228568514:=()
noncomputable def tw12459728362952298321:=()
noncomputable def tw14297380957666902779:=()
noncomputable def tw1387338341223640248:=()
noncomputable def tw1538279405688167621:=()
noncomputable def tw2976383651715155518:=()
noncomputable def tw10132530622201719926:=()
noncomputable def tw3840794127479352053:=()
noncomputable def tw10110089985253627069:=()
noncomputable def tw6117238529480243777:=()
noncomputable def tw9388376517310416443:=()
noncomputable def tw4930692429535327266:=()
noncomputable def tw8421430474961190839:=()
noncomputable def tw6426874046235719122:=()
noncomputable def tw1446616947572449427:=()
noncomputable def tw8752422971987628294:=()
noncomputable def tw17392149022097182668:=()
noncomputable def tw4439210342022473013:=()
noncomputable def tw9975044219336408618:=()
noncomputable def tw12389935459283633170:=()
noncomputable def tw3188994487342941180:=()
noncomputable def tw17811568375555058924:=()
noncomputable def tw10574858284319532413:=()
noncomputable def tw11229639469217271222:=()
noncomputable def tw12007300625086981754:=()
noncomputable def tw1023389119628948258:=()
noncomputable def tw12881957697776484983:=()
noncomputable def tw7993381047980874327:=()
noncomputable def tw14064424539421113609:=()
noncomputable def tw15709983574371601067:=()
noncomputable def tw18441237746538846625:=()
noncomputable def tw11965328349598690493:=()
noncomputable def tw15980861349067162689:=()
noncomputable def tw6509226799444608960:=()
noncomputable def tw14091456183493182015:=()
noncomputable def tw11496524067681451388:=()
noncomputable def tw9429406778481242189:=()
noncomputable def tw11544699168258689169:=()
noncomputable def tw6944972828867514760:=()
noncomputable def tw5049246850968998784:=()
noncomputable def tw2645432232819643509:=()
noncomputable def tw14383343720288618370:=()
noncomputable def tw14350829559415949446:=()
noncomputable def tw3041113913750812062:=()
noncomputable def tw8644104698901465672:=()
noncomputable def tw2613340898558742013:=()
noncomputable def tw11753761957034430880:=()
noncomputable def tw9765919762792053925:=()
noncomputable def tw977022772518537144:=()
noncomputable def tw18267919285305104749:=()
noncomputable def tw1700052321710892992:=()
noncomputable def tw2037933587364375653:=()
noncomputable def tw196271099702295603:=()
noncomputable def tw11447141951043847281:=()
noncomputable def tw7020256332012070764:=()
noncomputable def tw6512425612618110028:=()
noncomputable def tw8879431681658993250:=()
noncomputable def tw12089659176696513496:=()
noncomputable def tw183975156933714813:=()
noncomputable def tw6366957911201789769:=()
noncomputable def tw6871840872800207275:=()
noncomputable def tw8059834136756446394:=()
noncomputable def tw9888442349176349215:=()
noncomputable def tw16483560935500505053:=()
noncomputable def tw13893127620181118969:=()
noncomputable def tw7888522689712111279:=()
noncomputable def tw17264590483386283262:=()
noncomputable def tw13124043763433757474:=()
noncomputable def tw8867826347842806607:=()
noncomputable def tw15187560313641009608:=()
noncomputable def tw3532616548096223319:=()
noncomputable def tw13578521210994621873:=()
noncomputable def tw1418229287463575172:=()
noncomputable def tw11368011719530121642:=()
noncomputable def tw4808408083041088198:=()
noncomputable def tw1584759118478834702:=()
noncomputable def tw282613414247795379:=()
noncomputable def tw5848561880250410394:=()
noncomputable def tw13604444920558346982:=()
noncomputable def tw13471538603510415453:=()
noncomputable def tw4994705663522013094:=()
noncomputable def tw3272215638537573966:=()
noncomputable def tw16924041408232363051:=()
noncomputable def tw4528305512743770603:=()
noncomputable def tw17979136652222968128:=()
noncomputable def tw2691343706262104093:=()
noncomputable def tw5672152949949801230:=()
noncomputable def tw9401780560709195860:=()
noncomputable def tw18073784446841812289:=()
noncomputable def tw14590644753245874613:=()
noncomputable def tw915884963939344973:=()
noncomputable def tw560145134817632687:=()
noncomputable def tw8889695082576493544:=()
noncomputable def tw16976363862544887:=()
noncomputable def tw13996531447670267147:=()
noncomputable def tw6937083557755674636:=()
noncomputable def tw12746929419978319873:=()
noncomputable def tw472425324221113947:=()
noncomputable def tw14724651006954880965:=()
noncomputable def tw4060465798299426411:=()
noncomputable def tw16739212275970405747:=()
noncomputable def tw11011223575689009473:=()
noncomputable def tw2795085755204599773:=()
noncomputable def tw1772582663543503106:=()
noncomputable def tw10055929171363705807:=()
noncomputable def tw6806255837183535133:=()
noncomputable def tw8590072917907001134:=()
noncomputable def tw16751984581142964415:=()
noncomputable def tw16371490414654768583:=()
noncomputable def tw13368423831527743005:=()
noncomputable def tw11445865182782175143:=()
noncomputable def tw9544750825945879554:=()
noncomputable def tw6527930423071322475:=()
noncomputable def tw8185001564509372285:=()
noncomputable def tw5459563793555537428:=()
noncomputable def tw17063486001518678315:=()
noncomputable def tw908660406769128413:=()
noncomputable def tw3079180211333359127:=()
noncomputable def tw4845131272387874874:=()
noncomputable def tw5611112291195398549:=()
noncomputable def tw15501771815706181009:=()
noncomputable def tw12150560439579197704:=()
noncomputable def tw5515045716054613278:=()
noncomputable def tw6821756523304392566:=()
noncomputable def tw18241174863168974007:=()
noncomputable def tw3252665104666259610:=()
noncomputable def tw15359472934055516668:=()
noncomputable def tw10097486178800041637:=()
noncomputable def tw17373209539541582610:=()
noncomputable def tw7988271878683356129:=()
noncomputable def tw18408568162991696220:=()
noncomputable def tw13238122181774603056:=()
noncomputable def tw8102784346084067235:=()
noncomputable def tw1755303967066173827:=()
noncomputable def tw1886895609310375941:=()
noncomputable def tw7957084435475975231:=()
noncomputable def tw15071364126966982077:=()
noncomputable def tw13790730864386223946:=()
noncomputable def tw87497314029867320:=()
noncomputable def tw9253748831362313324:=()
noncomputable def tw5729017883642509708:=()
noncomputable def tw14940624247400587662:=()
noncomputable def tw8595093104244148732:=()
noncomputable def tw480253672127317477:=()
noncomputable def tw12192417803040132984:=()
noncomputable def tw5409262493398280605:=()
noncomputable def tw14087542464366336248:=()
noncomputable def tw11182136175496449670:=()
noncomputable def tw16419733043523985860:=()
noncomputable def tw2187769957983425693:=()
noncomputable def tw14100470468032007584:=()
noncomputable def tw14437567507990289715:=()
noncomputable def tw5355389661484716505:=()
noncomputable def tw9705165880279967346:=()
noncomputable def tw7438547536280499539:=()
noncomputable def tw15137137275056500524:=()
noncomputable def tw4824084660816604830:=()
noncomputable def tw16303318039420367344:=()
noncomputable def tw4120192010263205443:=()
noncomputable def tw8555764208579925926:=()
noncomputable def tw16440156541785904109:=()
noncomputable def tw9491021522939782682:=()
noncomputable def tw9693371757438110519:=()
noncomputable def tw17938535193689399985:=()
noncomputable def tw13745194353119383287:=()
noncomputable def tw2615870320084858997:=()
noncomputable def tw18303095500150188419:=()
noncomputable def tw14345760020958313947:=()
noncomputable def tw7861313864607996228:=()
noncomputable def tw4763545625008212489:=()
noncomputable def tw3224299927917236020:=()
noncomputable def tw8218485322081809494:=()
noncomputable def tw18110068180429623340:=()
noncomputable def tw12419604787058613446:=()
noncomputable def tw7895157891841011675:=()
noncomputable def tw17438921447560745574:=()
noncomputable def tw14447389726820692045:=()
noncomputable def tw11259685024885782615:=()
noncomputable def tw11520523521592627778:=()
noncomputable def tw9408130256670876966:=()
noncomputable def tw13294529415850660168:=()
noncomputable def tw1722068845511752237:=()
noncomputable def tw14056712970538546825:=()
noncomputable def tw8175471342150262160:=()
noncomputable def tw1913379203804236330:=()
noncomputable def tw12574524263736896589:=()
noncomputable def tw12928433832453609104:=()
noncomputable def tw14971152087485053098:=()
end PySem.W.Fast
set_option maxHeartbeats 9999999
local macro_rules|`(tactic|omega)=>`(tactic|first|lia -verbose|omega (config:={}))
local macro_rules|`(tactic|lia)=>`(tactic|first|lia -verbose|omega (config:={}))
local macro_rules|`(tactic|decide)=>`(tactic|first|decide +kernel|decide +revert)
open PySem renaming wpAny_bind→a00,Shared→a01,wpAny_pure→a02,foldedSetIterable→a04,model→a05,wpAny→a07,wpAny_mono→a08,starEach→a11,mainGlobals→a12,Expr→a13,Program→a15,wpAny_holding→a16,wpAny_standAt→a17,letOwnedTupleGo→a18,Around→a19,World→a20,notedBy→a21,assignEach→a24,codeAny→a25,standAt→a28,assign→a29,wpAny_rule→a30,noteFrame→a31,compareOp→a32,wpAny_newObj_type→a33,FuncData→a34,relabel→a35,binaryOp→a36,backTo→a37,bootBuiltins→a39,wpAny_passesOwn→a40,compEnvC→a41,wpAny_truthy_bool→a42,holding→a43,theTreesLotGoes→a44,wpAny_Call_Name_kw→a45,compTurn→a48,codeAny_mono→a49,swapsWith→a51,pyNext→a52,swapsWithSole→a53,swappedStores→a54,behindInMarks→a56,wpAny_field→a57,sliceBounds→a58,wpAny_execs_nil→a59,codeAny_loop→a61,NameKind→a62,wpAny_noted→a63,pyIter→a65,comprehension→a66,attributeBase→a67,wpAny_updateSeq→a69,rawInt→a72,keywordEach→a73,compPost→a74,Result→a75,compStart→a76,callerA→a77,assignInOrder→a79,wpAny_load→a80,wpAny_pyIter_list→a82,Model→a83,wpAny_eqBool_int→a84,wpAny_call_entry→a85,wpAny_askSetting→a86,getMethod→a87,IsPart→a88,sizeLine_eq→a89,theWindowsPlace→a90,codeAny_of_tree→a91,getItem→a92,BindsTo→a93,wpAny_setField→a94,wpAny_loadPart→a95,wpAny_call→a96,bindArgs→a99,backToKw→b00,Operator→b01,wpAny_notedAt→b02,wpAny_newList→b03,wpAny_getItem_list_slice→b04,wpAny_attempt→b05,eval_ListComp→b07,evalPart_none→b08,updateSeq→b09,bindL→b10,bindC→b11,again→b12,PassesOwn→b15,wpAny_runOwn→b16,wpAny_pyNext_list_item→b17,seqIndex_neg→b19,newList→b20,leaving→b21,isTrue→b22,wpAny_pyNext_list_end→b23,wpAny_of_eq→b24,wpAny_loadName_local→b25,unpackItems→b26,seqIndex_of→b27,numAt_eq→b28,bindName→b30
open PyProof.Rows renaming wpS_bind→a03,wpS_pure→a06,pendingOf→a09,arrOf→a10,SortSt→a14,wpS_forRange→a22,wpS_mono→a27,wpS_modify→a38,wpS_get→a46,failedOf→a47,minRun'→a55,envOfC→a60,AllBare→a64,SortKind→a68,wpS_lift→a70,seqObj→a71,IntsAre→a78,assignInOrder_cons→a81,setPending→a97,setArr→a98,subscriptTail→b06,subscriptTail_builtinR→b18,mergeAt'→b29
open List renaming getElem?_eq_getElem→a8y,length_map→a9a,length_append→a9b,getElem?_eq_some_iff→a9c,mem_of_getElem?→a9f,mem_cons→a9g,getElem?_map→a9h,getElem?_append_left→a9i,mem_append→a9k,getElem?_append_right→a9l,mem_map→a9m,getElem_mem→a9n,getElem_of_mem→a9o,size_toArray→a9p,mem_singleton→a9q,replicate→a9s,getElem?_eq_none→a9v,not_mem_nil→a9w,Nodup→a9x,append_assoc→a9z,length_take→b0d,length_drop→b0e,mem_cons_of_mem→b0f,getD_eq_getElem?_getD→b0h,mem_append_right→b0j,take_append_drop→b0o,length_cons→b0r,pairwise_append→b0w,length_reverse→b0x,range→b0y,length_replicate→b0z,mem_range→b1c,length_range→b1d,ext_getElem?→b1j,mem_of_mem_drop→b1l,map_cons→b1q,pairwise_iff_getElem→b1r,lookup_cons→b1u,map_congr_left→b1v,mem_of_mem_take→b1y,take_of_length_le→b1z,extract_eq_take_drop→b2a,length_singleton→b2d,getElem?_zipWith→b2e,mem_reverse→b2g,map_map→b2h,getElem?_cons_succ→b2j,length_zipWith→b2m,all_eq_true→b2o,getElem?_reverse→b2p,getElem?_drop→b2r,append_nil→b2u,drop_append_of_le_length→b2v,map_append→b2w,drop_eq_nil_of_le→b3c,cons_append→b3d,take_length→b3e,length→b3g,pairwise_reverse→b3h,drop_eq_getElem_cons→b3k,Perm→b3l,drop_drop→b3p,getElem?_range→b3r,mem_flatMap→b3s,pairwise_singleton→b3x,getElem?_take→b4a,nodup_cons→b4b,Pairwise→b4c,count_eq_zero_of_not_mem→b4d,drop_sublist→b4g,take_succ→b4j,map_nil→b4n,mem_append_left→b4t,getElem?_eq_none_iff→b4z,filterMap_cons→b5a,drop→b5b,lookup→b5h,mem_cons_self→b5l,getElem?_replicate→b5o,zipWith→b5p,drop_zero→b5s,take_sublist→b5u,getElem_drop→b5v,pairwise_map→b5w,getElem?_set_self→b5z,perm_append_comm→b6b,replicate_succ'→b6h,take_append_of_le_length→b6l,range_succ→b6m,length_nil→b6n,nil_append→b6o,take_succ_cons→b6u,replicate_succ→b6v,flatMap_append→b6w,length_flatMap→b6x,mem_filterMap→b7b,pairwise_cons→b7c,map_drop→b7l,reverse_perm→b7m,getElem_take→b7n,flatMap_cons→b7o,sublist_append_left→b7u,perm_middle→b8a,getElem?_cons_zero→b8g,length_eq_zero_iff→b8h,Sublist→b8i,mem_filter→b8r,of_mem_zip→b8s,countP_le_length→b9g,drop_take→b9l,take_take→b9m,take_zero→b9n,getElem?_set_ne→b9q,getElem_toArray→b9r,map→b9y,reverse_cons→c0n,foldl_append→c0o,countP_congr→c0p,count_append→c0q,map_id→c0t
open PySem.W renaming Frag→a8z,kqdOk→a9y,nsIn→b0b,mg_none_of→b0g,findIn→b0i,keepIn→b1h,kitOne→b1i,fnOf→b1n,Dat→b1p,kia_one→b1t,emptyDict→b2b,mg_of→b2c,codeIn→b2l,instObj→b3a,kqdP→b3y,plainGet→b4y,hideAll_get→b5f,clsIn→b5g,hideAll→b5k,isFn→b5r,exmOne→b5t,hasDictIn→b5y,mroIn→b6f,looks_findIn→b6k,makesIn→b6s,plainGet_of→b6z,lookIn→b7a,methodObj→b7r,plainOver→b7s,specialIn→b7t,takerIn→b8z,takesIn→b9a,cellsFrom_some→b9b,findObj→b9c,kas_ask→b9d,KatTups→b9e,InstAt→b9p,Looks→b9w,kqdPs→b9x,of_hideAll→c0f,callWith_K→c0g,kitx_list→c0r,kitx_dict→c0s,handedIn→c1a,kat_cons→c1b,OpenLaw→c1c,kqd_eqv→c1d,kat_yes→c1e,nsOkIn→c1f,tailIn→c1g,kat_go→c1h,kat_no→c1i
open Array renaming length_toList→a9d,getElem?_eq_getElem→b1k,getElem?_toList→b1w,toList_extract→b2t,size_push→b2x,toList_push→b4h,getD_eq_getD_getElem?→b4l,getElem_toList→b4v,getElem?_eq_some_iff→b4x,toList_append→b5d,toList_reverse→b6j,map→b6p,toList_setIfInBounds→b7g,perm_iff_toList_perm→b7h,getElem?_extract→b8v,toList_modify→b9v,append_assoc→c0a,size_extract→c0b,toList_map→c0y
open Rat renaming divInt→a9e,intCast_mul→a9u,divInt_eq_div→b0t,intCast_le_intCast→b1s,num_divInt_den→b2f,intCast_add→b2y,mul_le_mul_of_nonneg_left→b2z,not_lt→b3v,mul_lt_mul_of_pos_right→b4m,le_of_lt→b4r,le_trans→b4s,divInt_mul_right→b4w,le_antisymm→b6q,mul_pos→b7i,lt_of_mul_lt_mul_right→b7j,mul_lt_mul_of_pos_left→b7k,not_le→b8f,num_intCast→b8w,den_intCast→b8x,intCast_lt_intCast→b8y,div_mul_cancel→c0c,sub_eq_add_neg→c0d,le_refl→c0z
open Nat renaming le_refl→a9j,lt_of_lt_of_le→b0k,mul_le_mul_left→b0m,le_trans→b0n,ne_of_lt→b0s,zero_le→b1m,le_of_lt→b1x,lt_of_le_of_lt→b2s,zero_max→b3b,lt_irrefl→b3m,lt_trichotomy→b3n,lt_succ_self→b3t,mul_le_mul→b4k,pow_succ→b4o,pow_le_pow_right→b4u,two_pow_pos→b5i,zero_add→b5q,Coprime→b6c,mul_le_mul_right→b6i,succ_mul→b6t,le_of_not_lt→b8b,le_of_eq→b8j,add_comm→b8k,sub_le_of_le_add→b9s,le_of_dvd→b9t,sub_le_sub_left→b9u,sub_zero→c0h,sub_self→c0i,add_zero→c0j,zero_mul→c0k,le_succ→c0u
open Int renaming gcd→a9r,toNat→b0l,fdiv_eq_ediv_of_nonneg→b0v,mul_pos→b1b,mul_ediv_cancel_left→b1e,mul_comm→b1f,toNat_natCast→b1o,mul_nonneg→b2k,mul_assoc→b2q,natAbs_dvd_natAbs→b3i,le_of_lt→b3j,dvd_trans→b3o,natAbs_mul→b3q,le_refl→b3u,emod_nonneg→b4e,pow_succ→b4p,le_trans→b4q,mul_neg_of_pos_of_neg→b5c,natAbs_natCast→b5m,natCast_nonneg→b5n,gcd_dvd_left→b6d,gcd_pos_of_ne_zero_right→b6y,emod_lt_of_pos→b7d,fmod_eq_emod_of_nonneg→b7e,one_mul→b7f,gcd_dvd_right→b7p,lt_trichotomy→b7q,gcd_dvd_natAbs_right→b7v,min_le_right→b8c,le_max_right→b8d,gcd_comm→b8l,ediv_ediv_of_nonneg→b8m,eq_ofNat_of_zero_le→b8n,natCast_mul→b8t,natCast_add→b8u,mul_one→b9h,pow_add→b9i,sub_eq_add_neg→b9z,lt_or_le→c0l,pow_zero→c0m,mul_add→c0v
open Option renaming some→a9t,map_eq_some_iff→b4f,isSome_iff_exists→b7w,getD_some→b8e,getD_none→c0w,bind_some→c0x
open Bool renaming false_ne_true→b0a,and_eq_true→b1g,eq_iff_iff→b5j,not_eq_true'→b5x,not_eq_true→b6e,or_eq_true→b6r,false_and→b9o,false_eq_true→c0e
open PySem.F renaming plainAttrs_list→b0c,slot_list_append→b0p,type_list_append→b0q,args_tuple_add_2→b7x,slot_list_extend→b7y,type_list_extend→b7z,entry_tuple_add→b8o,slot_list_index→b8p,type_list_index→b8q,slot_tuple_add→b9f
open PyProof.Rows renaming boot_list→b0u,boot_isinstance→b1a,kindOf→b2n,callWith_type1→b3f,slot_tuple_getitem→b3w,boot_tuple→b3z,boot_max→b4i,boot_min→b6g,boot_abs→b9j,boot_int→b9k
open Prod renaming mk→b5e,ext→b6a
noncomputable section
set_option Elab.async false
set_option linter.all false
set_option maxRecDepth 100000
namespace L2
open PySem PySem.Spec PyProof.Rows
abbrev qy:=Sum Int Str
noncomputable def a1j:qy->Value->Bool
 | .inl k,v=>Value.isInt k v
 | .inr x,v=>Value.isStrOf x v
noncomputable def keyH(w:a20):qy->Int
 | .inl k=>hashInt k
 | .inr x=>hashStr w x
theorem aS:∀ {k:qy} {v:Value},a1j k v=true->(∃ i t,k=Sum.inl i/\v=Value.int i t)\/(∃ x t,k=Sum.inr x/\v=Value.str x t)
 | .inl i,v,h=>by
   obtain⟨t,e⟩:=Value.isInt_shape (k:=i) (v:=v) h;exact .inl ⟨i,t,rfl,e⟩
 | .inr x,v,h=>by
   obtain⟨t,e⟩:=Value.isStrOf_shape (x:=x) (v:=v) h;exact .inr ⟨x,t,rfl,e⟩
theorem a5a(a b:Int):decide ((Sum.inl a:qy)=Sum.inl b)=(a == b):=by
 by_cases e:a=b
 .subst e;simp
 .have h:¬ (Sum.inl a:qy)=Sum.inl b:=fun q=>e (Sum.inl.inj q);rw[decide_eq_false h];exact (beq_eq_false_iff_ne.mpr e).symm
theorem a4x(a b:Str):decide ((Sum.inr a:qy)=Sum.inr b)=decide (a=b):=by
 by_cases e:a=b
 .subst e;simp
 .have h:¬ (Sum.inr a:qy)=Sum.inr b:=fun q=>e (Sum.inr.inj q);rw[decide_eq_false h,decide_eq_false e]
theorem a4z(a:Int)(b:Str):decide ((Sum.inl a:qy)=Sum.inr b)=false:=decide_eq_false (fun q=>nomatch q)
theorem a4y(a:Str)(b:Int):decide ((Sum.inr a:qy)=Sum.inl b)=false:=decide_eq_false (fun q=>nomatch q)
noncomputable def vz(prog:a15)(w:a20):PySem.KeyKind prog w qy where
 is:=a1j
 hash:=keyH w
 inj:=fun v a b ha hb=>by
  rcases aS ha with⟨i,t,rfl,rfl⟩ | ⟨x,t,rfl,rfl⟩
  .rcases aS hb with⟨j,u,rfl,e⟩ | ⟨y,u,rfl,e⟩
   .injection e with e1 _;rw[e1]
   .exact nomatch e
  .rcases aS hb with⟨j,u,rfl,e⟩ | ⟨y,u,rfl,e⟩
   .exact nomatch e
   .injection e with e1 _;rw[e1]
 byValue:=fun k v h=>by
  rcases aS h with⟨i,t,rfl,rfl⟩ | ⟨x,t,rfl,rfl⟩<;>rfl
 pyHash:=fun hv h=>by
  rcases aS hv with⟨i,t,rfl,rfl⟩ | ⟨x,t,rfl,rfl⟩
  .exact wpAny_pyHash_int h
  .exact wpAny_pyHash_str h
 eqBool:=fun hu hv h=>by
  rcases aS hu with⟨i,t,rfl,rfl⟩ | ⟨x,t,rfl,rfl⟩
  .rcases aS hv with⟨j,u,rfl,rfl⟩ | ⟨y,u,rfl,rfl⟩
   .rw[a5a] at h;exact a84 h
   .rw[a4z] at h;exact SeqAt.EqAt.int_str i t y u _ _ _ _ h
  .rcases aS hv with⟨j,u,rfl,rfl⟩ | ⟨y,u,rfl,rfl⟩
   .rw[a4y] at h;exact SeqAt.EqAt.str_int x t j u _ _ _ _ h
   .rw[a4x] at h;exact wpAny_eqBool_str h
 «strs»:=fun k x t v h=>by
  rcases aS h with⟨i,u,rfl,e⟩ | ⟨y,u,rfl,e⟩
  .exact nomatch e
  .injection e with e1 _;subst e1;cases v<;>rfl
inductive V where
 | non | bl (b:Bool) | int (i:Int) | str (x:Str) | byt (b:Array UInt8) | flt (b:UInt64) | ref (a:Addr) | ty (n:String)
 deriving DecidableEq
noncomputable def am:V->Value->Prop
 | .non,u=>u=Value.none
 | .bl b,u=>u=Value.bool b
 | .int i,u=>∃ t,u=Value.int i t
 | .str x,u=>∃ t,u=Value.str x t
 | .byt b,u=>∃ t,u=Value.bytes b t
 | .flt b,u=>∃ t,u=Value.float b t
 | .ref a,u=>u=Value.ref a
 | .ty n,u=>u=Value.type n
abbrev x9:List V->List Value->Prop:=Paired am
theorem x9.length{xs:List V}{us:List Value}(r:x9 xs us):xs.length=us.length:=Paired.length r
theorem x9.get:∀ {xs:List V} {us:List Value} {i:Nat} {x:V},x9 xs us->xs[i]?=some x->∃ u,us[i]?=some u/\am x u
 | _,_,_,_,.nil,e=>by simp at e
 | _,_,0,_,.cons r _,e=>by simp at e;subst e;exact⟨_,rfl,r⟩
 | _,_,i+1,x,.cons _ t,e=>by
   obtain⟨u,h1,h2⟩:=x9.get (i:=i) (x:=x) t (by simpa using e);exact⟨u,by simpa using h1,h2⟩
theorem x9.set{x:V}{u:Value}(r:am x u):∀ {xs:List V} {us:List Value} (i:Nat),x9 xs us->x9 (xs.set i x) (us.set i u)
 | _,_,_,.nil=>.nil
 | _,_,0,.cons _ t=>.cons r t
 | _,_,i+1,.cons q t=>.cons q (x9.set r i t)
theorem x9.append:∀ {xs ys:List V} {us ws:List Value},x9 xs us->x9 ys ws->x9 (xs++ys) (us++ws)
 | _,_,_,_,.nil,s=>s
 | _,_,_,_,.cons r t,s=>.cons r (x9.append t s)
theorem x9.take:∀ {xs:List V} {us:List Value} (n:Nat),x9 xs us->x9 (xs.take n) (us.take n)
 | _,_,0,_=>.nil
 | _,_,_+1,.nil=>.nil
 | _,_,n+1,.cons r t=>.cons r (x9.take n t)
theorem x9.drop:∀ {xs:List V} {us:List Value} (n:Nat),x9 xs us->x9 (xs.drop n) (us.drop n)
 | _,_,0,r=>r
 | _,_,_+1,.nil=>.nil
 | _,_,n+1,.cons _ t=>x9.drop n t
theorem x9.none_of:∀ {xs:List V} {us:List Value} {i:Nat},x9 xs us->xs[i]?=none->us[i]?=none:=fun {xs us i} r e=>by
 have h1:=r.length;have h2:xs.length<=i:=b4z.mp e;exact b4z.mpr (by lia)
noncomputable def nS:Option V->Option Value->Prop
 | some v,some u=>am v u
 | none,none=>True
 | _,_=>False
noncomputable def KV{κ:Type}:List (κ×V)->List (κ×Value)->Prop:=Paired fun (p:κ×V) (q:κ×Value)=>p.1=q.1/\am p.2 q.2
noncomputable def kV:qy->V
 | .inl i=>.int i
 | .inr x=>.str x
inductive HO where
 | lst (xs:List V)
 | tup (xs:List V)
 | dK (kvs:List (qy×V)) | dT (kvs:List (List qy×V))
 | set (S:Int->Bool) (n:Nat)
 | ins (C dx:Addr) (fs:List (Str×V))
 | own (x:Addr)
 | xd (fs:List (Str×V))
 | met (f x:Addr)
 | rng (lo hi:Int)
 | frz (o:Obj) (u:HO)
 | tbl (ps:Array Value)
 | ext (φ:Heap->Prop)
abbrev Hp:=Addr->Option HO
noncomputable def upd(H:Hp)(a:Addr)(o:HO):Hp:=fun b=>if b=a then some o else H b
theorem b7{H:Hp}{a:Addr}{o:HO}:upd H a o a=some o:=by unfold upd;rw[if_pos rfl]
theorem i9{H:Hp}{a b:Addr}{o:HO}(h:b≠a):upd H a o b=H b:=by unfold upd;rw[if_neg h]
theorem oZ{H:Hp}{a:Addr}{o u:HO}:upd (upd H a o) a u=upd H a u:=by
 funext b;unfold upd;split<;>rfl
theorem n8{H:Hp}{a b:Addr}{o:HO}(h:H a=some o)(h':H b=none):a≠b:=by
 intro e;subst e;rw[h] at h';cases h'
section
variable (P:a15) (w:a20)
noncomputable def bK(H:Hp)(h:Heap)(a:Addr):HO->Prop
 | .lst xs=>xs.length<=sizeLine/\∃ (its:List Value) (n:Nat),x9 xs its/\h.get? a=some { cls:=.type "list",data:=.seq its.toArray n }
 | .tup xs=>xs.length<=sizeLine/\∃ its:List Value,x9 xs its/\IsTup h a its.toArray
 | .dK kvs=>kvs.length<=sizeLine/\(a == sysModules)=false/\∃ vs,KV kvs vs/\h.DictOf (vz P w) a vs
 | .dT kvs=>kvs.length<=sizeLine/\(a == sysModules)=false/\∃ xs:List (List qy×Addr×Value),
    Paired (fun (p:List qy×V) (q:List qy×Addr×Value)=>p.1=q.1/\H q.2.1=some (.tup (p.1.map kV))/\am p.2 q.2.2) kvs xs/\
    ∃ o es ep,h.get? a=some o/\o.ExactDict/\o.data=.dict es ep/\es.toList=xs.map (entryOfKey (tupleKind (vz P w)))/\(xs.map (·.1)).Nodup
 | .set S n=>h.SetOf (intKind P w) a S n
 | .ins C dx fs=>H dx=some (.own a)/\fs.length<=1000/\dx≠a/\h.get? a=some (b3a C dx)/\
    ∃ mA,h.Ns1 dx mA/\(∀ f,nS (fs.lookup f) (mA f))/\PySem.Within mA (fs.map (·.1))
 | .own _=>∃ o,h.get? a=some o
 | .xd fs=>∃ mA,h.Ns1 a mA/\∀ f,nS (fs.lookup f) (mA f)
 | .rng lo hi=>∃ t u v,h.get? a=some { cls:=.type "range",data:=.fields #[.int lo t,.int hi u,.int 1 v] }
 | .frz o u=>h.get? a=some o/\bK H h a u
 | .tbl ps=>h.get? a=some { cls:=.none,data:=.fields ps }
 | .met f x=>h.get? a=some (b7r (.ref f) (.ref x))
 | .ext φ=>φ h/\(∃ o,h.get? a=some o)/\∀ h1 h2:Heap,φ h1->(∀ o,h1.get? a=some o->h2.get? a=some o)->φ h2
noncomputable def jD(H:Hp)(h:Heap):Prop:=∀ a o,H a=some o->bK P w H h a o
end
section
variable {P:a15} {w:a20} {H H':Hp} {h h':Heap} {a:Addr} {o:HO}
theorem bK.lt(x:bK P w H h a o):a<h.objs.size:=by
 cases o with
 | lst xs=>obtain⟨_,_,_,_,e⟩:=x;exact Heap.lt_size e
 | tup xs=>obtain⟨_,_,_,p⟩:=x;exact p.lt
 | dK kvs=>obtain⟨_,_,_,_,o,_,_,e,_⟩:=x;exact Heap.lt_size e
 | dT kvs=>obtain⟨_,_,_,_,o,_,_,e,_⟩:=x;exact Heap.lt_size e
 | set S n=>obtain⟨o,_,_,_,e,_⟩:=x;exact Heap.lt_size e
 | ins C dx fs=>obtain⟨_,_,_,e,_⟩:=x;exact Heap.lt_size e
 | own y=>obtain⟨_,e⟩:=x;exact Heap.lt_size e
 | xd fs=>obtain⟨_,⟨_,_,_,e,_⟩,_⟩:=x;exact Heap.lt_size e
 | rng lo hi=>obtain⟨_,_,_,e⟩:=x;exact Heap.lt_size e
 | frz ob u=>obtain⟨e,_⟩:=x;exact Heap.lt_size e
 | tbl ps=>exact Heap.lt_size (show h.get? a=some _ from x)
 | met f y=>exact Heap.lt_size (show h.get? a=some _ from x)
 | ext φ=>obtain⟨_,⟨_,e⟩,_⟩:=x;exact Heap.lt_size e
theorem Paired.mapP{α β:Type}{F G:α->β->Prop}:∀ {l₁:List α} {l₂:List β},Paired F l₁ l₂->(∀ a b,F a b->G a b)->Paired G l₁ l₂
 | _,_,.nil,_=>.nil
 | _,_,.cons r t,f=>.cons (f _ _ r) (Paired.mapP t f)
theorem bK.stay(x:bK P w H h a o)(k:∀ b u,(b=a\/H b=some (.own a))->h.get? b=some u->h'.get? b=some u)(ho:∀ b,H b=some (.own a)->H' b=some (.own a))(ht:∀ b xs,H b=some (.tup xs)->H' b=some (.tup xs)):bK P w H' h' a o:=by
 induction o with
 | lst xs=>obtain⟨z,its,n,r,e⟩:=x;exact⟨z,its,n,r,k _ _ (.inl rfl) e⟩
 | tup xs=>obtain⟨z,its,r,ob,e,c⟩:=x;exact⟨z,its,r,ob,k _ _ (.inl rfl) e,c⟩
 | dK kvs=>obtain⟨z,y,vs,r,ob,es,ep,e,c⟩:=x;exact⟨z,y,vs,r,ob,es,ep,k _ _ (.inl rfl) e,c⟩
 | dT kvs=>
   obtain⟨z,y,xs,r,ob,es,ep,e,c⟩:=x;exact⟨z,y,xs,Paired.mapP r fun p q z=>⟨z.1,ht _ _ z.2.1,z.2.2⟩,ob,es,ep,k _ _ (.inl rfl) e,c⟩
 | set S n=>obtain⟨ob,es,ep,t,e,c⟩:=x;exact⟨ob,es,ep,t,k _ _ (.inl rfl) e,c⟩
 | ins C dx fs=>
   obtain⟨d,z,ne,e,mA,⟨od,es,ep,e2,c⟩,r⟩:=x;exact⟨ho _ d,z,ne,k _ _ (.inl rfl) e,mA,⟨od,es,ep,k _ _ (.inr d) e2,c⟩,r⟩
 | own y=>obtain⟨ob,e⟩:=x;exact⟨ob,k _ _ (.inl rfl) e⟩
 | xd fs=>obtain⟨mA,⟨od,es,ep,e,c⟩,r⟩:=x;exact⟨mA,⟨od,es,ep,k _ _ (.inl rfl) e,c⟩,r⟩
 | rng lo hi=>obtain⟨t,u,v,e⟩:=x;exact⟨t,u,v,k _ _ (.inl rfl) e⟩
 | frz ob u ih=>obtain⟨e,q⟩:=x;exact⟨k _ _ (.inl rfl) e,ih q⟩
 | tbl ps=>
   have e:h.get? a=some { cls:=.none,data:=.fields ps }:=x;show h'.get? a=some { cls:=.none,data:=.fields ps };exact k a _ (.inl rfl) e
 | met f y=>
   have e:h.get? a=some (b7r (.ref f) (.ref y)):=x;show h'.get? a=some (b7r (.ref f) (.ref y));exact k a _ (.inl rfl) e
 | ext φ=>obtain⟨p,⟨o,e⟩,st⟩:=x;exact⟨st _ _ p fun o q=>k _ _ (.inl rfl) q,⟨o,k _ _ (.inl rfl) e⟩,st⟩
theorem jD.lt(x:jD P w H h)(e:H a=some o):a<h.objs.size:=(x a o e).lt
theorem jD.fresh(x:jD P w H h)(e:h.objs.size<=a):H a=none:=by
 cases q:H a with
 | none=>rfl
 | some u=>exact absurd (b0k (x.lt q) e) (b3m _)
theorem jD.kept(x:jD P w H h)(k:∀ b u,h.get? b=some u->h'.get? b=some u):jD P w H h':=fun a o e=>
 (x a o e).stay (fun b u _ q=>k b u q) (fun _ q=>q) fun _ _ q=>q
theorem jD.laid(x:jD P w H h)(k:∀ b u,h.get? b=some u->h'.get? b=some u)(hp:h.objs.size<=a)(new:bK P w (upd H a o) h' a o):jD P w (upd H a o) h':=fun b u e=>by
 have hn:=x.fresh hp;by_cases hb:b=a
 .subst hb;rw[b7] at e;cases e;exact new
 .rw[i9 hb] at e;exact (x b u e).stay (fun c v _ q=>k c v q) (fun c q=>by rw[i9 (n8 q hn)];exact q) fun c xs q=>by rw[i9 (n8 q hn)];exact q
end
noncomputable def Rd(H:Hp)(a:Addr)(u:HO):Prop:=H a=some u\/∃ o,H a=some (.frz o u)
theorem Rd.ok{P:a15}{w:a20}{H:Hp}{h:Heap}{a:Addr}{u:HO}(r:Rd H a u)(x:jD P w H h):bK P w H h a u:=by
 rcases r with r | ⟨o,r⟩
 .exact x a u r
 .obtain⟨_,q⟩:=x a _ r;exact q
noncomputable def Mut:Option HO->Prop
 | some (.lst _)=>True
 | some (.dK _)=>True
 | some (.dT _)=>True
 | some (.set _ _)=>True
 | some (.ins _ _ _)=>True
 | some (.ext _)=>True
 | _=>False
section
variable {P:a15} {w:a20} {H:Hp} {h h':Heap} {x e:Addr} {o':HO}
theorem jD.write(ok:jD P w H h)(mu:Mut (H x))(he:e=x\/H e=some (.own x))(k:∀ b u,b≠e->h.get? b=some u->h'.get? b=some u)(heo:∃ u,h'.get? e=some u)(new:bK P w (upd H x o') h' x o'):jD P w (upd H x o') h':=fun b u q=>by
 have nown:∀ c y,H c=some (.own y)->c≠x:=fun c y r z=>by subst z;rw[r] at mu;exact mu
 have ntup:∀ c xs,H c=some (.tup xs)->c≠x:=fun c xs r z=>by subst z;rw[r] at mu;exact mu
 by_cases hb:b=x
 .subst hb;rw[b7] at q;cases q;exact new
 .rw[i9 hb] at q;by_cases hbe:b=e
  .have q':H b=some (.own x):=by
    rcases he with z | z
    .exact absurd (hbe.trans z) hb
    .rw[hbe];exact z
   rw[q] at q';cases q';obtain⟨v,hv⟩:=heo;exact⟨v,by rw[hbe];exact hv⟩
  .refine (ok b u q).stay (fun c v hc r=>k c v ?_ r) (fun c r=>by rw[i9 (nown c b r)];exact r) fun c xs r=>by rw[i9 (ntup c xs r)];exact r
   rcases hc with rfl | hc
   .exact hbe
   .rintro rfl;rcases he with z | z
    .exact nown c b hc z
    .rw[hc] at z;cases z;exact hb rfl
end
structure Un(fs ex:List Addr)(H H':Hp)(h h':Heap):Prop where
 keep:∀ b o,h.get? b=some o->H b=none->b∉fs->b∉ex->h'.get? b=some o
 slot:∀ b o,h.get? b=some o->H b=none->b∈fs->b∉ex->∃ sl,h'.get? b=some { o with slots:=sl }
 free:∀ b o,h.get? b=some o->H b=none->b∉ex->H' b=none
 there:∀ b o,h.get? b=some o->b∉ex->∃ o',h'.get? b=some o'
 tups:∀ b xs,H b=some (.tup xs)->H' b=some (.tup xs)
 frzs:∀ b o u,H b=some (.frz o u)->H' b=some (.frz o u)
 tbls:∀ b ps,H b=some (.tbl ps)->∃ more,H' b=some (.tbl (ps++more))
section
variable {fs fs' ex ex':List Addr} {H H1 H2:Hp} {h h1 h2 h':Heap} {a x e:Addr} {o:HO}
theorem Un.any(u:Un fs ex H H1 h h1){b:Addr}{ob:Obj}(q:h.get? b=some ob)(n:H b=none)(hx:b∉ex):∃ sl,h1.get? b=some { ob with slots:=sl }:=by
 by_cases hb:b∈fs
 .exact u.slot b ob q n hb hx
 .exact⟨ob.slots,u.keep b ob q n hb hx⟩
theorem Un.kept(k:∀ b u,h.get? b=some u->h'.get? b=some u):Un fs ex H H h h':=
 ⟨fun b ob q _ _ _=>k b ob q,fun b ob q _ _ _=>⟨ob.slots,k b ob q⟩,fun _ _ _ n _=>n,fun b ob q _=>⟨ob,k b ob q⟩,fun _ _ q=>q,fun _ _ _ q=>q,fun _ ps q=>⟨#[],by rw[q];simp⟩⟩
theorem Un.refl:Un fs ex H H h h:=Un.kept fun _ _ q=>q
theorem Un.laid(k:∀ b u,h.get? b=some u->h'.get? b=some u)(hp:h.objs.size<=a)(hn:H a=none):Un fs ex H (upd H a o) h h' where
 keep:=fun b u q _ _ _=>k b u q
 slot:=fun b u q _ _ _=>⟨u.slots,k b u q⟩
 free:=fun b u q n _=>by rw[i9 (b0s (b0k (Heap.lt_size q) hp))];exact n
 there:=fun b u q _=>⟨u,k b u q⟩
 tups:=fun b xs q=>by rw[i9 (n8 q hn)];exact q
 frzs:=fun b u xs q=>by rw[i9 (n8 q hn)];exact q
 tbls:=fun b ps q=>⟨#[],by rw[i9 (n8 q hn),q];simp⟩
theorem Un.write(mu:Mut (H x))(he:e=x\/H e=some (.own x))(k:∀ b u,b≠e->h.get? b=some u->h'.get? b=some u)(heo:∃ u,h'.get? e=some u):Un fs ex H (upd H x o) h h':=by
 have hx:∀ b,H b=none->b≠x:=fun b n z=>by subst z;rw[n] at mu;exact mu
 have hb:∀ b,H b=none->b≠e:=fun b n z=>by
  subst z;rcases he with r | r
  .exact hx b n r
  .rw[n] at r;cases r
 have hm:∀ b u,H b=some u->¬ Mut (some u)->b≠x:=fun b u q nm z=>by subst z;rw[q] at mu;exact nm mu
 refine⟨fun b u q n _ _=>k b u (hb b n) q,fun b u q n _ _=>⟨u.slots,k b u (hb b n) q⟩,fun b u q n _=>by rw[i9 (hx b n)];exact n,fun b u q _=>?_,
  fun b xs q=>by rw[i9 (hm b _ q fun z=>z)];exact q,fun b u xs q=>by rw[i9 (hm b _ q fun z=>z)];exact q,fun b ps q=>⟨#[],by rw[i9 (hm b _ q fun z=>z),q];simp⟩⟩
 by_cases hbe:b=e
 .subst hbe;exact heo
 .exact⟨u,k b u hbe q⟩
end
noncomputable def trk(h:Heap)(H:Hp):List Addr:=(b0y h.objs.size).filter fun a=>(H a).isSome
noncomputable def pW(h:Heap)(H:Hp):Heap:=b5k h (trk h H)
theorem xp(h:Heap)(H:Hp):(pW h H).objs.size=h.objs.size:=PySem.W.hideAll_size _ _
theorem E5{h:Heap}{H:Hp}{b:Addr}{o:Obj}(e:h.get? b=some o)(n:H b=none):(pW h H).get? b=some o:=
 b5f _ e fun hm=>by
  have q:(H b).isSome=true:=(b8r.mp hm).2;rw[n] at q;simp at q
theorem U2{h:Heap}{H:Hp}{b:Addr}{o:Obj}(e:(pW h H).get? b=some o):h.get? b=some o/\H b=none:=by
 have e':h.get? b=some o:=c0f (trk h H) e;refine⟨e',?_⟩;cases q:H b with
 | none=>rfl
 | some x=>
   have hm:b∈trk h H:=b8r.mpr ⟨b1c.mpr (Heap.lt_size e'),by simp[q]⟩;have z:(pW h H).get? b=none:=PySem.W.hideAll_none (trk h H) hm;rw[z] at e;cases e
structure Mod(K:a8z)(mg:Str->Option Value)(base:Heap):Prop where
 kin:K.In base
 glob:base.Ns a12 mg
 blt:∃ mb,base.Ns builtinsNs mb/\∀ x:Str,x ≠ "__name__" -> mb x=a39 x
 nolimit:base.NoLimit
structure Cx where
 prog:a15
 w:a20
 K:a8z
 mg:Str->Option Value
 base:Heap
 A:a19
 N:List Str
 s₀:a01
 H₀:Hp
 env:Env
 outer:List Env
 stack:List Env
 ex:List Addr
 fn:Str->Bool
 calm:Bool
 pn:List (Addr×Obj)
 xe:Value->a01->Prop
noncomputable def jC(l:List Env):List Addr:=l.filterMap (·.frame)
abbrev Cx.fs(X:Cx):List Addr:=jC X.outer
noncomputable def a8p(sc:Scope)(x:Str):Prop:=sc.names.lookup x=some .local\/sc.names.lookup x=some .cell\/sc.names.lookup x=some .free
noncomputable def a1z(sc:Scope)(x:Str):Prop:=sc.names.lookup x=some .local\/sc.names.lookup x=some .cell
noncomputable def Look(env:Env)(h:Heap)(m:Str->Option Value)(x:Str)(u:Value):Prop:=
 (env.kindOf x=some .local/\m x=some u)\/((env.kindOf x=some .cell\/env.kindOf x=some .free)/\∃ c,env.cells.lookup x=some c/\h.IsCell c (some u))
structure Cx.Ok(X:Cx):Prop where
 mod:Mod X.K X.mg X.base
 kind:X.env.scope.kind=.function
 glob:X.env.globals=a12
 blt:X.env.builtins=builtinsNs
 above:X.s₀.heap.objs.size<=X.env.locals
 inj:∀ x y c,X.env.cells.lookup x=some c->X.env.cells.lookup y=some c->x=y
 has:∀ x,(X.env.kindOf x=some .cell\/X.env.kindOf x=some .free)->∃ c,X.env.cells.lookup x=some c
 cab:∀ x c,X.fn x=true->X.env.cells.lookup x=some c->X.s₀.heap.objs.size<=c
 hd:X.calm=true->X.A.handled=none
 frames:X.A.frames=some X.stack
 stk:X.stack=X.outer\/(X.stack=X.env::X.outer/\X.env.frame=some X.env.locals)
 exf:∀ b∈X.ex,b≠X.env.locals/\∀ x c,X.env.cells.lookup x=some c->c≠b
 bs:∀ b o,X.base.get? b=some o->X.s₀.heap.get? b=some o/\X.H₀ b=none
 bsz:X.base.objs.size<=X.s₀.heap.objs.size
 noex:∀ b o,X.base.get? b=some o->b∉X.ex
 exfs:∀ b∈X.ex,b∉X.fs
 funs:X.s₀.heap.FunFrames X.base X.outer
 frf:∀ b∈X.fs,X.H₀ b=none
structure n9(X:Cx)(c2t:List (Addr×Obj))(σ:List (Option V))(H:Hp)(s:a01):Prop where
 ok:X.Ok
 os:s.os=X.s₀.os
 bare:a64 s.gens
 base:Un X.fs X.ex X.H₀ H X.s₀.heap s.heap
 loc:∃ m,s.heap.Ns X.env.locals m/\∀ (i:Nat) (x:Str) (v:V),X.N[i]?=some x->σ[i]?=some (some v)->a8p X.env.scope x->∃ u,am v u/\Look X.env s.heap m x u
 cell:∀ x c,X.env.cells.lookup x=some c->∃ v,s.heap.IsCell c v
 free:H X.env.locals=none
 freeC:∀ x c,X.env.cells.lookup x=some c->H c=none
 pin:∀ p∈X.pn++c2t,s.heap.get? p.1=some p.2/\H p.1=none/\p.1≠X.env.locals/\p.1∉X.fs/\∀ v,p.2.data≠.cell v
 hok:jD X.prog X.w H s.heap
 len:σ.length=X.N.length
section
variable {X:Cx} {c2t:List (Addr×Obj)} {σ:List (Option V)} {H H':Hp} {s:a01} {h':Heap}
theorem Cx.Ok.nofr(ok:X.Ok){b:Addr}{o:Obj}(e:X.base.get? b=some o):b∉X.fs:=fun hb=>by
 have:=(ok.funs.mem hb).1;rw[e] at this;cases this
theorem n9.bs(I:n9 X c2t σ H s):∀ b o,X.base.get? b=some o->s.heap.get? b=some o/\H b=none:=fun b o e=>
 ⟨I.base.keep b o (I.ok.bs b o e).1 (I.ok.bs b o e).2 (I.ok.nofr e) (I.ok.noex b o e),I.base.free b o (I.ok.bs b o e).1 (I.ok.bs b o e).2 (I.ok.noex b o e)⟩
theorem n9.bk(I:n9 X c2t σ H s):∀ b o,X.base.get? b=some o->s.heap.get? b=some o:=fun b o e=>(I.bs b o e).1
theorem n9.mod(I:n9 X c2t σ H s):Mod X.K X.mg X.base:=I.ok.mod
theorem n9.kIn(I:n9 X c2t σ H s):X.K.In s.heap:=I.ok.mod.kin.keeps I.bk
theorem n9.lt(I:n9 X c2t σ H s):X.env.locals<s.heap.objs.size:=let ⟨_,hn,_⟩:=I.loc;hn.lt
theorem n9.sz(I:n9 X c2t σ H s):X.s₀.heap.objs.size<=s.heap.objs.size:=b0n I.ok.above (b1x I.lt)
theorem n9.nofs(I:n9 X c2t σ H s){a:Addr}(h:s.heap.objs.size<=a):a∉X.fs:=fun hb=>by
 obtain⟨_,o,ho,_⟩:=I.ok.funs.mem hb;exact absurd (b0k (Heap.lt_size ho) (b0n I.sz h)) (b3m _)
theorem n9.cne(I:n9 X c2t σ H s):∀ x c,X.env.cells.lookup x=some c->c≠X.env.locals:=fun x c e z=>by
 obtain⟨v,o,ho,hd⟩:=I.cell x c e;obtain⟨m,⟨o',es,ep,ho',hd',_⟩,_⟩:=I.loc;rw[z,ho'] at ho;cases ho;rw[hd'] at hd;cases hd
theorem n9.funs(I:n9 X c2t σ H s):s.heap.FunFrames X.base X.outer:=by
 have all:∀ (l:List Env),(∀ b∈jC l,b∈X.fs)->X.s₀.heap.FunFrames X.base l->s.heap.FunFrames X.base l:=by
  intro l;induction l with
  | nil=>intro _ _;trivial
  | cons env r ih=>
    intro hs hl;obtain⟨hk,⟨L,o,hf,hn,ho,hd⟩,hr⟩:=hl;have hL:L∈X.fs:=hs L (by unfold jC;rw[b5a,hf];exact b5l);obtain⟨sl,e⟩:=I.base.slot L o ho (I.ok.frf L hL) hL fun z=>I.ok.exfs L z hL;exact⟨hk,⟨L,_,hf,hn,e,hd⟩,ih (fun b hb=>hs b (by unfold jC;rw[b5a,hf];exact b0f _ hb)) hr⟩
 exact all X.outer (fun _ hb=>hb) I.ok.funs
theorem n9.stack(I:n9 X c2t σ H s):s.heap.FunFrames X.base X.stack:=by
 rcases I.ok.stk with e | ⟨e,hf⟩
 .rw[e];exact I.funs
 .rw[e];obtain⟨m,hn,_⟩:=I.loc;refine .cons (by rw[I.ok.kind];decide) hf hn ?_ I.funs;exact Heap.get?_none_of_le (b0n I.ok.bsz I.ok.above)
theorem n9.stkSub(I:n9 X c2t σ H s):∀ b∈jC X.stack,b∈X.env.locals::X.fs:=fun b hb=>by
 rcases I.ok.stk with e | ⟨e,hf⟩
 .rw[e] at hb;exact b0f _ hb
 .rw[e] at hb;unfold jC at hb;rw[b5a,hf] at hb;exact hb
theorem n9.stkFree(I:n9 X c2t σ H s):∀ b∈jC X.stack,H b=none:=fun b hb=>by
 rcases a9g.mp (I.stkSub b hb) with e | hb
 .rw[e];exact I.free
 .obtain⟨_,o,ho,_⟩:=I.ok.funs.mem hb;exact I.base.free b o ho (I.ok.frf b hb) fun z=>I.ok.exfs b z hb
theorem n9.step{g':Array GenState}{t':Nat}{d':Drawn}{ch:List Addr}(I:n9 X c2t σ H s)(hch:∀ b∈ch,(b∈X.ex\/X.s₀.heap.objs.size<=b)/\b≠X.env.locals/\(∀ x c,X.env.cells.lookup x=some c->c≠b)/\∀ p∈X.pn++c2t,p.1≠b)(keep:∀ b o,b≠X.env.locals->b∉X.fs->b∉ch->s.heap.get? b=some o->H b=none->h'.get? b=some o)(slot:∀ b o,b≠X.env.locals->b∈X.fs->b∉ch->s.heap.get? b=some o->H b=none->∃ sl,h'.get? b=some { o with slots:=sl })(free:∀ b o,b∉ch->s.heap.get? b=some o->H b=none->H' b=none)(there:∀ b o,b∉ch->s.heap.get? b=some o->∃ o',h'.get? b=some o')(tups:∀ b xs,H b=some (.tup xs)->H' b=some (.tup xs))(frzs:∀ b o u,H b=some (.frz o u)->H' b=some (.frz o u))(tbls:∀ b ps,H b=some (.tbl ps)->∃ more,H' b=some (.tbl (ps++more)))(ns:∀ m,s.heap.Ns X.env.locals m->h'.Ns X.env.locals m)(hok:jD X.prog X.w H' h')(hg:a64 g') :
 n9 X c2t σ H' { s with heap:=h',gens:=g',drawn:=d',toks:=t' }:=by
 have neL:∀ b o,X.s₀.heap.get? b=some o->b≠X.env.locals:=fun b o e=>b0s (b0k (Heap.lt_size e) I.ok.above);have neC:∀ b o,X.s₀.heap.get? b=some o->b∉X.ex->b∉ch:=fun b o e hx hb=>by
  rcases (hch b hb).1 with z | z
  .exact hx z
  .exact absurd (b0k (Heap.lt_size e) z) (b3m _)
 have cellK:∀ x c,X.env.cells.lookup x=some c->∀ v,s.heap.IsCell c v->h'.IsCell c v:=fun x c e v ⟨o,ho,hd⟩=>by
  have nch:c∉ch:=fun z=>(hch c z).2.2.1 x c e rfl;by_cases hc:c∈X.fs
  .obtain⟨sl,q⟩:=slot c o (I.cne x c e) hc nch ho (I.freeC x c e);exact⟨_,q,hd⟩
  .exact⟨o,keep c o (I.cne x c e) hc nch ho (I.freeC x c e),hd⟩
 refine⟨I.ok,I.os,hg,⟨fun b o e n hb hx=>?_,fun b o e n hb hx=>?_,fun b o e n hx=>?_,fun b o e hx=>?_,fun b xs e=>tups b xs (I.base.tups b xs e),fun b o xs e=>frzs b o xs (I.base.frzs b o xs e),fun b ps e=>?_⟩,?_,fun x c e=>?_,?_,fun x c e=>?_,fun p hp=>?_,hok,I.len⟩
 .exact keep b o (neL b o e) hb (neC b o e hx) (I.base.keep b o e n hb hx) (I.base.free b o e n hx)
 .obtain⟨sl,e1⟩:=I.base.slot b o e n hb hx;obtain⟨sl',e2⟩:=slot b _ (neL b o e) hb (neC b o e hx) e1 (I.base.free b o e n hx);exact⟨sl',e2⟩
 .obtain⟨o',e1⟩:=I.base.there b o e hx;exact free b o' (neC b o e hx) e1 (I.base.free b o e n hx)
 .obtain⟨o',e1⟩:=I.base.there b o e hx;exact there b o' (neC b o e hx) e1
 .obtain⟨m1,e1⟩:=I.base.tbls b ps e;obtain⟨m2,e2⟩:=tbls b _ e1;exact⟨m1++m2,by rw[e2,c0a]⟩
 .obtain⟨m,hn,hl⟩:=I.loc;refine⟨m,ns m hn,fun i x v e1 e2 e3=>?_⟩;obtain⟨u,r,l⟩:=hl i x v e1 e2 e3;refine⟨u,r,?_⟩;rcases l with l | ⟨k,c,e,z⟩
  .exact .inl l
  .exact .inr ⟨k,c,e,cellK x c e _ z⟩
 .obtain⟨v,z⟩:=I.cell x c e;exact⟨v,cellK x c e v z⟩
 .obtain⟨m,⟨o,_,_,ho,_⟩,_⟩:=I.loc;exact free _ o (fun z=>(hch _ z).2.1 rfl) ho I.free
 .obtain⟨v,o,ho,hd⟩:=I.cell x c e;exact free c o (fun z=>(hch c z).2.2.1 x c e rfl) ho (I.freeC x c e)
 .obtain⟨e,n,ne,nf,d⟩:=I.pin p hp;have nch:p.1∉ch:=fun z=>(hch p.1 z).2.2.2 p hp rfl;exact⟨keep p.1 p.2 ne nf nch e n,free p.1 p.2 nch e n,ne,nf,d⟩
theorem n9.un{t':Nat}(I:n9 X c2t σ H s)(u:Un X.fs [] H H' s.heap h')(hok:jD X.prog X.w H' h'):n9 X c2t σ H' { s with heap:=h',toks:=t' }:=by
 obtain⟨m,⟨o,es,ep,ho,r⟩,_⟩:=id I.loc;obtain⟨sl,hL⟩:=u.any ho I.free (by simp);exact I.step (g':=s.gens) (d':=s.drawn) (ch:=[]) (fun _ z=>nomatch z) (fun b o _ hb _ e n=>u.keep b o e n hb (by simp)) (fun b o _ hb _ e n=>u.slot b o e n hb (by simp)) (fun b o _ e n=>u.free b o e n (by simp)) (fun b o _ e=>u.there b o e (by simp)) u.tups u.frzs u.tbls (fun m' hm=>by
  obtain⟨o',es',ep',ho',r'⟩:=hm;rw[ho] at ho';cases ho';exact⟨_,es',ep',hL,r'⟩) hok I.bare
theorem n9.call{g':Array GenState}{t':Nat}{d':Drawn}{ch:List Addr}(I:n9 X c2t σ H s)(u:Un (jC X.stack) ch H H' s.heap h')(hok:jD X.prog X.w H' h')(hg:a64 g')(hch:∀ b∈ch,(b∈X.ex\/X.s₀.heap.objs.size<=b)/\b≠X.env.locals/\(∀ x c,X.env.cells.lookup x=some c->c≠b)/\∀ p∈X.pn++c2t,p.1≠b) :
 n9 X c2t σ H' { s with heap:=h',gens:=g',drawn:=d',toks:=t' }:=by
 obtain⟨m,⟨o,es,ep,ho,r⟩,_⟩:=id I.loc;obtain⟨sl,hL⟩:=u.any ho I.free fun z=>(hch _ z).2.1 rfl;exact I.step (ch:=ch) hch (fun b o hL hb hc e n=>u.keep b o e n (fun z=>(a9g.mp (I.stkSub b z)).elim hL hb) hc) (fun b o _ _ hc e n=>u.any e n hc) (fun b o hc e n=>u.free b o e n hc) (fun b o hc e=>u.there b o e hc) u.tups u.frzs u.tbls (fun m' hm=>by
  obtain⟨o',es',ep',ho',r'⟩:=hm;rw[ho] at ho';cases ho';exact⟨_,es',ep',hL,r'⟩) hok hg
theorem n9.turned{t':Nat}{it:Addr}(I:n9 X c2t σ H s)(k:∀ b o,b≠it->s.heap.get? b=some o->h'.get? b=some o)(hn:H it=none)(hL:it≠X.env.locals)(h1:it∈X.ex\/X.s₀.heap.objs.size<=it)(h2:∀ x c,X.env.cells.lookup x=some c->c≠it)(h3:∀ p∈X.pn++c2t,p.1≠it):n9 X c2t σ H { s with heap:=h',toks:=t' }:=by
 have nit:∀ b u,H b=some u->b≠it:=fun b u e z=>by rw[z,hn] at e;cases e
 refine I.step (g':=s.gens) (d':=s.drawn) (ch:=[it]) (fun b hb=>?_) (fun b o _ _ hc e _=>k b o (fun z=>hc (by simp[z])) e) (fun b o _ _ hc e _=>⟨o.slots,k b o (fun z=>hc (by simp[z])) e⟩) (fun _ _ _ _ n=>n)
  (fun b o hc e=>⟨o,k b o (fun z=>hc (by simp[z])) e⟩) (fun _ _ e=>e) (fun _ _ _ e=>e) (fun b ps e=>⟨#[],by rw[e];simp⟩) (fun m hm=>?_) (fun b u e=>?_) I.bare
 .have e:b=it:=by simpa using hb
  subst e;exact⟨h1,hL,h2,h3⟩
 .obtain⟨o,es,ep,ho,r⟩:=hm;exact⟨o,es,ep,k _ o (Ne.symm hL) ho,r⟩
 .refine (I.hok b u e).stay (fun c v hc q=>k c v ?_ q) (fun _ q=>q) fun _ _ q=>q;rcases hc with z | z
  .rw[z];exact nit b u e
  .exact nit c _ z
theorem n9.tok(I:n9 X c2t σ H s)(t:Nat):n9 X c2t σ H { s with toks:=t }:=I.un (h':=s.heap) (t':=t) Un.refl I.hok
theorem n9.kept{t':Nat}(I:n9 X c2t σ H s)(k:∀ b u,s.heap.get? b=some u->h'.get? b=some u):n9 X c2t σ H { s with heap:=h',toks:=t' }:=I.un (Un.kept k) (I.hok.kept k)
theorem n9.laid{a:Addr}{o:HO}{t':Nat}(I:n9 X c2t σ H s)(k:∀ b u,s.heap.get? b=some u->h'.get? b=some u)(hp:s.heap.objs.size<=a)(new:bK X.prog X.w (upd H a o) h' a o) :
 n9 X c2t σ (upd H a o) { s with heap:=h',toks:=t' }:=I.un (Un.laid k hp (I.hok.fresh hp)) (I.hok.laid k hp new)
theorem n9.write{x e:Addr}{o:HO}{t':Nat}(I:n9 X c2t σ H s)(mu:Mut (H x))(he:e=x\/H e=some (.own x))(k:∀ b u,b≠e->s.heap.get? b=some u->h'.get? b=some u)(heo:∃ u,h'.get? e=some u)(new:bK X.prog X.w (upd H x o) h' x o):n9 X c2t σ (upd H x o) { s with heap:=h',toks:=t' }:=I.un (Un.write mu he k heo) (I.hok.write mu he k heo new)
theorem n9.pins_of{pins':List (Addr×Obj)}(I:n9 X c2t σ H s)(h:∀ p∈pins',s.heap.get? p.1=some p.2/\H p.1=none/\p.1≠X.env.locals/\p.1∉X.fs/\∀ v,p.2.data≠.cell v):n9 X pins' σ H s:=
 ⟨I.ok,I.os,I.bare,I.base,I.loc,I.cell,I.free,I.freeC,fun p hp=>(a9k.mp hp).elim (fun z=>I.pin p (b4t _ z)) (h p),I.hok,I.len⟩
theorem rA{N:List Str}(hN:N.Nodup){i j:Nat}{x:Str}(a:N[i]?=some x)(b:N[j]?=some x):i=j:=by
 obtain⟨h1,e1⟩:=a9c.mp a;obtain⟨h2,e2⟩:=a9c.mp b;exact (List.getElem_inj hN).mp (e1.trans e2.symm)
theorem wu{M:a83}{A:a19}{E:Value->a01->Prop}{i:Nat}{x:Str}{v:V}{u:Value}{Q:Unit->a01->Prop}(I:n9 X c2t σ H s)(hN:X.N.Nodup)(hi:X.N[i]?=some x)(hx:a1z X.env.scope x)(r:am v u)(h:∀ s',n9 X c2t (σ.set i (some v)) H s'->(∃ a,Heap.SameBut a s.heap s'.heap/\(a=X.env.locals\/X.env.cells.lookup x=some a))->Q () s')(hf:X.fn x=true\/X.env.scope.names.lookup x=some .local:=by first | exact .inl rfl | exact .inr rfl | assumption):a07 M A (storeName X.env x u) Q E s:=by
 obtain⟨m,hn,hl⟩:=id I.loc;have hcls:(X.env.scope.kind == .class || (X.env.scope.kind == .module && X.env.locals != X.env.globals))=false:=by rw[I.ok.kind];rfl
 have hiσ:i<σ.length:=by rw[I.len];exact (a9c.mp hi).1
 have cne:=I.cne;have tracked:∀ {a:Addr} {h':Heap},(∃ o,s.heap.get? a=some o/\H a=none)->Heap.SameBut a s.heap h'->jD X.prog X.w H h':=fun {a h'} ha hs b ob e=>by
  obtain⟨_,_,hfree⟩:=ha;refine (I.hok b ob e).stay (fun c w' hc q=>(hs.2 c ?_).trans q) (fun _ q=>q) fun _ _ q=>q;rintro rfl;rcases hc with rfl | hc
  .rw[hfree] at e;cases e
  .rw[hfree] at hc;cases hc
 rcases hx with hk | hk
 .refine wpAny_storeName_local hk hn (fun h' hn' hs=>?_) hcls;obtain⟨oL,_,_,hoL,_⟩:=id hn;refine h _ ⟨I.ok,I.os,I.bare,⟨fun b o e n hb hx=>?_,fun b o e n hb hx=>?_,I.base.free,fun b o e hx=>?_,I.base.tups,I.base.frzs,I.base.tbls⟩,⟨_,hn',fun j y v' e1 e2 e3=>?_⟩,fun y c e=>?_,I.free,I.freeC,fun p hp=>?_,tracked ⟨oL,hoL,I.free⟩ hs,by simpa using I.len⟩ ⟨_,hs,.inl rfl⟩
  .exact (hs.2 b (b0s (b0k (Heap.lt_size e) I.ok.above))).trans (I.base.keep b o e n hb hx)
  .obtain⟨sl,e1⟩:=I.base.slot b o e n hb hx;exact⟨sl,(hs.2 b (b0s (b0k (Heap.lt_size e) I.ok.above))).trans e1⟩
  .obtain⟨o',e1⟩:=I.base.there b o e hx;exact⟨o',(hs.2 b (b0s (b0k (Heap.lt_size e) I.ok.above))).trans e1⟩
  .by_cases hj:j=i
   .subst hj;rw[hi] at e1;cases e1;rw[b5z hiσ] at e2;cases e2;exact⟨u,r,.inl ⟨hk,by simp⟩⟩
   .rw[b9q (Ne.symm hj)] at e2;obtain⟨u',r',q⟩:=hl j y v' e1 e2 e3;refine⟨u',r',?_⟩;rcases q with⟨k,e⟩ | ⟨k,c,e,z⟩
    .refine .inl ⟨k,?_⟩;have:y≠x:=fun e=>hj (rA hN e1 (e ▸ hi));simp[this,e]
    .exact .inr ⟨k,c,e,z.sameBut hs (cne y c e)⟩
  .obtain⟨w',z⟩:=I.cell y c e;exact⟨w',z.sameBut hs (cne y c e)⟩
  .obtain⟨e,n,ne,nf,d⟩:=I.pin p hp;exact⟨(hs.2 p.1 ne).trans e,n,ne,nf,d⟩
 .have hfn:X.fn x=true:=by
   rcases hf with z | z
   .exact z
   .rw[z] at hk;cases hk
  obtain⟨c,hc⟩:=I.ok.has x (.inl hk);obtain⟨w',z⟩:=I.cell x c hc;refine wpAny_storeName_cell I.ok.kind hk hc z (fun h' hc' hs=>?_);obtain⟨oc,hoc,hocd⟩:=id z;refine h { s with heap:=h' } ⟨I.ok,I.os,I.bare,⟨fun b o e n hb hx=>?_,fun b o e n hb hx=>?_,I.base.free,fun b o e hx=>?_,I.base.tups,I.base.frzs,I.base.tbls⟩,⟨m,hn.sameBut hs (Ne.symm (cne x c hc)),fun j y v' e1 e2 e3=>?_⟩,fun y c' e=>?_,I.free,I.freeC,fun p hp=>?_,tracked ⟨oc,hoc,I.freeC x c hc⟩ hs,by simpa using I.len⟩ ⟨c,hs,.inr hc⟩
  .exact (hs.2 b (b0s (b0k (Heap.lt_size e) (I.ok.cab x c hfn hc)))).trans (I.base.keep b o e n hb hx)
  .obtain⟨sl,e1⟩:=I.base.slot b o e n hb hx;exact⟨sl,(hs.2 b (b0s (b0k (Heap.lt_size e) (I.ok.cab x c hfn hc)))).trans e1⟩
  .obtain⟨o',e1⟩:=I.base.there b o e hx;exact⟨o',(hs.2 b (b0s (b0k (Heap.lt_size e) (I.ok.cab x c hfn hc)))).trans e1⟩
  .by_cases hj:j=i
   .subst hj;rw[hi] at e1;cases e1;rw[b5z hiσ] at e2;cases e2;exact⟨u,r,.inr ⟨.inl hk,c,hc,hc'⟩⟩
   .rw[b9q (Ne.symm hj)] at e2;obtain⟨u',r',q⟩:=hl j y v' e1 e2 e3;refine⟨u',r',?_⟩;rcases q with q | ⟨k,c',e,z'⟩
    .exact .inl q
    .refine .inr ⟨k,c',e,z'.sameBut hs ?_⟩;rintro rfl;exact hj (rA hN e1 (I.ok.inj _ _ _ e hc ▸ hi))
  .by_cases hcc:c'=c
   .subst hcc;exact⟨_,hc'⟩
   .obtain⟨w2,z2⟩:=I.cell y c' e;exact⟨w2,z2.sameBut hs hcc⟩
  .obtain⟨e,n,ne,nf,d⟩:=I.pin p hp;refine⟨(hs.2 p.1 ?_).trans e,n,ne,nf,d⟩;intro q;rw[q,hoc] at e;have q':oc=p.2:=a9t.inj e;exact d w' (by rw[<- q'];exact hocd)
theorem dz{M:a83}{A:a19}{E:Value->a01->Prop}{i:Nat}{x:Str}{v:V}{u:Value}{Q:Unit->a01->Prop}(I:n9 X c2t σ H s)(hN:X.N.Nodup)(hi:X.N[i]?=some x)(hx:a1z X.env.scope x)(r:am v u)(h:∀ s',n9 X c2t (σ.set i (some v)) H s'->Q () s')(hf:X.fn x=true\/X.env.scope.names.lookup x=some .local:=by first | exact .inl rfl | exact .inr rfl | assumption):a07 M A (storeName X.env x u) Q E s:=
 wu I hN hi hx r (fun s' I' _=>h s' I') hf
theorem n9.call'{s':a01}{ch:List Addr}(I:n9 X c2t σ H s)(ho:s'.os=s.os)(u:Un (jC X.stack) ch H H' s.heap s'.heap)(hok:jD X.prog X.w H' s'.heap)(hg:a64 s'.gens)(hch:∀ b∈ch,(b∈X.ex\/X.s₀.heap.objs.size<=b)/\b≠X.env.locals/\(∀ x c,X.env.cells.lookup x=some c->c≠b)/\∀ p∈X.pn++c2t,p.1≠b):n9 X c2t σ H' s':=by
 obtain⟨h',g',d',t',o'⟩:=s';have e:o'=s.os:=ho;subst e;exact I.call (g':=g') (t':=t') (d':=d') u hok hg hch
end
abbrev XK:=Value->Option Addr->Hp->Prop
abbrev St:=List (Option V)
abbrev VK:=V->Hp->Prop
abbrev TE:=St->Hp->VK->Prop
abbrev TT:=St->Hp->(Bool->Hp->Prop)->Prop
abbrev TA:=St->Hp->(List V->Hp->Prop)->Prop
structure kl where
 nx:St->Hp->Prop
 rt:VK
 bk:St->Hp->Prop:=fun _ _=>False
 ct:St->Hp->Prop:=fun _ _=>False
abbrev TS:=kl->St->Hp->Prop
noncomputable def EP(X:Cx)(c2t:List (Addr×Obj))(σ:St)(Q:VK)(u:Value)(s':a01):Prop:=∃ v H',n9 X c2t σ H' s'/\am v u/\Q v H'
noncomputable def TP(X:Cx)(c2t:List (Addr×Obj))(σ:St)(Q:Bool->Hp->Prop)(b:Bool)(s':a01):Prop:=∃ H',n9 X c2t σ H' s'/\Q b H'
noncomputable def AP(X:Cx)(c2t:List (Addr×Obj))(σ:St)(Q:List V->Hp->Prop)(us:List Value)(s':a01):Prop:=∃ vs H',n9 X c2t σ H' s'/\x9 vs us/\Q vs H'
noncomputable def SP(X:Cx)(c2t:List (Addr×Obj))(D:kl)(f:Flow)(s':a01):Prop:=
 match f with
 | .next=>∃ σ' H',n9 X c2t σ' H' s'/\D.nx σ' H'
 | .brk=>∃ σ' H',n9 X c2t σ' H' s'/\D.bk σ' H'
 | .cont=>∃ σ' H',n9 X c2t σ' H' s'/\D.ct σ' H'
 | .ret u=>∃ v σ' H',n9 X c2t σ' H' s'/\am v u/\D.rt v H'
noncomputable def PE(X:Cx)(e:a13)(t:TE):Prop:=
 ∀ (c2t:List (Addr×Obj)) (s:a01) (σ:St) (H:Hp) (Q:VK),n9 X c2t σ H s->t σ H Q->a07 (a05 X.prog X.w) X.A (eval e X.env) (EP X c2t σ Q) X.xe s
noncomputable def PT(X:Cx)(e:a13)(t:TT):Prop:=
 ∀ (c2t:List (Addr×Obj)) (s:a01) (σ:St) (H:Hp) (Q:Bool->Hp->Prop),n9 X c2t σ H s->t σ H Q->a07 (a05 X.prog X.w) X.A (b22 e X.env (eval e X.env)) (TP X c2t σ Q) X.xe s
noncomputable def PW(X:Cx)(e:a13)(t:TT):Prop:=
 ∀ (whole:Sem Value) (c2t:List (Addr×Obj)) (s:a01) (σ:St) (H:Hp) (Q:Bool->Hp->Prop),n9 X c2t σ H s->t σ H Q->a07 (a05 X.prog X.w) X.A (b22 e X.env whole) (TP X c2t σ Q) X.xe s
theorem PW.pt{X:Cx}{e:a13}{t:TT}(h:PW X e t):PT X e t:=h _
noncomputable def PA(X:Cx)(es:List a13)(t:TA):Prop:=
 ∀ (pos:Pos) (c2t:List (Addr×Obj)) (s:a01) (σ:St) (H:Hp) (Q:List V->Hp->Prop),n9 X c2t σ H s->t σ H Q->a07 (a05 X.prog X.w) X.A (spliced (a37 pos (a11 es X.env))) (AP X c2t σ Q) X.xe s
noncomputable def PS(X:Cx)(st:Stmt)(t:TS):Prop:=
 ∀ (c2t:List (Addr×Obj)) (s:a01) (σ:St) (H:Hp) (D:kl),n9 X c2t σ H s->t D σ H->a07 (a05 X.prog X.w) X.A (exec st X.env) (SP X c2t D) X.xe s
noncomputable def qu(X:Cx)(st:List Stmt)(t:TS):Prop:=
 ∀ (c2t:List (Addr×Obj)) (s:a01) (σ:St) (H:Hp) (D:kl),n9 X c2t σ H s->t D σ H->a07 (a05 X.prog X.w) X.A (execs st X.env) (SP X c2t D) X.xe s
theorem bA{α:Type}{t:Sem α}{Q Q':α->a01->Prop}{M:a83}{A:a19}{E:Value->a01->Prop}{s:a01}(h:a07 M A t Q E s)(hQ:∀ a s,Q a s->Q' a s):a07 M A t Q' E s:=a08 h hQ fun _ _ x=>x
section
variable {X:Cx}
noncomputable def a2j(i:Nat):TE:=fun σ H Q=>∃ v,σ[i]?=some (some v)/\Q v H
noncomputable def tC(v:V):TE:=fun _ H Q=>Q v H
theorem a3q{i:Nat}{x:Str}{pos:Pos}(hN:X.N[i]?=some x)(hv:a8p X.env.scope x)(hd:(x == ("__debug__" : Str))=false:=by decide)(hcd:(x == ("__classdict__" : Str))=false:=by decide):PE X (.Name x pos) (a2j i):=by
 intro c2t s σ H Q I h;obtain⟨v,e,h⟩:=h;obtain⟨m,hn,hl⟩:=I.loc;obtain⟨u,r,l⟩:=hl i x v hN e hv;have fin:EP X c2t σ Q u s:=⟨v,H,I,r,h⟩
 rcases l with⟨hk,hm⟩ | ⟨hk,c,hc,hcell⟩
 .exact wpAny_Name (b25 I.ok.kind hk hn hm fin) hd
 .rcases hk with hk | hk
  .exact wpAny_Name (wpAny_loadName_cell I.ok.kind hk hc hcell fin) hd
  .exact wpAny_Name (wpAny_loadName_free I.ok.kind hk hc hcell fin hcd) hd
theorem a3y{i j pos}:PE X (.Constant (.int i) j pos) (tC (.int i)):=fun _ _ _ H _ I h=>wpAny_Constant_int ⟨.int i,H,I.tok _,⟨_,rfl⟩,h⟩
theorem a7z{b j pos}:PE X (.Constant (.bool b) j pos) (tC (.bl b)):=fun _ _ _ H _ I h=>Constant_bool ⟨.bl b,H,I,rfl,h⟩
theorem a3w{j pos}:PE X (.Constant .none j pos) (tC .non):=fun _ _ _ H _ I h=>Constant_none ⟨.non,H,I,rfl,h⟩
theorem a3s{x j pos}:PE X (.Constant (.str x) j pos) (tC (.str x)):=fun _ _ _ H _ I h=>Calls.Constant_str ⟨.str x,H,I.tok _,⟨_,rfl⟩,h⟩
noncomputable def Gl(X:Cx)(x:Str):Prop:=X.env.kindOf x=some .globalImplicit
theorem jp{E:Value->a01->Prop}{c2t:List (Addr×Obj)}{s:a01}{σ:St}{H:Hp}{x:Str}{u:Value}{pos:Pos}{Q:Value->a01->Prop}(I:n9 X c2t σ H s)(hg:Gl X x)(hm:X.mg x=some u)(h:Q u s)(hd:(x == ("__debug__" : Str))=false:=by decide):a07 (a05 X.prog X.w) X.A (eval (.Name x pos) X.env) Q E s:=
 Calls.Name_function_global I.ok.kind hg (Calls.loadGlobal_global (by rw[I.ok.glob];exact I.mod.glob.keeps I.bk) hm h) hd
theorem jV{E:Value->a01->Prop}{c2t:List (Addr×Obj)}{s:a01}{σ:St}{H:Hp}{x:Str}{u:Value}{pos:Pos}{Q:Value->a01->Prop}(I:n9 X c2t σ H s)(hg:Gl X x)(hm:X.mg x=none)(hv:a39 x=some u)(h:Q u s)(hn:x ≠ "__name__":=by decide)(hd:(x == ("__debug__" : Str))=false:=by decide):a07 (a05 X.prog X.w) X.A (eval (.Name x pos) X.env) Q E s:=by
 obtain⟨mb,h1,h2⟩:=I.mod.blt;exact Calls.Name_function_global I.ok.kind hg (Calls.loadGlobal_builtin (by rw[I.ok.glob];exact I.mod.glob.keeps I.bk) hm (by rw[I.ok.blt];exact h1.keeps I.bk) ((h2 x hn).trans hv) h) hd
theorem S5{x:Str}{v:V}{u:Value}{pos:Pos}(hg:Gl X x)(hm:X.mg x=some u)(r:am v u)(hd:(x == ("__debug__" : Str))=false:=by decide):PE X (.Name x pos) (tC v):=
 fun _ _ _ H _ I h=>jp I hg hm ⟨v,H,I,r,h⟩ hd
theorem S8{x:Str}{v:V}{u:Value}{pos:Pos}(hg:Gl X x)(hm:X.mg x=none)(hv:a39 x=some u)(r:am v u)(hn:x ≠ "__name__":=by decide)(hd:(x == ("__debug__" : Str))=false:=by decide):PE X (.Name x pos) (tC v):=
 fun _ _ _ H _ I h=>jV I hg hm hv ⟨v,H,I,r,h⟩ hn hd
variable {a b:a13} {ta tb:TE} {pos:Pos}
noncomputable def tB(t:TE):TT:=fun σ H Q=>t σ H fun x H1=>∃ c,x=.bl c/\Q c H1
theorem a2z{e:a13}{t:TE}(h:PE X e t)(he:∀ whole,b22 e X.env whole=(do let v <- whole;a28 e.pos;a43 [v] (truthy v)):=by intro _;rfl):PT X e (tB t):=by
 intro c2t s σ H Q I hw;refine isTrue_plain (bA (h c2t s σ H _ I hw) fun v s1 ⟨x,H1,I1,r1,q1⟩=>?_) (he _);obtain⟨d,rfl,q⟩:=q1;cases r1;exact a42 ⟨H1,I1,q⟩
variable {tA tB':TT} {rest:List a13}
noncomputable def a2n(t u:TT):TT:=fun σ H Q=>t σ H fun c H1=>if c=true then u σ H1 Q else Q false H1
noncomputable def tOr(t u:TT):TT:=fun σ H Q=>t σ H fun c H1=>if c=true then Q true H1 else u σ H1 Q
noncomputable def a7c(t:TT):TT:=fun σ H Q=>t σ H fun c H1=>Q (!c) H1
theorem O6(ha:PT X a tA):PW X (.BoolOp .And [a] pos) tA:=by
 intro wh c2t s σ H Q I h;refine isTrue_and (bA (ha c2t s σ H Q I h) fun c s1 e=>?_);cases c with
 | true=>exact isTrue_and_nil e
 | false=>exact e
theorem a2w(ha:PT X a tA):PW X (.BoolOp .Or [a] pos) tA:=by
 intro wh c2t s σ H Q I h;refine isTrue_or (bA (ha c2t s σ H Q I h) fun c s1 e=>?_);cases c with
 | false=>exact isTrue_or_nil e
 | true=>exact e
theorem a2x(ha:PT X a tA)(hb:PW X (.BoolOp .And (b::rest) pos) tB'):PW X (.BoolOp .And (a::b::rest) pos) (a2n tA tB'):=by
 intro wh c2t s σ H Q I h;refine isTrue_and (bA (ha c2t s σ H _ I h) fun c s1 ⟨H1,I1,q1⟩=>?_);cases c with
 | true=>exact hb wh c2t s1 σ H1 Q I1 q1
 | false=>exact⟨H1,I1,q1⟩
theorem a7p(ha:PT X a tA)(hb:PW X (.BoolOp .Or (b::rest) pos) tB'):PW X (.BoolOp .Or (a::b::rest) pos) (tOr tA tB'):=by
 intro wh c2t s σ H Q I h;refine isTrue_or (bA (ha c2t s σ H _ I h) fun c s1 ⟨H1,I1,q1⟩=>?_);cases c with
 | true=>exact⟨H1,I1,q1⟩
 | false=>exact hb wh c2t s1 σ H1 Q I1 q1
theorem a3b(ha:PT X a tA):PT X (.UnaryOp .Not a pos) (a7c tA):=by
 intro c2t s σ H Q I h;exact isTrue_not (ha c2t s σ H (fun c H1=>Q (!c) H1) I h)
noncomputable def a0v(ta tb:TE):TE:=fun σ H Q=>ta σ H fun x H1=>∃ c,x=.bl c/\if c=true then tb σ H1 Q else Q (.bl false) H1
noncomputable def a7b(ta tb:TE):TE:=fun σ H Q=>ta σ H fun x H1=>∃ c,x=.bl c/\if c=true then Q (.bl true) H1 else tb σ H1 Q
noncomputable def a0n(ta:TE):TE:=fun σ H Q=>ta σ H fun x H1=>∃ c,x=.bl c/\Q (.bl (!c)) H1
theorem a3u{op}{t:TE}(h:PE X a t):PE X (.BoolOp op [a] pos) t:=fun c2t s σ H Q I hw=>BoolOp_one (h c2t s σ H Q I hw)
theorem a4a(ha:PE X a ta)(hb:PE X (.BoolOp .And (b::rest) pos) tb):PE X (.BoolOp .And (a::b::rest) pos) (a0v ta tb):=by
 intro c2t s σ H Q I h;refine BoolOp_and (bA (ha c2t s σ H _ I h) fun v s1 ⟨x,H1,I1,r1,q1⟩=>?_);obtain⟨c,rfl,q1⟩:=q1;cases r1;refine a42 ?_;cases c with
 | true=>exact hb c2t s1 σ H1 Q I1 q1
 | false=>exact⟨.bl false,H1,I1,rfl,q1⟩
theorem a7t(ha:PE X a ta)(hb:PE X (.BoolOp .Or (b::rest) pos) tb):PE X (.BoolOp .Or (a::b::rest) pos) (a7b ta tb):=by
 intro c2t s σ H Q I h;refine BoolOp_or (bA (ha c2t s σ H _ I h) fun v s1 ⟨x,H1,I1,r1,q1⟩=>?_);obtain⟨c,rfl,q1⟩:=q1;cases r1;refine a42 ?_;cases c with
 | false=>exact hb c2t s1 σ H1 Q I1 q1
 | true=>exact⟨.bl true,H1,I1,rfl,q1⟩
theorem a3v(ha:PE X a ta):PE X (.UnaryOp .Not a pos) (a0n ta):=by
 intro c2t s σ H Q I h;refine UnaryOp_ (bA (ha c2t s σ H _ I h) fun v s1 ⟨x,H1,I1,r1,q1⟩=>?_);obtain⟨c,rfl,q1⟩:=q1;cases r1;exact not_of (a42 ⟨.bl (!c),H1,I1,rfl,q1⟩)
noncomputable def tIf(t:TT)(ta tb:TE):TE:=fun σ H Q=>t σ H fun c H1=>if c=true then ta σ H1 Q else tb σ H1 Q
theorem yX{c:a13}(hc:PT X c tA)(ha:PE X a ta)(hb:PE X b tb):PE X (.IfExp c a b pos) (tIf tA ta tb):=by
 intro c2t s σ H Q I h;refine wpAny_IfExp (bA (hc c2t s σ H _ I h) fun d s1 ⟨H1,I1,q1⟩=>?_);cases d with
 | true=>exact ha c2t s1 σ H1 Q I1 q1
 | false=>exact hb c2t s1 σ H1 Q I1 q1
end
noncomputable def o7(K:a8z)(H:Hp)(a:Addr)(xs:List V):Prop:=
 Rd H a (.lst xs)\/
  ∃ (o:Obj) (its:Array Value) (n:Nat),K.lookup a=some o/\o.cls=.type "list" /\ o.dict=none/\o.data=.seq its n/\its.size<=sizeLine/\x9 xs its.toList
noncomputable def aj(K:a8z)(H:Hp)(a:Addr)(xs:List V):Prop:=
 Rd H a (.tup xs)\/
  ∃ (o:Obj) (its:Array Value) (n:Nat),K.lookup a=some o/\o.cls=.type "tuple" /\ o.data=.seq its n/\its.size<=sizeLine/\x9 xs its.toList
noncomputable def absV:Value->Option V
 | .none=>some .non
 | .bool b=>some (.bl b)
 | .int i _=>some (.int i)
 | .str x _=>some (.str x)
 | .bytes b _=>some (.byt b)
 | .float b _=>some (.flt b)
 | .ref a=>some (.ref a)
 | .type n=>some (.ty n)
 | _=>none
theorem am.abs{x:V}{u:Value}(r:am x u):absV u=some x:=by
 cases x with
 | non=>cases r;rfl
 | bl _=>cases r;rfl
 | int _=>obtain⟨t,rfl⟩:=r;rfl
 | str _=>obtain⟨t,rfl⟩:=r;rfl
 | byt _=>obtain⟨t,rfl⟩:=r;rfl
 | flt _=>obtain⟨t,rfl⟩:=r;rfl
 | ref _=>cases r;rfl
 | ty _=>cases r;rfl
theorem am.inj{x y:V}{u:Value}(r:am x u)(q:am y u):x=y:=a9t.inj (r.abs.symm.trans q.abs)
theorem x9.inj:∀ {xs ys:List V} {us:List Value},x9 xs us->x9 ys us->xs=ys
 | _,_,_,.nil,.nil=>rfl
 | _,_,_,.cons r t,.cons r' t'=>by rw[r.inj r',x9.inj t t']
section
variable {X:Cx} {c2t:List (Addr×Obj)} {σ:St} {H:Hp} {s:a01} {a:Addr} {xs ys:List V}
theorem o7.of{K:a8z}(h:H a=some (.lst xs)):o7 K H a xs:=.inl (.inl h)
theorem aj.of{K:a8z}(h:H a=some (.tup xs)):aj K H a xs:=.inl (.inl h)
theorem n9.list(I:n9 X c2t σ H s)(h:o7 X.K H a xs):∃ its:List Value,x9 xs its/\PlainL s.heap a its.toArray/\xs.length<=sizeLine:=by
 rcases h with h | ⟨o,its,n,hk,hc,hd,hs,hz,r⟩
 .obtain⟨z,its,n,r,e⟩:=h.ok I.hok;exact⟨its,r,⟨_,n,e,rfl,rfl,rfl⟩,z⟩
 .refine⟨its.toList,r,⟨o,n,I.kIn a o hk,hc,hd,by simpa using hs⟩,?_⟩;have e:=r.length;simp only[a9d] at e;lia
theorem n9.tuple(I:n9 X c2t σ H s)(h:aj X.K H a xs):∃ its:List Value,x9 xs its/\IsTup s.heap a its.toArray/\xs.length<=sizeLine:=by
 rcases h with h | ⟨o,its,n,hk,hc,hs,hz,r⟩
 .obtain⟨z,its,r,p⟩:=h.ok I.hok;exact⟨its,r,p,z⟩
 .refine⟨its.toList,r,⟨o,I.kIn a o hk,hc,n,by simpa using hs⟩,?_⟩;have e:=r.length;simp only[a9d] at e;lia
theorem n9.list_inj(I:n9 X c2t σ H s)(h:o7 X.K H a xs)(h':o7 X.K H a ys):xs=ys:=by
 obtain⟨its,r,⟨o,n,e,_,_,d⟩,_⟩:=I.list h;obtain⟨its',r',⟨o',n',e',_,_,d'⟩,_⟩:=I.list h';rw[e] at e';cases e';rw[d] at d';injection d' with d1 _;have:its=its':=by simpa using congrArg Array.toList d1
 subst this;exact r.inj r'
theorem n9.tuple_inj(I:n9 X c2t σ H s)(h:aj X.K H a xs)(h':aj X.K H a ys):xs=ys:=by
 obtain⟨its,r,⟨o,e,_,n,d⟩,_⟩:=I.tuple h;obtain⟨its',r',⟨o',e',_,n',d'⟩,_⟩:=I.tuple h';rw[e] at e';cases e';rw[d] at d';injection d' with d1 _;have:its=its':=by simpa using congrArg Array.toList d1
 subst this;exact r.inj r'
end
abbrev Cx.wish(X:Cx)(E:Value->a01->Prop):Cx:={ X with xe:=E }
abbrev Cx.nox(X:Cx):Cx:=X.wish fun _ _=>False
theorem Cx.Ok.wish{X:Cx}(ok:X.Ok)(E:Value->a01->Prop):(X.wish E).Ok:=
 ⟨ok.mod,ok.kind,ok.glob,ok.blt,ok.above,ok.inj,ok.has,ok.cab,ok.hd,ok.frames,ok.stk,ok.exf,ok.bs,ok.bsz,ok.noex,ok.exfs,ok.funs,ok.frf⟩
theorem Cx.Ok.unwish{X:Cx}{E:Value->a01->Prop}(ok:(X.wish E).Ok):X.Ok:=
 ⟨ok.mod,ok.kind,ok.glob,ok.blt,ok.above,ok.inj,ok.has,ok.cab,ok.hd,ok.frames,ok.stk,ok.exf,ok.bs,ok.bsz,ok.noex,ok.exfs,ok.funs,ok.frf⟩
section
variable {X:Cx} {c2t:List (Addr×Obj)} {σ:St} {H:Hp} {s:a01} {E:Value->a01->Prop}
theorem n9.wish(I:n9 X c2t σ H s)(E:Value->a01->Prop):n9 (X.wish E) c2t σ H s:=⟨I.ok.wish E,I.os,I.bare,I.base,I.loc,I.cell,I.free,I.freeC,I.pin,I.hok,I.len⟩
theorem n9.unwish(I:n9 (X.wish E) c2t σ H s):n9 X c2t σ H s:=⟨I.ok.unwish,I.os,I.bare,I.base,I.loc,I.cell,I.free,I.freeC,I.pin,I.hok,I.len⟩
theorem SP.unwish{D:kl}{f:Flow}{s':a01}(h:SP (X.wish E) c2t D f s'):SP X c2t D f s':=by
 cases f with
 | next=>obtain⟨σ',H',I,q⟩:=h;exact⟨σ',H',I.unwish,q⟩
 | brk=>obtain⟨σ',H',I,q⟩:=h;exact⟨σ',H',I.unwish,q⟩
 | cont=>obtain⟨σ',H',I,q⟩:=h;exact⟨σ',H',I.unwish,q⟩
 | ret u=>obtain⟨v,σ',H',I,r,q⟩:=h;exact⟨v,σ',H',I.unwish,r,q⟩
theorem qu.nox{st:List Stmt}{t:TS}(h:qu X.nox st t):qu X st t:=fun c2t s σ H D I hw=>
 a08 (h c2t s σ H D (I.wish _) hw) (fun _ _ q=>q.unwish) fun _ _ z=>False.elim z
end
section
variable {X:Cx} {st:Stmt} {rest:List Stmt} {t u:TS} {e:a13} {te:TE} {pos:Pos}
noncomputable def a0o:TS:=fun D σ H=>D.nx σ H
noncomputable def a2k(t u:TS):TS:=fun D σ H=>t { D with nx:=u D } σ H
theorem P6:qu X [] a0o:=fun _ _ σ H _ I h=>a59 ⟨σ,H,I,h⟩
theorem yC(h1:PS X st t)(h2:qu X rest u):qu X (st::rest) (a2k t u):=by
 intro c2t s σ H D I h;refine wpAny_execs_cons (bA (h1 c2t s σ H { D with nx:=u D } I h) fun f s1 q=>?_);cases f with
 | next=>
   obtain⟨σ',H',I',q⟩:=q;exact h2 c2t s1 σ' H' D I' q
 | ret v=>exact q
 | brk=>exact q
 | cont=>exact q
theorem P4(h1:PS X st t):qu X [st] t:=by
 intro c2t s σ H D I h;refine wpAny_execs_cons (bA (h1 c2t s σ H D I h) fun f s1 q=>?_);cases f with
 | next=>exact a59 q
 | ret v=>exact q
 | brk=>exact q
 | cont=>exact q
theorem n9.quiet{c2t:List (Addr×Obj)}{σ:St}{H:Hp}{s:a01}(I:n9 X c2t σ H s):interactive X.env=false:=by simp[interactive,I.ok.kind]
noncomputable def yj(te:TE):TS:=fun D σ H=>te σ H fun _ H1=>D.nx σ H1
theorem P9(he:PE X e te)(hs:a51 e none pos.line X.env=pure false:=by rfl):PS X (.Expr e pos) (yj te):=by
 intro c2t s σ H D I h;exact wpAny_Expr_any (bA (he c2t s σ H _ I h) fun v s1 ⟨x,H1,I1,r1,q1⟩=>⟨σ,H1,I1,q1⟩) I.quiet hs
noncomputable def a6z(te:TE):TS:=fun D σ H=>te σ H D.rt
theorem a3e(he:PE X e te):PS X (.Return (some e) pos) (a6z te):=by
 intro c2t s σ H D I h;exact wpAny_Return_some (bA (he c2t s σ H _ I h) fun v s1 ⟨x,H1,I1,r1,q1⟩=>⟨x,σ,H1,I1,r1,q1⟩)
noncomputable def a2m(c:TT)(t u:TS):TS:=fun D σ H=>c σ H fun b H1=>if b=true then t D σ H1 else u D σ H1
theorem a7q{c:a13}{a b:List Stmt}{tc:TT}(hc:PT X c tc)(ha:qu X a t)(hb:qu X b u):PS X (.If c a b pos) (a2m tc t u):=by
 intro c2t s σ H D I h;refine wpAny_If (bA (hc c2t s σ H _ I h) fun d s1 ⟨H1,I1,q1⟩=>?_);cases d with
 | true=>exact ha c2t s1 σ H1 D I1 q1
 | false=>exact hb c2t s1 σ H1 D I1 q1
noncomputable def yi:TS:=fun _ _ _=>False
theorem yG:PS X st yi:=fun _ _ _ _ _ _ h=>h.elim
end
abbrev TG:=V->St->Hp->(St->Hp->Prop)->Prop
abbrev wb:=List V->St->Hp->(St->Hp->Prop)->Prop
noncomputable def PG(X:Cx)(target:a13)(t:TG):Prop:=
 ∀ (c2t:List (Addr×Obj)) (s:a01) (σ:St) (H:Hp) (v:V) (u:Value) (Q:St->Hp->Prop),n9 X c2t σ H s->am v u->t v σ H Q->
  a07 (a05 X.prog X.w) X.A (a29 target X.env u) (fun _ s'=>∃ σ' H',n9 X c2t σ' H' s'/\Q σ' H') X.xe s
noncomputable def a5z(X:Cx)(ts:List a13)(t:wb):Prop:=
 ∀ (c2t:List (Addr×Obj)) (s:a01) (σ:St) (H:Hp) (vs:List V) (us:List Value) (Q:St->Hp->Prop),n9 X c2t σ H s->x9 vs us->t vs σ H Q->
  a07 (a05 X.prog X.w) X.A (a79 ((a24 ts X.env).map (·.2)) us) (fun _ s'=>∃ σ' H',n9 X c2t σ' H' s'/\Q σ' H') X.xe s
abbrev a0d:=V->V->V->Hp->(Hp->Prop)->Prop
noncomputable def a5y(X:Cx)(t:a0d):Prop:=
 ∀ (c2t:List (Addr×Obj)) (s:a01) (σ:St) (H:Hp) (o i v:V) (ov iv u:Value) (Q:Hp->Prop),n9 X c2t σ H s->am o ov->am i iv->am v u->t o i v H Q->
  a07 (a05 X.prog X.w) X.A (setItem ov iv u) (fun _ s'=>∃ H',n9 X c2t σ H' s'/\Q H') X.xe s
abbrev a8q:=V->V->Hp->VK->Prop
noncomputable def PIp(X:Cx)(op:b01)(t:a8q):Prop:=
 ∀ (c2t:List (Addr×Obj)) (s:a01) (σ:St) (H:Hp) (x y:V) (v u:Value) (Q:VK),n9 X c2t σ H s->am x v->am y u->t x y H Q->
  a07 (a05 X.prog X.w) X.A (inplaceOp op v u) (EP X c2t σ Q) X.xe s
section
variable {X:Cx} {pos:Pos}
noncomputable def aU(i:Nat):TG:=fun v σ H Q=>Q (σ.set i (some v)) H
theorem R8{i:Nat}{x:Str}(hN:X.N.Nodup)(hi:X.N[i]?=some x)(hx:a1z X.env.scope x)(hf:X.fn x=true\/X.env.scope.names.lookup x=some .local:=by first | exact .inl rfl | exact .inr rfl | assumption):PG X (.Name x pos) (aU i):=by
 intro c2t s σ H v u Q I r h;exact wpAny_assign_Name (dz I hN hi hx r (fun s' I'=>⟨_,H,I',h⟩) hf)
noncomputable def nK:wb:=fun vs σ H Q=>vs=[]/\Q σ H
noncomputable def cu(t:TG)(u:wb):wb:=fun vs σ H Q=>∃ v r,vs=v::r/\t v σ H fun σ' H'=>u r σ' H' Q
theorem R5:a5z X [] nK:=by
 intro c2t s σ H vs us Q I r h;obtain⟨e,h⟩:=h;subst e;cases r;exact assignInOrder_nil ⟨σ,H,I,h⟩
theorem yQ{e:a13}{es:List a13}{t:TG}{u:wb}(h1:PG X e t)(h2:a5z X es u)(hs:(a24 (e::es) X.env).map (·.2)=a29 e X.env::(a24 es X.env).map (·.2):=by rfl):a5z X (e::es) (cu t u):=by
 intro c2t s σ H vs us Q I r h;obtain⟨v,vr,e1,h⟩:=h;subst e1;cases r with
 | cons r rr=>
   rw[hs];refine a81 (bA (h1 c2t s σ H _ _ _ I r h) fun _ s1 ⟨σ1,H1,I1,q1⟩=>?_);exact h2 c2t s1 σ1 H1 _ _ Q I1 rr q1
noncomputable def mM(K:a8z)(n:Nat)(t:wb):TG:=fun v σ H Q=>∃ a xs,v=.ref a/\aj K H a xs/\xs.length=n/\t xs σ H Q
theorem a3n{es:List a13}{k:Nat}{t:wb}{n:Nat}(hc:X.calm=true)(h:a5z X es t)(hn:(a24 es X.env).length=n:=by rfl)(hst:(a24 es X.env).findIdx? (·.1)=none:=by rfl):PG X (.Tuple es k pos) (mM X.K n t):=by
 intro c2t s σ H v u Q I r hw;obtain⟨a,xs,e1,hq,hl,hw⟩:=hw;subst e1;cases r;obtain⟨its,rv,ht,hz⟩:=I.tuple hq;refine assign_Tuple_tuple (I.ok.hd hc) ht (by simp[hn,<- hl,rv.length]) hst fun h' hx=>?_;have I1:n9 X c2t σ H { s with heap:=h' }:=I.kept (t':=s.toks) fun b o e=>hx b o (b0s (Heap.lt_size e)) e;exact h c2t _ σ H xs _ Q I1 (by simpa using rv) hw
noncomputable def a8j(to ti:TE)(t:a0d):TG:=fun v σ H Q=>to σ H fun o H1=>ti σ H1 fun i H2=>t o i v H2 fun H3=>Q σ H3
theorem a3o{o i:a13}{to ti:TE}{t:a0d}(ho:PE X o to)(hi:PE X i ti)(hs:a5y X t)(ha:∀ v,a29 (.Subscript o i pos) X.env v=(do
 let ov <- a43 [v] (eval o X.env);let iv <- a43 [v,ov] (eval i X.env)
 a28 pos
 a43 [v,ov,iv] (setItem ov iv v)
 release [v,ov,iv] []):=by intro _;rfl):PG X (.Subscript o i pos) (a8j to ti t):=by
 intro c2t s σ H v u Q I r h;rw[ha];refine a00 (a16 (bA (ho c2t s σ H _ I h) fun ov s1 ⟨x,H1,I1,r1,q1⟩=>?_));refine a00 (a16 (bA (hi c2t s1 σ H1 _ I1 q1) fun iv s2 ⟨y,H2,I2,r2,q2⟩=>?_));refine a00 (a17 (a00 (a16 (bA (hs c2t s2 σ H2 x y v ov iv u _ I2 r1 r2 r q2) fun _ s3 ⟨H3,I3,q3⟩=>?_))));exact wpAny_release ⟨σ,H3,I3,q3⟩
noncomputable def qG(te:TE)(g:TG):TS:=fun D σ H=>te σ H fun x H1=>g x σ H1 D.nx
theorem a3j{tg e:a13}{te:TE}{g:TG}(he:PE X e te)(hg:PG X tg g)(hs:a53 [tg] e pos.line X.env=pure false:=by rfl)(hw:a54 [tg] e X.env=pure none:=by rfl)(h1:(a24 [tg] X.env).map (·.2)=[a29 tg X.env]:=by rfl):PS X (.Assign [tg] e pos) (qG te g):=by
 intro c2t s σ H D I h;refine wpAny_Assign_stores (bA (he c2t s σ H _ I h) fun v s1 ⟨x,H1,I1,r1,q1⟩=>?_) hs hw;rw[h1];exact bA (hg c2t s1 σ H1 x v _ I1 r1 q1) fun _ s2 q=>q
theorem a3d{i:Nat}{x:Str}{e:a13}{te:TE}{pos':Pos}(hN:X.N.Nodup)(hi:X.N[i]?=some x)(hx:a1z X.env.scope x)(he:PE X e te)(hs:a51 e (some (.Name x pos')) pos.line X.env=pure false:=by rfl)(hf:X.fn x=true\/X.env.scope.names.lookup x=some .local:=by first | exact .inl rfl | exact .inr rfl | assumption) :
 PS X (.Assign [.Name x pos'] e pos) (qG te (aU i)):=by
 intro c2t s σ H D I h;refine wpAny_Assign_Name (bA (he c2t s σ H _ I h) fun v s1 ⟨y,H1,I1,r1,q1⟩=>?_) hs;exact dz I1 hN hi hx r1 (fun s2 I2=>⟨_,H1,I2,q1⟩) hf
noncomputable def a7a(i j:Nat)(ta:TA):TS:=fun D σ H=>ta σ H fun vs H1=>∃ v w,vs=[v,w]/\D.nx ((σ.set i (some v)).set j (some w)) H1
theorem a3f{i j:Nat}{x y:Str}{a b:a13}{ta:TA}{px py pt:Pos}{kt k2 pt2}(hc:X.calm=true)(hN:X.N.Nodup)(hi:X.N[i]?=some x)(hj:X.N[j]?=some y)(hij:i≠j)(hx:X.env.scope.names.lookup x=some .local)(hy:X.env.scope.names.lookup y=some .local)(ha:PA X [a,b] ta)(hw:a54 [.Tuple [.Name x px,.Name y py] kt pt] (.Tuple [a,b] k2 pt2) X.env=pure (some [x,y]))(hs:a53 [.Tuple [.Name x px,.Name y py] kt pt] (.Tuple [a,b] k2 pt2) pos.line X.env=pure false:=by rfl) :
 PS X (.Assign [.Tuple [.Name x px,.Name y py] kt pt] (.Tuple [a,b] k2 pt2) pos) (a7a i j ta):=by
 intro c2t s σ H D I h;rw[exec_Assign_arm];refine a00 (a17 ?_);rw[hs];refine a00 (a02 ?_);rw[if_neg (by decide)];refine a00 (Tuple_ (bA (ha _ c2t s σ H _ I h) fun us s1 ⟨vs,H1,I1,r1,q1⟩=>?_));obtain⟨v,w,e1,q1⟩:=q1;subst e1;obtain⟨u1,u2,rfl,rv,rw'⟩ : ∃ u1 u2,us=[u1,u2]/\am v u1/\am w u2:=by
  cases r1 with
  | cons p q=>
    cases q with
    | cons p' q'=>
      cases q';exact⟨_,_,rfl,p,p'⟩
 refine a33 ?_ (by show 2<=sizeLine;decide);have I2:n9 X c2t σ H1 { s1 with heap:=s1.heap.push { cls:=.type "tuple",data:=.seq [u1,u2].toArray } }:=I1.kept (t':=s1.toks) fun b o e=>Heap.get?_push_of_some _ e;rw[hw];refine a00 (a02 ?_);show a07 (a05 X.prog X.w) X.A (do rule "assign.swapped-stores";let items <- b26 (.ref s1.heap.objs.size) 2 none;a79 [fun v=>b30 X.env y v,fun v=>b30 X.env x v] items.reverse;pure Flow.next) _ _ _;refine a00 (a30 (a00 (unpackItems_tuple (items:=#[u1,u2]) (I.ok.hd hc) (IsTup.new s1.heap _) fun h' hx'=>?_)));have I3:=I2.kept (h':=h') (t':=s1.toks) fun b o e=>hx' b o (b0s (Heap.lt_size e)) e;show a07 _ _ (a79 [fun v=>b30 X.env y v,fun v=>b30 X.env x v] [u2,u1] >>= fun _=>pure Flow.next) _ _ _;refine a00 (a81 (wpAny_bindName (dz I3 hN hj (.inl hy) rw' (fun s2 I4=>?_) (.inr hy))));refine a81 (wpAny_bindName (dz I4 hN hi (.inl hx) rv (fun s3 I5=>assignInOrder_nil (a02 ?_)) (.inr hx)));rw[List.set_comm _ _ (Ne.symm hij)] at I5;exact⟨_,H1,I5,q1⟩
noncomputable def a7f(i:Nat)(te:TE)(ti:a8q):TS:=fun D σ H=>∃ x,σ[i]?=some (some x)/\te σ H fun y H1=>ti x y H1 fun z H2=>D.nx (σ.set i (some z)) H2
theorem a3i{i:Nat}{x:Str}{e:a13}{te:TE}{op:b01}{ti:a8q}{pos':Pos}(hN:X.N.Nodup)(hi:X.N[i]?=some x)(hx:a1z X.env.scope x)(he:PE X e te)(ho:PIp X op ti)(hf:X.fn x=true\/X.env.scope.names.lookup x=some .local:=by first | exact .inl rfl | exact .inr rfl | assumption) :
 PS X (.AugAssign (.Name x pos') op e pos) (a7f i te ti):=by
 intro c2t s σ H D I h;obtain⟨v,e1,h⟩:=h;obtain⟨m,hn,hl⟩:=I.loc;have vis:a8p X.env.scope x:=by rcases hx with k | k;exact .inl k;exact .inr (.inl k)
 obtain⟨u,r,l⟩:=hl i x v hi e1 vis;refine wpAny_AugAssign_Name ?_;have go:a07 (a05 X.prog X.w) X.A (eval e X.env) (fun w s₂=>a07 (a05 X.prog X.w) X.A (inplaceOp op u w) (fun r s₃=>a07 (a05 X.prog X.w) X.A (storeName X.env x r) (fun _=>SP X c2t D .next) X.xe s₃) X.xe s₂) X.xe s:=by
  refine bA (he c2t s σ H _ I h) fun w s1 ⟨y,H1,I1,r1,q1⟩=>?_;refine bA (ho c2t s1 σ H1 v y u w _ I1 r r1 q1) fun z s2 ⟨zv,H2,I2,r2,q2⟩=>?_;exact dz I2 hN hi hx r2 (fun s3 I3=>⟨_,H2,I3,q2⟩) hf
 rcases l with⟨hk,hm⟩ | ⟨hk,c,hc,hcell⟩
 .exact b25 I.ok.kind hk hn hm go
 .rcases hk with hk | hk
  .exact wpAny_loadName_cell I.ok.kind hk hc hcell go
  .rcases hx with k | k
   .have:X.env.scope.names.lookup x=some .free:=hk;rw[k] at this;cases this
   .have:X.env.scope.names.lookup x=some .free:=hk;rw[k] at this;cases this
noncomputable def ipI(f:Int->Int->Int):a8q:=fun x y H Q=>∃ i j,x=.int i/\y=.int j/\Q (.int (f i j)) H
theorem a5c:PIp X .Add (ipI fun i j=>i+j):=by
 intro c2t s σ H x y v u Q I r1 r2 h;obtain⟨i,j,e1,e2,q⟩:=h;subst e1;subst e2;obtain⟨t,rfl⟩:=r1;obtain⟨t',rfl⟩:=r2;exact iadd_int ⟨.int _,H,I.tok _,⟨_,rfl⟩,q⟩
noncomputable def pd(c:TT)(tb:TS):TS:=fun D σ H=>∃ W:Nat->St->Hp->Prop,(∃ m,W m σ H)/\∀ m σ H,W m σ H->
 c σ H fun b H1=>if b=true then ∃ N:St->Hp->Prop,(∀ σ' H',N σ' H'->∃ m',m' < m/\W m' σ' H')/\tb { D with nx:=N,ct:=N,bk:=D.nx } σ H1 else D.nx σ H1
theorem yD{c:a13}{body:List Stmt}{tc:TT}{tb:TS}(hp:b15 (a05 X.prog X.w) X.A X.env X.xe)(hc:PT X c tc)(hb:qu X body tb):PS X (.While c body [] pos) (pd tc tb):=by
 intro c2t s σ H D I h;obtain⟨W,⟨m0,w0⟩,turn⟩:=h;refine wpAny_While (codeAny_whileLoop (fun n s'=>∃ σ' H',n9 X c2t σ' H' s'/\W n σ' H') ?_ m0 ⟨σ,H,I,w0⟩);rintro n s1 ⟨σ1,H1,I1,w1⟩;refine a40 hp (bA (hc c2t s1 σ1 H1 _ I1 (turn n σ1 H1 w1)) fun b s2 ⟨H2,I2,q2⟩=>?_);cases b with
 | true=>
   obtain⟨N,hN,q2⟩:=q2;rw[if_pos rfl];refine a40 hp (bA (hb c2t s2 σ1 H2 _ I2 q2) fun f s3 q3=>?_);cases f with
   | next=>
     obtain⟨σ3,H3,I3,n3⟩:=q3;obtain⟨m',hm,w3⟩:=hN σ3 H3 n3;exact⟨m',hm,σ3,H3,I3,w3⟩
   | cont=>
     obtain⟨σ3,H3,I3,n3⟩:=q3;obtain⟨m',hm,w3⟩:=hN σ3 H3 n3;exact⟨m',hm,σ3,H3,I3,w3⟩
   | brk=>exact q3
   | ret v=>exact q3
 | false=>
   rw[if_neg b0a];exact a59 ⟨σ1,H2,I2,q2⟩
end
structure It where
 go:Nat->Hp->Prop
 yld:Nat->Hp->V->Hp->Prop
 stop:Nat->Hp->Prop
noncomputable def eu(X:Cx)(c2t:List (Addr×Obj))(H:Hp)(b:Addr):Prop:=
 H b=none/\b≠X.env.locals/\b∉X.fs/\(b∈X.ex\/X.s₀.heap.objs.size<=b)/\(∀ x c,X.env.cells.lookup x=some c->c≠b)/\∀ p∈X.pn++c2t,p.1≠b
theorem n9.fpOk{X:Cx}{c2t:List (Addr×Obj)}{σ:St}{H H':Hp}{s:a01}{b:Addr}(I:n9 X c2t σ H s)(hb:s.heap.objs.size<=b)(hn:H' b=none):eu X c2t H' b:=by
 refine⟨hn,Nat.ne_of_gt (b0k I.lt hb),I.nofs hb,.inr (b0n I.sz hb),fun x c e z=>?_,fun p hp z=>?_⟩
 .obtain⟨v,q⟩:=I.cell x c e;exact absurd (b0k q.lt (by rw[z];exact hb)) (b3m _)
 .exact absurd (b0k (Heap.lt_size (I.pin p hp).1) (by rw[z];exact hb)) (b3m _)
structure nR(P:a15)(w:a20)(K:a8z)(tg:a13)(J:It)(fp:List Addr)(it:Addr)(tn:Nat->Heap->Prop):Prop where
 mem:it∈fp
 obj:∀ i h,tn i h->∀ b∈fp,∃ o,h.get? b=some o/\∀ v,o.data≠.cell v
 keep:∀ i h h',tn i h->(∀ b∈fp,∀ o,h.get? b=some o->h'.get? b=some o)->tn i h'
 item:∀ (X:Cx),X.prog=P->X.w=w->X.K=K->X.calm=true->∀ (i:Nat) (c2t:List (Addr×Obj)) (s:a01) (σ:St) (H:Hp) (E:Value->a01->Prop),n9 X c2t σ H s->(∀ b∈fp,eu X c2t H b)->tn i s.heap->J.go i H->
  a07 (a05 P w) X.A (a52 (.ref it)) (fun r s1=>∃ u,r=some u/\
   a07 (a05 P w) X.A (a18 tg (.ref it) u) (fun _ s2=>∃ x H',n9 X c2t σ H' s2/\am x u/\J.yld i H x H'/\tn (i+1) s2.heap/\∀ b∈fp,H' b=none) E s1) E s
 done:∀ (X:Cx),X.prog=P->X.w=w->X.K=K->X.calm=true->∀ (i:Nat) (c2t:List (Addr×Obj)) (s:a01) (σ:St) (H:Hp) (E:Value->a01->Prop),n9 X c2t σ H s->(∀ b∈fp,eu X c2t H b)->tn i s.heap->J.stop i H->
  a07 (a05 P w) X.A (a52 (.ref it)) (fun r s1=>r=none/\n9 X c2t σ H s1) E s
 self:∀ (A:a19) (i:Nat) (s:a01) (Q:Value->a01->Prop) (E:Value->a01->Prop),tn i s.heap->Q (.ref it) s->a07 (a05 P w) A (a65 (.ref it)) Q E s
abbrev TI:=St->Hp->(It->Hp->Prop)->Prop
noncomputable def PIE(X:Cx)(c2t:List (Addr×Obj))(σ:St)(tg:a13)(R:It->Hp->Prop)(itv:Value)(s2:a01):Prop:=
 ∃ (it:Addr) (fp:List Addr) (tn:Nat->Heap->Prop) (J:It) (H':Hp),itv=.ref it/\n9 X c2t σ H' s2/\nR X.prog X.w X.K tg J fp it tn/\tn 0 s2.heap/\(∀ b∈fp,eu X c2t H' b)/\R J H'
noncomputable def PI(X:Cx)(tg iter:a13)(wi:TI):Prop:=
 ∀ (c2t:List (Addr×Obj)) (s:a01) (σ:St) (H:Hp) (R:It->Hp->Prop),n9 X c2t σ H s->wi σ H R->
  a07 (a05 X.prog X.w) X.A (eval iter X.env) (fun v s1=>a07 (a05 X.prog X.w) X.A (a65 v) (PIE X c2t σ tg R) X.xe s1) X.xe s
theorem E8{M:a83}{A:a19}{E:Value->a01->Prop}{s:a01}{tg:a13}{it:Addr}{u:Value}{o:Obj}{n:String}{vs:Array Value}{Q:Unit->a01->Prop}(ho:s.heap.get? it=some o)(hc:o.cls=.type n)(hd:o.data=.fields vs)(hn:["enumerate","zip","dict_itemiterator","dict_reverseitemiterator","odict_iterator","itertools.zip_longest","itertools.pairwise"].contains n=false)(hQ:Q () s):a07 M A (a18 tg (.ref it) u) Q E s:=by
 unfold a18;cases tg<;>first
  | exact a02 hQ
  | (cases u<;>first
      | exact a02 hQ
      | (refine a00 (a80 ho ?_)
         rw[hc,hd];show a07 M A (if (["enumerate","zip","dict_itemiterator","dict_reverseitemiterator","odict_iterator","itertools.zip_longest","itertools.pairwise"].contains n && vs[0]? == some (a72 _))=true then _ else _) Q E s;rw[if_neg (by intro h;rw[hn,b9o] at h;cases h)];exact a02 hQ))
noncomputable def M4(K:a8z)(a:Addr):It:=
 ⟨fun i H=>∃ xs x,o7 K H a xs/\xs[i]?=some x,fun i H x H'=>H'=H/\∀ xs,o7 K H a xs->xs[i]?=some x,fun i H=>∃ xs,o7 K H a xs/\xs.length<=i⟩
noncomputable def a6c(K:a8z)(a:Addr):It:=
 ⟨fun i H=>∃ xs x,aj K H a xs/\xs[i]?=some x,fun i H x H'=>H'=H/\∀ xs,aj K H a xs->xs[i]?=some x,fun i H=>∃ xs,aj K H a xs/\xs.length<=i⟩
noncomputable def a2a(lo:Int)(n:Nat):It:=⟨fun i _=>i<n,fun i H x H'=>H'=H/\x=.int (lo+i),fun i _=>n<=i⟩
theorem wo{P:a15}{w:a20}{K:a8z}{tg:a13}(a it:Addr):nR P w K tg (M4 K a) [it] it (fun i h=>h.IsListIter it a i) where
 mem:=by simp
 obj:=fun i h st b hb=>by
  have e:b=it:=by simpa using hb
  subst e;obtain⟨o,e,c,d⟩:=st;exact⟨o,e,fun v z=>by rw[d] at z;cases z⟩
 keep:=fun i h h' st k=>st.at fun o e=>k it (by simp) o e
 item:=by
  intro X hP hw hK hc i c2t s σ H E I hf st hg;subst hP hw hK;obtain⟨xs,x,hq,hx⟩:=hg;obtain⟨its,rv,p,hz⟩:=I.list hq;obtain⟨u,hu,ru⟩:=rv.get hx;obtain⟨f0,f1,f2,f3,f4,f5⟩:=hf it (by simp);refine b17 st p.isList (x:=u) (by simpa using hu) fun h' st' sb=>?_;have I1:n9 X c2t σ H { s with heap:=h' }:=I.turned (t':=s.toks) (fun b o hb e=>(sb.2 b hb).trans e) f0 f1 f3 f4 f5;obtain⟨o,e,c,d⟩:=id st';exact⟨u,rfl,E8 (s:={ s with heap:=h' }) e c d (by decide) ⟨x,H,I1,ru,⟨rfl,fun ys hy=>by rw[I.list_inj hy hq];exact hx⟩,st',fun b hb=>(hf b hb).1⟩⟩
 done:=by
  intro X hP hw hK hc i c2t s σ H E I hf st hg;subst hP hw hK;obtain⟨xs,hq,hx⟩:=hg;obtain⟨its,rv,p,hz⟩:=I.list hq;obtain⟨f0,f1,f2,f3,f4,f5⟩:=hf it (by simp);have hl:=rv.length;exact b23 (I.ok.hd hc) st p.isList (by simp;lia) fun h' eb=>⟨rfl,I.turned (t':=s.toks) (fun b o hb e=>eb b o hb e) f0 f1 f3 f4 f5⟩
 self:=fun _ _ _ _ _ st h=>wpAny_pyIter_listiter st h
theorem sD{P:a15}{w:a20}{K:a8z}{tg:a13}(a it:Addr):nR P w K tg (a6c K a) [it] it (fun i h=>h.IsTupleIter it a i) where
 mem:=by simp
 obj:=fun i h st b hb=>by
  have e:b=it:=by simpa using hb
  subst e;obtain⟨o,e,c,d⟩:=st;exact⟨o,e,fun v z=>by rw[d] at z;cases z⟩
 keep:=fun i h h' st k=>st.at fun o e=>k it (by simp) o e
 item:=by
  intro X hP hw hK hc i c2t s σ H E I hf st hg;subst hP hw hK;obtain⟨xs,x,hq,hx⟩:=hg;obtain⟨its,rv,p,hz⟩:=I.tuple hq;obtain⟨u,hu,ru⟩:=rv.get hx;obtain⟨f0,f1,f2,f3,f4,f5⟩:=hf it (by simp);refine wpAny_pyNext_tuple_item st (show s.heap.IsTuple a its.toArray from p) (x:=u) (by simpa using hu) fun h' st' sb=>?_;have I1:n9 X c2t σ H { s with heap:=h' }:=I.turned (t':=s.toks) (fun b o hb e=>(sb.2 b hb).trans e) f0 f1 f3 f4 f5;obtain⟨o,e,c,d⟩:=id st';exact⟨u,rfl,E8 (s:={ s with heap:=h' }) e c d (by decide) ⟨x,H,I1,ru,⟨rfl,fun ys hy=>by rw[I.tuple_inj hy hq];exact hx⟩,st',fun b hb=>(hf b hb).1⟩⟩
 done:=by
  intro X hP hw hK hc i c2t s σ H E I hf st hg;subst hP hw hK;obtain⟨xs,hq,hx⟩:=hg;obtain⟨its,rv,p,hz⟩:=I.tuple hq;obtain⟨f0,f1,f2,f3,f4,f5⟩:=hf it (by simp);have hl:=rv.length;exact wpAny_pyNext_tuple_end (I.ok.hd hc) st (show s.heap.IsTuple a its.toArray from p) (by simp;lia) fun h' eb=>⟨rfl,I.turned (t':=s.toks) (fun b o hb e=>eb b o hb e) f0 f1 f3 f4 f5⟩
 self:=fun _ _ _ _ _ st h=>wpAny_pyIter_tupleiter st h
theorem sE{P:a15}{w:a20}{K:a8z}{tg:a13}(it:Addr)(lo:Int)(n:Nat):nR P w K tg (a2a lo n) [it] it (fun i h=>IsRangeIter h it (lo+(i:Nat)*1) ((n:Int) - (i:Nat)) 1) where
 mem:=by simp
 obj:=fun i h st b hb=>by
  have e:b=it:=by simpa using hb
  subst e;exact⟨_,st,fun v z=>by
   have z':Data.fields _=Data.cell v:=z;cases z'⟩
 keep:=fun i h h' st k=>k it (by simp) _ st
 item:=by
  intro X hP hw hK hc i c2t s σ H E I hf st hg;subst hP hw hK;obtain⟨f0,f1,f2,f3,f4,f5⟩:=hf it (by simp);have W:=Walks.range (prog:=X.prog) (w:=X.w) (I.ok.hd hc) it lo 1 n;refine W.item i s _ _ hg st fun v h' tk hv st' kk=>?_;obtain⟨t,rfl⟩:=hv;have I1:n9 X c2t σ H { s with heap:=h',toks:=tk }:=I.turned (fun b o hb e=>kk b o (by simpa using hb) e) f0 f1 f3 f4 f5;refine⟨_,rfl,E8 (s:={ s with heap:=h',toks:=tk }) (n := "range_iterator") st' rfl rfl (by decide) ⟨.int (lo+i),H,I1,⟨t,?_⟩,⟨rfl,rfl⟩,st',fun b hb=>(hf b hb).1⟩⟩;rw[b9h]
 done:=by
  intro X hP hw hK hc i c2t s σ H E I hf st hg;subst hP hw hK;obtain⟨f0,f1,f2,f3,f4,f5⟩:=hf it (by simp);exact wpAny_pyNext_range_end (I.ok.hd hc) st (by have:n<=i:=hg;lia) fun h' eb=>⟨rfl,I.turned (t':=s.toks) (fun b o hb e=>eb b o hb e) f0 f1 f3 f4 f5⟩
 self:=fun _ _ _ _ _ st h=>wpAny_pyIter_rangeiter st h
section
variable {X:Cx} {tg:a13}
noncomputable def C9(K:a8z)(tl:TE):TI:=fun σ H R=>tl σ H fun x H1=>∃ a,x=.ref a/\(∃ xs,o7 K H1 a xs)/\R (M4 K a) H1
noncomputable def a5d(K:a8z)(tl:TE):TI:=fun σ H R=>tl σ H fun x H1=>∃ a,x=.ref a/\(∃ xs,aj K H1 a xs)/\R (a6c K a) H1
theorem Q9{l:a13}{tl:TE}(hl:PE X l tl):PI X tg l (C9 X.K tl):=by
 intro c2t s σ H R I h;refine bA (hl c2t s σ H _ I h) fun v s1 ⟨x,H1,I1,r1,q1⟩=>?_;obtain⟨a,e,⟨xs,hq⟩,q⟩:=q1;subst e;cases r1;obtain⟨its,rv,p,hz⟩:=I1.list hq;refine a82 p.isList ?_;refine⟨s1.heap.objs.size,[s1.heap.objs.size],_,_,H1,rfl,I1.kept (t':=s1.toks) fun b o e=>Heap.get?_push_of_some _ e,wo a _,⟨_,Heap.get?_push_size _ rfl,rfl,rfl⟩,fun b hb=>?_,q⟩;have e:b=s1.heap.objs.size:=by simpa using hb
 subst e;exact I1.fpOk (a9j _) (I1.hok.fresh (a9j _))
theorem a3m{l:a13}{tl:TE}(hl:PE X l tl):PI X tg l (a5d X.K tl):=by
 intro c2t s σ H R I h;refine bA (hl c2t s σ H _ I h) fun v s1 ⟨x,H1,I1,r1,q1⟩=>?_;obtain⟨a,e,⟨xs,hq⟩,q⟩:=q1;subst e;cases r1;obtain⟨its,rv,p,hz⟩:=I1.tuple hq;refine wpAny_pyIter_tuple (show s1.heap.IsTuple a its.toArray from p) ?_;refine⟨s1.heap.objs.size,[s1.heap.objs.size],_,_,H1,rfl,I1.kept (t':=s1.toks) fun b o e=>Heap.get?_push_of_some _ e,sD a _,⟨_,Heap.get?_push_size _ rfl,rfl,rfl⟩,fun b hb=>?_,q⟩;have e:b=s1.heap.objs.size:=by simpa using hb
 subst e;exact I1.fpOk (a9j _) (I1.hok.fresh (a9j _))
theorem qW{c2t:List (Addr×Obj)}{σ:St}{H:Hp}{s:a01}{R:It->Hp->Prop}{E:Value->a01->Prop}{lo hi:Int}{t u v:Tok}{tk:Nat}(I:n9 X c2t σ H s)(h1:-(2^62)<=lo)(h2:lo<2^62)(h3:-(2^62)<=hi)(h4:hi<2^62)(q:R (a2a lo (hi - lo).toNat) H):a07 (a05 X.prog X.w) X.A (a65 (.ref s.heap.objs.size)) (PIE X c2t σ tg R) E { s with heap:=s.heap.push { cls:=.type "range",data:=.fields #[.int lo t,.int hi u,.int 1 v] },toks:=tk }:=by
 refine wpAny_pyIter_range (IsRange.new ..) (small_one h1 h2 h3 h4) ?_;have I1:n9 X c2t σ H { s with heap:=s.heap.push { cls:=.type "range",data:=.fields #[.int lo t,.int hi u,.int 1 v] },toks:=tk }:=I.kept fun b o e=>Heap.get?_push_of_some _ e;refine⟨(s.heap.push { cls:=.type "range",data:=.fields #[.int lo t,.int hi u,.int 1 v] }).objs.size,[(s.heap.push { cls:=.type "range",data:=.fields #[.int lo t,.int hi u,.int 1 v] }).objs.size],_,_,H,rfl,
  I1.kept (t':=tk) fun b o e=>Heap.get?_push_of_some _ e,sE _ lo (hi - lo).toNat,?_,fun b hb=>?_,q⟩
 .have e1:lo+((0:Nat):Int)*1=lo:=by simp
  have e2:(((hi - lo).toNat:Nat):Int) - ((0:Nat):Int)=Builtin.Range.rangeSize lo hi 1:=by rw[rangeSize_one];split<;>lia
  show IsRangeIter _ _ (lo+((0:Nat):Int)*1) ((((hi - lo).toNat:Nat):Int) - ((0:Nat):Int)) 1;rw[e1,e2];exact Heap.get?_push_size _ rfl
 .have e:b=(s.heap.push { cls:=.type "range",data:=.fields #[.int lo t,.int hi u,.int 1 v] }).objs.size:=by simpa using hb
  subst e;exact I1.fpOk (a9j _) (I1.hok.fresh (a9j _))
noncomputable def a1l(ta:TA):TI:=fun σ H R=>ta σ H fun vs H1=>∃ j:Int,vs=[.int j]/\-(2^62)<=j/\j<2^62/\R (a2a 0 j.toNat) H1
noncomputable def a1k(ta:TA):TI:=fun σ H R=>ta σ H fun vs H1=>∃ i j:Int,vs=[.int i,.int j]/\(-(2^62)<=i/\i<2^62/\-(2^62)<=j/\j<2^62)/\R (a2a i (j - i).toNat) H1
theorem wH{a:a13}{ta:TA}{p pos:Pos}(hg:Gl X "range")(hm:X.mg "range" = none)(ha:PA X [a] ta)(hs:a11 [a] X.env=[(false,eval a X.env)]:=by rfl):PI X tg (.Call (.Name "range" p) [a] [] pos) (a1l ta):=by
 intro c2t s σ H R I h;refine Call_ (jV I hg hm boot_range (b3f (bA (ha pos c2t s σ H _ I h) fun us s1 ⟨vs,H1,I1,r1,q1⟩=>?_) hs rfl));obtain⟨j,e,q1,q2,q⟩:=q1;subst e;cases r1 with
 | cons r rr=>
   cases rr;obtain⟨t,rfl⟩:=r;exact call_range_1 (qW I1 (by lia) (by lia) q1 q2 (by simpa using q))
theorem wG{a b:a13}{ta:TA}{p pos:Pos}(hg:Gl X "range")(hm:X.mg "range" = none)(ha:PA X [a,b] ta)(hs:a11 [a,b] X.env=[(false,eval a X.env),(false,eval b X.env)]:=by rfl)(hs2:a11 [b] X.env=[(false,eval b X.env)]:=by rfl) :
 PI X tg (.Call (.Name "range" p) [a,b] [] pos) (a1k ta):=by
 intro c2t s σ H R I h;refine Call_ (jV I hg hm boot_range (b3f (bA (ha pos c2t s σ H _ I h) fun us s1 ⟨vs,H1,I1,r1,q1⟩=>?_) (by rw[hs,hs2]) (by rw[hs2];rfl)));obtain⟨i,j,e,⟨q1,q2,q3,q4⟩,q⟩:=q1;subst e;cases r1 with
 | cons r rr=>
   cases rr with
   | cons r' rr=>
     cases rr;obtain⟨t,rfl⟩:=r;obtain⟨t',rfl⟩:=r';exact call_range_2 (qW I1 q1 q2 q3 q4 q)
noncomputable def a7e(wi:TI)(g:TG)(tb:TS):TS:=fun D σ H=>wi σ H fun J H1=>∃ W:Nat->Nat->St->Hp->Prop,(∃ m,W 0 m σ H1)/\∀ i m σ H,W i m σ H->
 (J.stop i H/\D.nx σ H)\/(J.go i H/\∃ N:St->Hp->Prop,(∀ σ' H',N σ' H'->∃ m',m' < m/\W (i+1) m' σ' H')/\∀ x H',J.yld i H x H'->g x σ H' fun σ2 H2=>tb { D with nx:=N,ct:=N,bk:=D.nx } σ2 H2)
noncomputable def cf(fp:List Addr)(h:Heap):List (Addr×Obj):=fp.filterMap fun b=>(h.get? b).map fun o=>(b,o)
theorem fu{fp:List Addr}{h:Heap}{b:Addr}{o:Obj}(hb:b∈fp)(e:h.get? b=some o):(b,o)∈cf fp h:=b7b.mpr ⟨b,hb,by rw[e];rfl⟩
theorem xc{fp:List Addr}{h:Heap}{p:Addr×Obj}(hp:p∈cf fp h):p.1∈fp/\h.get? p.1=some p.2:=by
 obtain⟨b,hb,e⟩:=b7b.mp hp;cases q:h.get? b with
 | none=>rw[q] at e;cases e
 | some o=>
   rw[q] at e;have e':(b,o)=p:=a9t.inj e;subst e';exact⟨hb,q⟩
theorem n9.pinned{c2t:List (Addr×Obj)}{σ:St}{H:Hp}{s:a01}{fp:List Addr}(I:n9 X c2t σ H s)(hf:∀ b∈fp,eu X c2t H b)(ho:∀ b∈fp,∃ o,s.heap.get? b=some o/\∀ v,o.data≠.cell v):n9 X (c2t++cf fp s.heap) σ H s:=
 I.pins_of fun p hp=>(a9k.mp hp).elim (fun z=>I.pin p (b0j _ z)) fun z=>by
  obtain⟨hb,e⟩:=xc z;obtain⟨f0,f1,f2,_⟩:=hf p.1 hb;obtain⟨o,e',d⟩:=ho p.1 hb;rw[e] at e';cases e';exact⟨e,f0,f1,f2,d⟩
theorem n9.unpinned{c2t pl:List (Addr×Obj)}{σ:St}{H:Hp}{s:a01}(I:n9 X (c2t++pl) σ H s):n9 X c2t σ H s:=I.pins_of fun p hp=>I.pin p (b0j _ (b4t _ hp))
theorem a3g{iter:a13}{body:List Stmt}{wi:TI}{g:TG}{tb:TS}{pos:Pos}(hp:b15 (a05 X.prog X.w) X.A X.env X.xe)(hc:X.calm=true)(hi:PI X tg iter wi)(hg:PG X tg g)(hb:qu X body tb)(hs:∀ x,a04 iter X.env x=pure x:=by intro _;rfl):PS X (.For tg iter body [] pos) (a7e wi g tb):=by
 intro c2t s σ H D I h;refine wpAny_For (bA (hi c2t s σ H _ I h) fun v s1 h1=>bA h1 fun itv s2 h2=>?_) hs;obtain⟨it,fp,tn,J,H2,e,I2,T,st2,f2,W,⟨m0,w0⟩,turn⟩:=h2;subst e;have stat:∀ {H':Hp},(∀ b∈fp,H' b=none)->∀ b∈fp,eu X c2t H' b:=fun hn b hb=>⟨hn b hb,(f2 b hb).2⟩
 refine codeAny_forLoop_any (fun n s'=>∃ i σ' H',n9 X c2t σ' H' s'/\tn i s'.heap/\(∀ b∈fp,H' b=none)/\W i n σ' H') ?_ m0 ⟨0,σ,H2,I2,st2,fun b hb=>(f2 b hb).1,w0⟩;rintro n s3 ⟨i,σ3,H3,I3,st3,fr3,w3⟩;rcases turn i n σ3 H3 w3 with⟨stop,qn⟩ | ⟨go,N,hN,step⟩
 .refine a40 hp (bA (T.done X rfl rfl rfl hc i c2t s3 σ3 H3 X.xe I3 (stat fr3) st3 stop) fun r s4 ⟨hr,I4⟩=>?_);subst hr;exact a59 ⟨σ3,H3,I4,qn⟩
 .refine a40 hp (bA (T.item X rfl rfl rfl hc i c2t s3 σ3 H3 X.xe I3 (stat fr3) st3 go) fun r s4 ⟨u,hr,h4⟩=>?_);subst hr;refine a40 hp (bA h4 fun _ s5 ⟨x,H5,I5,r5,y5,st5,fr5⟩=>?_);have I5':=I5.pinned (stat fr5) (T.obj _ _ st5);refine a40 hp (bA (hg _ s5 σ3 H5 x u _ I5' r5 (step x H5 y5)) fun _ s6 ⟨σ6,H6,I6,q6⟩=>?_);refine a40 hp (bA (hb _ s6 σ6 H6 _ I6 q6) fun f s7 q7=>?_);have b12:∀ {σ7:St} {H7:Hp},n9 X (c2t++cf fp s5.heap) σ7 H7 s7->N σ7 H7->∃ m,m<n/\∃ i σ' H',n9 X c2t σ' H' s7/\tn i s7.heap/\(∀ b∈fp,H' b=none)/\W i m σ' H':=fun {σ7 H7} I7 n7=>by
   obtain⟨m',hm,w7⟩:=hN σ7 H7 n7;refine⟨m',hm,i+1,σ7,H7,I7.unpinned,T.keep _ _ _ st5 fun b hb o e=>(I7.pin (b,o) (b0j _ (b0j _ (fu hb e)))).1,fun b hb=>?_,w7⟩;obtain⟨o,e,d⟩:=T.obj _ _ st5 b hb;exact (I7.pin (b,o) (b0j _ (b0j _ (fu hb e)))).2.1
  cases f with
  | next=>obtain⟨σ7,H7,I7,n7⟩:=q7;exact b12 I7 n7
  | cont=>obtain⟨σ7,H7,I7,n7⟩:=q7;exact b12 I7 n7
  | brk=>obtain⟨σ7,H7,I7,q7⟩:=q7;exact⟨σ7,H7,I7.unpinned,q7⟩
  | ret v=>obtain⟨x7,σ7,H7,I7,r7,q7⟩:=q7;exact⟨x7,σ7,H7,I7.unpinned,r7,q7⟩
end
theorem cF{K:a8z}{a:Addr}{xs:List V}{g:TG}{tb:TS}{D:kl}{σ:St}{H:Hp}(Pv:Nat->St->Hp->Prop)(h0:Pv 0 σ H)(hl:∀ i σ H,i<=xs.length->Pv i σ H->o7 K H a xs)(hs:∀ i x σ H,xs[i]?=some x->Pv i σ H->g x σ H fun σ2 H2=>tb { D with nx:=Pv (i+1),ct:=Pv (i+1),bk:=D.nx } σ2 H2)(hd:∀ σ H,Pv xs.length σ H->D.nx σ H) :
 ∃ W:Nat->Nat->St->Hp->Prop,(∃ m,W 0 m σ H)/\∀ i m σ H,W i m σ H->
  ((M4 K a).stop i H/\D.nx σ H)\/((M4 K a).go i H/\∃ N:St->Hp->Prop,(∀ σ' H',N σ' H'->∃ m',m' < m/\W (i+1) m' σ' H')/\∀ x H',(M4 K a).yld i H x H'->g x σ H' fun σ2 H2=>tb { D with nx:=N,ct:=N,bk:=D.nx } σ2 H2):=by
 refine⟨fun i m σ H=>m=xs.length - i/\i<=xs.length/\Pv i σ H,⟨xs.length,by simp,b1m _,h0⟩,?_⟩;rintro i m σ H ⟨rfl,hi,p⟩;have q:=hl i σ H hi p;by_cases hlt:i<xs.length
 .refine .inr ⟨⟨xs,xs[i],q,by simp[hlt]⟩,Pv (i+1),fun σ' H' p'=>⟨xs.length - (i+1),by lia,rfl,hlt,p'⟩,fun x H' y=>?_⟩;obtain⟨e,y⟩:=y;subst e;exact hs i x σ _ (y xs q) p
 .have e:i=xs.length:=by lia
  subst e;exact .inl ⟨⟨xs,q,a9j _⟩,hd σ H p⟩
theorem vR{K:a8z}{a:Addr}{xs:List V}{g:TG}{tb:TS}{D:kl}{σ:St}{H:Hp}(Pv:Nat->St->Hp->Prop)(h0:Pv 0 σ H)(hl:∀ i σ H,i<=xs.length->Pv i σ H->aj K H a xs)(hs:∀ i x σ H,xs[i]?=some x->Pv i σ H->g x σ H fun σ2 H2=>tb { D with nx:=Pv (i+1),ct:=Pv (i+1),bk:=D.nx } σ2 H2)(hd:∀ σ H,Pv xs.length σ H->D.nx σ H) :
 ∃ W:Nat->Nat->St->Hp->Prop,(∃ m,W 0 m σ H)/\∀ i m σ H,W i m σ H->
  ((a6c K a).stop i H/\D.nx σ H)\/((a6c K a).go i H/\∃ N:St->Hp->Prop,(∀ σ' H',N σ' H'->∃ m',m' < m/\W (i+1) m' σ' H')/\∀ x H',(a6c K a).yld i H x H'->g x σ H' fun σ2 H2=>tb { D with nx:=N,ct:=N,bk:=D.nx } σ2 H2):=by
 refine⟨fun i m σ H=>m=xs.length - i/\i<=xs.length/\Pv i σ H,⟨xs.length,by simp,b1m _,h0⟩,?_⟩;rintro i m σ H ⟨rfl,hi,p⟩;have q:=hl i σ H hi p;by_cases hlt:i<xs.length
 .refine .inr ⟨⟨xs,xs[i],q,by simp[hlt]⟩,Pv (i+1),fun σ' H' p'=>⟨xs.length - (i+1),by lia,rfl,hlt,p'⟩,fun x H' y=>?_⟩;obtain⟨e,y⟩:=y;subst e;exact hs i x σ _ (y xs q) p
 .have e:i=xs.length:=by lia
  subst e;exact .inl ⟨⟨xs,q,a9j _⟩,hd σ H p⟩
theorem cN{lo:Int}{n:Nat}{g:TG}{tb:TS}{D:kl}{σ:St}{H:Hp}(Pv:Nat->St->Hp->Prop)(h0:Pv 0 σ H)(hs:∀ i σ H,i<n->Pv i σ H->g (.int (lo+i)) σ H fun σ2 H2=>tb { D with nx:=Pv (i+1),ct:=Pv (i+1),bk:=D.nx } σ2 H2)(hd:∀ σ H,Pv n σ H->D.nx σ H) :
 ∃ W:Nat->Nat->St->Hp->Prop,(∃ m,W 0 m σ H)/\∀ i m σ H,W i m σ H->
  ((a2a lo n).stop i H/\D.nx σ H)\/((a2a lo n).go i H/\∃ N:St->Hp->Prop,(∀ σ' H',N σ' H'->∃ m',m' < m/\W (i+1) m' σ' H')/\∀ x H',(a2a lo n).yld i H x H'->g x σ H' fun σ2 H2=>tb { D with nx:=N,ct:=N,bk:=D.nx } σ2 H2):=by
 refine⟨fun i m σ H=>m=n - i/\i<=n/\Pv i σ H,⟨n,by simp,b1m _,h0⟩,?_⟩;rintro i m σ H ⟨rfl,hi,p⟩;by_cases hlt:i<n
 .refine .inr ⟨hlt,Pv (i+1),fun σ' H' p'=>⟨n - (i+1),by lia,rfl,hlt,p'⟩,fun x H' y=>?_⟩;obtain⟨e,y⟩:=y;subst e y;exact hs i σ _ hlt p
 .have e:i=n:=by lia
  subst e;exact .inl ⟨a9j _,hd σ H p⟩
theorem lH{c:TT}{tb:TS}{D:kl}{σ:St}{H:Hp}(Pv:St->Hp->Prop)(μ:St->Hp->Nat)(h0:Pv σ H)(hs:∀ σ H,Pv σ H->c σ H fun b H1=>if b=true then tb { D with nx:=fun σ' H'=>Pv σ' H'/\μ σ' H' < μ σ H,ct:=fun σ' H'=>Pv σ' H'/\μ σ' H' < μ σ H,bk:=D.nx } σ H1 else D.nx σ H1)(mono:∀ σ H Q Q',(∀ b H1,Q b H1->Q' b H1)->c σ H Q->c σ H Q'):pd c tb D σ H:=by
 refine⟨fun m σ H=>m=μ σ H/\Pv σ H,⟨_,rfl,h0⟩,?_⟩;rintro m σ H ⟨rfl,p⟩;refine mono σ H _ _ (fun b H1 q=>?_) (hs σ H p);cases b with
 | true=>exact⟨_,fun σ' H' ⟨p',l⟩=>⟨_,l,rfl,p'⟩,q⟩
 | false=>exact q
abbrev R2:=V->V->Hp->VK->Prop
noncomputable def iH(X:Cx)(f:Value->Value->Sem Value)(r:R2):Prop:=
 ∀ (c2t:List (Addr×Obj)) (s:a01) (σ:St) (H:Hp) (x y:V) (v u:Value) (Q:VK),n9 X c2t σ H s->am x v->am y u->r x y H Q->
  a07 (a05 X.prog X.w) X.A (f v u) (EP X c2t σ Q) X.xe s
noncomputable def UnR(X:Cx)(f:Value->Sem Value)(r:V->Hp->VK->Prop):Prop:=
 ∀ (c2t:List (Addr×Obj)) (s:a01) (σ:St) (H:Hp) (x:V) (v:Value) (Q:VK),n9 X c2t σ H s->am x v->r x H Q->
  a07 (a05 X.prog X.w) X.A (f v) (EP X c2t σ Q) X.xe s
noncomputable def bP(X:Cx)(f:Value)(r:List V->Hp->VK->Prop):Prop:=
 ∀ (c2t:List (Addr×Obj)) (s:a01) (σ:St) (H:Hp) (xs:List V) (us:List Value) (Q:VK),n9 X c2t σ H s->x9 xs us->r xs H Q->
  a07 (a05 X.prog X.w) X.A (call f us) (EP X c2t σ Q) X.xe s
noncomputable def a0m(r:R2)(ta tb:TE):TE:=fun σ H Q=>ta σ H fun x H1=>tb σ H1 fun y H2=>r x y H2 Q
noncomputable def tUn(r:V->Hp->VK->Prop)(ta:TE):TE:=fun σ H Q=>ta σ H fun x H1=>r x H1 Q
noncomputable def rI(C:Int->Int->Prop)(g:Int->Int->V):R2:=fun x y H Q=>∃ i j,x=.int i/\y=.int j/\C i j/\Q (g i j) H
noncomputable def a2v(g:Int->Int->V):R2:=fun x y H Q=>∃ i j,x=.int i/\y=.int j/\Q (g i j) H
noncomputable def rU(g:Int->V):V->Hp->VK->Prop:=fun x H Q=>∃ i,x=.int i/\Q (g i) H
section
variable {X:Cx} {a b c:a13} {ta tb tc:TE} {pos:Pos}
theorem a5r(ha:PE X a ta)(hb:PE X b tb){c2t:List (Addr×Obj)}{s:a01}{σ:St}{H:Hp}{R:V->V->Hp->Prop}(I:n9 X c2t σ H s)(h:ta σ H fun x H1=>tb σ H1 fun y H2=>R x y H2){Q:Value->a01->Prop}{f:Value->Value->Sem Value}(hf:∀ v u s2 x y H2,n9 X c2t σ H2 s2->am x v->am y u->R x y H2->a07 (a05 X.prog X.w) X.A (f v u) Q X.xe s2) :
 a07 (a05 X.prog X.w) X.A (eval a X.env) (fun v s₁=>a07 (a05 X.prog X.w) X.A (eval b X.env) (fun u s₂=>a07 (a05 X.prog X.w) X.A (f v u) Q X.xe s₂) X.xe s₁) X.xe s:=by
 refine bA (ha c2t s σ H _ I h) fun v s1 ⟨x,H1,I1,r1,q1⟩=>?_;refine bA (hb c2t s1 σ H1 _ I1 q1) fun u s2 ⟨y,H2,I2,r2,q2⟩=>?_;exact hf v u s2 x y H2 I2 r1 r2 q2
theorem a7u{op:b01}{r:R2}(ho:iH X (a36 op) r)(ha:PE X a ta)(hb:PE X b tb):PE X (.BinOp a op b pos) (a0m r ta tb):=by
 intro c2t s σ H Q I h;exact wpAny_BinOp (a5r ha hb I h fun v u s2 x y H2 I2 rx ry q=>ho c2t s2 σ H2 x y v u Q I2 rx ry q)
theorem a7s{op:UnaryOp}{r:V->Hp->VK->Prop}(ho:UnR X (unaryOp op) r)(ha:PE X a ta):PE X (.UnaryOp op a pos) (tUn r ta):=by
 intro c2t s σ H Q I h;exact UnaryOp_ (bA (ha c2t s σ H _ I h) fun v s1 ⟨x,H1,I1,r1,q1⟩=>ho c2t s1 σ H1 x v Q I1 r1 q1)
theorem a4g{f:Value->Value->Sem Value}{C:Int->Int->Prop}{g:Int->Int->Int}(rule:∀ (i j:Int) (t u:Tok) (s:a01) (Q:Value->a01->Prop) (E:Value->a01->Prop),C i j->Q (.int (g i j) s.toks) { s with toks:=s.toks+1 }->a07 (a05 X.prog X.w) X.A (f (.int i t) (.int j u)) Q E s) :
 iH X f (rI C fun i j=>.int (g i j)):=by
 intro c2t s σ H x y v u Q I rx ry h;obtain⟨i,j,rfl,rfl,hc,q⟩:=h;obtain⟨t,rfl⟩:=rx;obtain⟨t',rfl⟩:=ry;exact rule i j t t' s _ _ hc ⟨.int (g i j),H,I.tok _,⟨_,rfl⟩,q⟩
theorem a8a{f:Value->Value->Sem Value}{g:Int->Int->Int}(rule:∀ (i j:Int) (t u:Tok) (s:a01) (Q:Value->a01->Prop) (E:Value->a01->Prop),Q (.int (g i j) s.toks) { s with toks:=s.toks+1 }->a07 (a05 X.prog X.w) X.A (f (.int i t) (.int j u)) Q E s) :
 iH X f (a2v fun i j=>.int (g i j)):=by
 intro c2t s σ H x y v u Q I rx ry h;obtain⟨i,j,rfl,rfl,q⟩:=h;obtain⟨t,rfl⟩:=rx;obtain⟨t',rfl⟩:=ry;exact rule i j t t' s _ _ ⟨.int (g i j),H,I.tok _,⟨_,rfl⟩,q⟩
theorem a4h{f:Value->Value->Sem Value}{g:Int->Int->Bool}(rule:∀ (i j:Int) (t u:Tok) (s:a01) (Q:Value->a01->Prop) (E:Value->a01->Prop),Q (.bool (g i j)) s->a07 (a05 X.prog X.w) X.A (f (.int i t) (.int j u)) Q E s) :
 iH X f (a2v fun i j=>.bl (g i j)):=by
 intro c2t s σ H x y v u Q I rx ry h;obtain⟨i,j,rfl,rfl,q⟩:=h;obtain⟨t,rfl⟩:=rx;obtain⟨t',rfl⟩:=ry;exact rule i j t t' s _ _ ⟨.bl (g i j),H,I,rfl,q⟩
noncomputable def CDiv(i j:Int):Prop:=0<j/\j<1073741824
noncomputable def a6g(i j:Int):Prop:=0<=j/\j<=1000000/\i.natAbs<2^64
noncomputable def a6h(i j:Int):Prop:=(-(2^64)<i/\i<2^64)\/(-(2^64)<j/\j<2^64)
theorem a6h.ok{i j:Int}(h:a6h i j):IntMulOk i j:=by
 rcases h with⟨h1,h2⟩ | ⟨h1,h2⟩
 .exact .of_left (intBits_le_64 h1 h2)
 .exact .of_right (intBits_le_64 h1 h2)
theorem z9:iH X (a36 .Add) (a2v fun i j=>.int (i+j)):=a8a fun _ _ _ _ _ _ _ q=>add_int q
theorem bg:iH X (a36 .Sub) (a2v fun i j=>.int (i - j)):=a8a fun _ _ _ _ _ _ _ q=>sub_int q
theorem fq:iH X (a36 .FloorDiv) (rI CDiv fun i j=>.int (i / j)):=a4g fun i j _ _ _ _ _ hc q=>by
 have h1:(0:Int)<j:=hc.1;have h2:j<1073741824:=hc.2;exact floordiv_int (by lia) (by rw[b0v i (by lia)];exact q) (.inl (PyProof.noPylong_small (by lia)))
theorem aI:iH X (a36 .Mod) (rI (fun _ j=>0<j) fun i j=>.int (i % j)):=a4g fun i j _ _ _ _ _ hc q=>by
 have h1:(0:Int)<j:=hc;exact mod_int' (by lia) (by rw[b7e i (by lia)];exact q)
theorem T6:iH X (a36 .Mod) (rI (fun _ j=>j≠0) fun i j=>.int (i.fmod j)):=a4g fun _ _ _ _ _ _ _ hc q=>mod_int' hc q
theorem zt:iH X (a36 .Pow) (rI a6g fun i j=>.int (i^j.toNat)):=a4g fun _ _ _ _ _ _ _ hc q=>pow_int_small hc.1 hc.2.1 hc.2.2 q
theorem jQ:iH X (a36 .LShift) (rI a6g fun i j=>.int (i*2^j.toNat)):=a4g fun _ _ _ _ _ _ _ hc q=>lshift_int_small hc.1 hc.2.1 hc.2.2 q
theorem unI{f:Value->Sem Value}{g:Int->Int}(rule:∀ (i:Int) (t:Tok) (s:a01) (Q:Value->a01->Prop) (E:Value->a01->Prop),Q (.int (g i) s.toks) { s with toks:=s.toks+1 }->a07 (a05 X.prog X.w) X.A (f (.int i t)) Q E s) :
 UnR X f (rU fun i=>.int (g i)):=by
 intro c2t s σ H x v Q I rx h;obtain⟨i,rfl,q⟩:=h;obtain⟨t,rfl⟩:=rx;exact rule i t s _ _ ⟨.int (g i),H,I.tok _,⟨_,rfl⟩,q⟩
theorem dw:UnR X (unaryOp .USub) (rU fun i=>.int (-i)):=unI fun _ _ _ _ _ q=>neg_int q
end
noncomputable def a7g:V->V->Bool
 | .non,.non=>true | .non,.int _=>true | .int _,.non=>true | .non,.bl _=>true | .bl _,.non=>true | .non,.str _=>true | .str _,.non=>true
 | .int _,.int _=>true | .bl _,.bl _=>true | .str _,.str _=>true | .byt _,.byt _=>true
 | .int _,.str _=>true | .str _,.int _=>true | .bl _,.str _=>true | .str _,.bl _=>true
 | _,_=>false
noncomputable def rEq:R2:=fun x y H Q=>a7g x y=true/\Q (.bl (decide (x=y))) H
noncomputable def rNe:R2:=fun x y H Q=>a7g x y=true/\Q (.bl (!decide (x=y))) H
theorem vU{i j:Int}:decide (V.int i=V.int j)=(i == j):=by
 rw[b5j];simp
theorem J0{i j:Bool}:decide (V.bl i=V.bl j)=(i == j):=by
 rw[b5j];simp
theorem vT{i j:Str}:decide (V.str i=V.str j)=(i == j):=by
 rw[b5j];simp
theorem vV{i j:Array UInt8}:decide (V.byt i=V.byt j)=(i.toList == j.toList):=by
 rw[b5j];cases i;cases j;simp
section
variable {X:Cx} {a b c:a13} {ta tb tc:TE} {pos:Pos}
theorem af{c2t:List (Addr×Obj)}{σ:St}{H:Hp}{s:a01}{Q:VK}{k k':Bool}(I:n9 X c2t σ H s)(q:Q (.bl k) H)(e:k=k'):EP X c2t σ Q (.bool k') s:=by
 subst e;exact⟨.bl k,H,I,rfl,q⟩
theorem fU:iH X (a32 .Eq) rEq:=by
 intro c2t s σ H x y v u Q I rx ry h;obtain⟨hs,q⟩:=h;cases x with
 | non=>
   cases rx;cases y with
   | non=>cases ry;exact PySem.EqNone.eq_none_none (af I q (by simp))
   | bl j=>cases ry;exact PySem.EqNone.eq_none_bool (af I q (by simp))
   | int j=>obtain⟨t',rfl⟩:=ry;exact PySem.EqNone.eq_none_int (af I q (by simp))
   | str j=>obtain⟨t',rfl⟩:=ry;exact PySem.EqNone.eq_none_str (af I q (by simp))
   | _=>exact absurd (show false=true from hs) b0a
 | bl i=>
   cases rx;cases y with
   | non=>cases ry;exact PySem.EqNone.eq_bool_none (af I q (by simp))
   | bl j=>cases ry;exact eq_bool (af I q J0)
   | str j=>obtain⟨t',rfl⟩:=ry;exact PySem.EqMixed.eq_bool_str (af I q (by simp))
   | _=>exact absurd (show false=true from hs) b0a
 | int i=>
   obtain⟨t,rfl⟩:=rx;cases y with
   | non=>cases ry;exact PySem.EqNone.eq_int_none (af I q (by simp))
   | int j=>obtain⟨t',rfl⟩:=ry;exact eq_int (af I q vU)
   | str j=>obtain⟨t',rfl⟩:=ry;exact PySem.EqMixed.eq_int_str (af I q (by simp))
   | _=>exact absurd (show false=true from hs) b0a
 | str i=>
   obtain⟨t,rfl⟩:=rx;cases y with
   | non=>cases ry;exact PySem.EqNone.eq_str_none (af I q (by simp))
   | bl j=>cases ry;exact PySem.EqMixed.eq_str_bool (af I q (by simp))
   | int j=>obtain⟨t',rfl⟩:=ry;exact PySem.EqMixed.eq_str_int (af I q (by simp))
   | str j=>obtain⟨t',rfl⟩:=ry;exact eq_str (af I q vT)
   | _=>exact absurd (show false=true from hs) b0a
 | byt i=>
   obtain⟨t,rfl⟩:=rx;cases y with
   | byt j=>obtain⟨t',rfl⟩:=ry;exact PySem.W.eq_bytes (af I q vV)
   | _=>exact absurd (show false=true from hs) b0a
 | _=>cases y<;>exact absurd (show false=true from hs) b0a
theorem zu:iH X (a32 .NotEq) rNe:=by
 intro c2t s σ H x y v u Q I rx ry h;obtain⟨hs,q⟩:=h;cases x with
 | non=>
   cases rx;cases y with
   | non=>cases ry;exact PySem.EqNone.ne_none_none (af I q (by simp))
   | bl j=>cases ry;exact PySem.EqNone.ne_none_bool (af I q (by simp))
   | int j=>obtain⟨t',rfl⟩:=ry;exact PySem.EqNone.ne_none_int (af I q (by simp))
   | str j=>obtain⟨t',rfl⟩:=ry;exact PySem.EqNone.ne_none_str (af I q (by simp))
   | _=>exact absurd (show false=true from hs) b0a
 | bl i=>
   cases rx;cases y with
   | non=>cases ry;exact PySem.EqNone.ne_bool_none (af I q (by simp))
   | bl j=>cases ry;exact ne_bool (af I q (congrArg not J0))
   | str j=>obtain⟨t',rfl⟩:=ry;exact PySem.EqMixed.ne_bool_str (af I q (by simp))
   | _=>exact absurd (show false=true from hs) b0a
 | int i=>
   obtain⟨t,rfl⟩:=rx;cases y with
   | non=>cases ry;exact PySem.EqNone.ne_int_none (af I q (by simp))
   | int j=>obtain⟨t',rfl⟩:=ry;exact ne_int (af I q (congrArg not vU))
   | str j=>obtain⟨t',rfl⟩:=ry;exact PySem.EqMixed.ne_int_str (af I q (by simp))
   | _=>exact absurd (show false=true from hs) b0a
 | str i=>
   obtain⟨t,rfl⟩:=rx;cases y with
   | non=>cases ry;exact PySem.EqNone.ne_str_none (af I q (by simp))
   | bl j=>cases ry;exact PySem.EqMixed.ne_str_bool (af I q (by simp))
   | int j=>obtain⟨t',rfl⟩:=ry;exact PySem.EqMixed.ne_str_int (af I q (by simp))
   | str j=>obtain⟨t',rfl⟩:=ry;exact ne_str (af I q (congrArg not vT))
   | _=>exact absurd (show false=true from hs) b0a
 | byt i=>
   obtain⟨t,rfl⟩:=rx;cases y with
   | byt j=>obtain⟨t',rfl⟩:=ry;exact PySem.W.ne_bytes (af I q (congrArg not vV))
   | _=>exact absurd (show false=true from hs) b0a
 | _=>cases y<;>exact absurd (show false=true from hs) b0a
theorem kz:iH X (a32 .Lt) (a2v fun i j=>.bl (decide (i<j))):=a4h fun _ _ _ _ _ _ _ q=>lt_int q
theorem a1b:iH X (a32 .LtE) (a2v fun i j=>.bl (decide (i<=j))):=a4h fun _ _ _ _ _ _ _ q=>le_int q
theorem kA:iH X (a32 .Gt) (a2v fun i j=>.bl (decide (j<i))):=a4h fun _ _ _ _ _ _ _ q=>gt_int q
theorem a4e:iH X (a32 .Is) (fun x y H Q=>y=.non/\Q (.bl (decide (x=.non))) H):=by
 intro c2t s σ H x y v u Q I rx ry h;obtain⟨rfl,q⟩:=h;cases ry;refine is_none_gen (af I q ?_);cases x<;>first
  | (cases rx;rfl)
  | (obtain⟨t,rfl⟩:=rx;rfl)
theorem v8(b:a13){op:CmpOp}(h:op≠.In:=by decide)(h2:op≠.NotIn:=by decide):a56 op b=false:=by
 have e1:(op == CmpOp.In)=false:=by cases op<;>first | rfl | exact absurd rfl h
 have e2:(op == CmpOp.NotIn)=false:=by cases op<;>first | rfl | exact absurd rfl h2
 cases b<;>simp[a56,e1,e2]
theorem S6{op:CmpOp}{r:R2}(ho:iH X (a32 op) r)(ha:PE X a ta)(hb:PE X b tb)(hm:a56 op b=false):PE X (.Compare a [op] [b] pos) (a0m r ta tb):=by
 intro c2t s σ H Q I h;exact wpAny_Compare1 (a5r ha hb I h fun v u s2 x y H2 I2 rx ry q=>ho c2t s2 σ H2 x y v u Q I2 rx ry q) hm
noncomputable def a0k(t:TE):TT:=fun σ H Q=>t σ H fun x H'=>∃ k,x=.bl k/\Q k H'
theorem O8{op:CmpOp}{r:R2}(ho:iH X (a32 op) r)(ha:PE X a ta)(hb:PE X b tb)(hm:a56 op b=false):PT X (.Compare a [op] [b] pos) (a0k (a0m r ta tb)):=by
 intro c2t s σ H Q I h;refine wpAny_isTrue_Compare1 (bA (ha c2t s σ H _ I h) fun v s1 ⟨x,H1,I1,r1,q1⟩=>bA (hb c2t s1 σ H1 _ I1 q1) fun u s2 ⟨y,H2,I2,r2,q2⟩=>
  bA (ho c2t s2 σ H2 x y v u _ I2 r1 r2 q2) fun c s3 ⟨z,H3,I3,r3,k,e,q3⟩=>?_) hm
 subst e;cases r3;exact a42 ⟨H3,I3,q3⟩
theorem pT:(sizeLine:Nat)<2^63:=by rw[a89];decide
theorem qC{x:V}{us:List Value}(r:x9 [x] us):∃ u,us=[u]/\am x u:=by
 cases r with
 | cons r1 r2=>cases r2;exact⟨_,rfl,r1⟩
theorem a6r{x y:V}{us:List Value}(r:x9 [x,y] us):∃ u w',us=[u,w']/\am x u/\am y w':=by
 cases r with
 | cons r1 r2=>
   cases r2 with
   | cons r3 r4=>cases r4;exact⟨_,_,rfl,r1,r3⟩
theorem se:bP X (.builtin "abs") (fun xs H Q=>∃ i,xs=[.int i]/\Q (.int (if i<0 then -i else i)) H):=by
 intro c2t s σ H xs us Q I r h;obtain⟨i,rfl,q⟩:=h;obtain⟨u,rfl,t,rfl⟩:=qC r;exact call_abs_int fun u tk=>⟨.int (if i<0 then -i else i),H,I.tok _,⟨_,rfl⟩,q⟩
theorem xB(hc:X.calm=true):bP X (.builtin "max") (fun xs H Q=>∃ i j,xs=[.int i,.int j]/\Q (.int (if j > i then j else i)) H):=by
 intro c2t s σ H xs us Q I r h;obtain⟨i,j,rfl,q⟩:=h;obtain⟨u,w',rfl,⟨t,rfl⟩,⟨t',rfl⟩⟩:=a6r r;refine max_two_ints (I.ok.hd hc) fun h' tk k=>⟨_,H,I.kept k,?_,q⟩
 by_cases hj:j > i
 .rw[if_pos hj,if_pos hj];exact⟨_,rfl⟩
 .rw[if_neg hj,if_neg hj];exact⟨_,rfl⟩
end
structure uD(h:Heap)(x dx C:Addr)(mA:Str->Option Value):Prop where
 obj:h.get? x=some (b3a C dx)
 ns:h.Ns1 dx mA
 ne:dx≠x
theorem xg{h:Heap}{dx:Addr}{mA:Str->Option Value}(n:h.Ns1 dx mA):∃ od,h.get? dx=some od/\∀ name,b7a name od=some (mA name):=by
 obtain⟨o,es,ep,ho,hd,hk,_,hm⟩:=n;refine⟨o,ho,fun name=>?_⟩;have e:=hm name;unfold nsFind findBy at e;rw[<- Array.find?_toList] at e;unfold b7a;rw[hd];dsimp only;split
 .rename_i y q;rw[q] at e;exact congrArg some e
 .rename_i q;rw[q] at e;have a:es.toList.any (·.refKey)=false:=by
   rw[List.any_eq_false];intro y hy;obtain⟨z,t,hkey⟩:=hk y (Array.mem_toList_iff.mp hy);simp[DictEntry.refKey,hkey]
  have a':¬ es.toList.any (·.refKey)=true:=by rw[a];exact b0a
  rw[if_neg a'];exact congrArg some e
theorem uD.look{h:Heap}{x dx C:Addr}{mA:Str->Option Value}(I:uD h x dx C mA):∃ od,b9p h x (b3a C dx) C (some od)/\∀ name,b7a name od=some (mA name):=
 let ⟨od,ho,hl⟩:=xg I.ns
 ⟨od,⟨I.obj,rfl,rfl,ho⟩,hl⟩
section
variable {prog:a15} {w:a20} {A:a19} {E:Value->a01->Prop} {s:a01} {K:a8z} {x dx C f:Addr} {mA:Str->Option Value} {name:Str} {v:Value}
theorem X3{expr:Bool}{Q:Value->a01->Prop}(X:K.In s.heap)(I:uD s.heap x dx C mA)(hg:b4y K C name=true)(hh:b5y K C=true)(ha:b0i K (.ref C) name=some none)(hv:mA name=some v)(hv':c1a v=true)(h:Q v { s with toks:=s.toks+1 }) :
 a07 (a05 prog w) A (getAttr (.ref x) name expr) Q E s:=by
 obtain⟨od,J,hl⟩:=I.look;exact PySem.W.get_value X J (b6z hg).1 (PySem.W.findObj_own hh ha rfl (by rw[hl,hv])) hv' h
theorem E9{pl:Sem Bool}{Q:Value×List Value->a01->Prop}(X:K.In s.heap)(I:uD s.heap x dx C mA)(hg:b4y K C name=true)(hf:b0i K (.ref C) name=some (some (.ref f)))(ht:b5r K (.ref f)=true)(hv:mA name=none)(h:Q (.ref f,[.ref x]) s) :
 a07 (a05 prog w) A (a87 (.ref x) name pl) Q E s:=by
 obtain⟨od,J,hl⟩:=I.look;exact PySem.W.method_fn X J (b6z hg).1 (b6z hg).2 hf (beq_iff_eq.mp ht) (by show (b7a name od).map (·.isSome)=some false;rw[hl,hv];rfl) h
theorem O0{ns:List Str}{Q:Unit->a01->Prop}(X:K.In s.heap)(I:uD s.heap x dx C mA)(hs:b0i K (.ref C) "__setattr__" = some (some (.builtin "object.__setattr__")))(hp:b7s K C=true)(ht:b8z K C name=some none)(hh:b5y K C=true)(hw:PySem.Within mA ns)(hsz:ns.length<=sizeLine)(h:∀ h',uD h' x dx C (fun y=>if y=name then some v else mA y)->Heap.SameBut dx s.heap h'->Q () { s with heap:=h',toks:=s.toks+2 }) :
 a07 (a05 prog w) A (setAttr (.ref x) name v) Q E s:=by
 obtain⟨od,J,hl⟩:=I.look;refine PySem.W.set_plain X J hs (PySem.W.osa_open (s:={ s with toks:=s.toks+1 }) (r:=none) X J hp ht fun b=>?_);obtain⟨cd,hc,hd'⟩:=PySem.W.any_some hh;have hx:s.heap.get? x=some ⟨.ref C,some dx,.plain,#[]⟩:=I.obj;refine a00 (a02 (a00 (a00 (a95 hx (a00 (b9w.here (s:={ s with toks:=s.toks+1 }) (PySem.W.looks_clsIn X hc) ?_))))));rw[hd'];refine a02 (a:=some dx) (a00 (a02 (a00 ?_)));refine wpAny_nsSet1 (s:={ s with toks:=s.toks+1 }) I.ns fun h' hn2 hs2=>?_;obtain⟨oD,esD,epD,hoD,hdD,hcD⟩:=hn2.count (PySem.Within.cons name v hw);refine a00 (wpAny_lookBehind hoD (by rw[hdD];exact pastItsLine_dict (b0n hcD (by rw[b0r];lia))) ?_);exact a02 (h _ ⟨(hs2.2 _ (Ne.symm I.ne)).trans I.obj,hn2,I.ne⟩ hs2)
theorem A8{R:a75->a01->Prop}{vs:List Value}{kw:List (Str×Value)}(X:K.In s.heap)(hm:b6s K C=true)(hi:b0i K (.ref C) "__init__" = some (some (.ref f)))(hf:PySem.W.typeIn K (.ref f)=some (.type "function"))(h:a25 (a05 prog w) (A.under (.builtin "type.__call__" ⟨.ref C::vs,kw⟩)) (.call (.ref f) ⟨.ref (s.heap.objs.size+1)::vs,kw⟩) (PySem.W.InitBack (s.heap.objs.size+1) R)
 { s with heap:=(s.heap.push b2b).push (b3a C s.heap.objs.size) }) :
 a25 (a05 prog w) A (.call (.ref C) ⟨vs,kw⟩) R s:=by
 obtain⟨hh,g,d,t,os⟩:=s;exact PySem.W.make_core (PySem.W.makes_of X hm) (b6k X hi) (fun self=>PySem.W.bind_fn X self hf) (.inl rfl) h
end
noncomputable def aB(f:Str)(v:V):List (Str×V)->List (Str×V)
 | []=>[(f,v)]
 | (g,x)::r=>if g=f then (g,v)::r else (g,x)::aB f v r
theorem o6(f g:Str)(v:V):∀ fs:List (Str×V),(aB f v fs).lookup g=if g=f then some v else fs.lookup g
 | []=>by
   show b5h g [(f,v)]=_;by_cases h:g=f
   .have hb:(g == f)=true:=beq_iff_eq.mpr h;simp only[b5h,hb,if_pos h]
   .have hb:(g == f)=false:=beq_eq_false_iff_ne.mpr h;simp only[b5h,hb,if_neg h]
 | (k,x)::r=>by
  have ih:=o6 f g v r;rw[show aB f v ((k,x)::r)=(if k=f then (k,v)::r else (k,x)::aB f v r) from rfl];by_cases hk:k=f
  .rw[if_pos hk];by_cases h:g=k
   .have hb:(g == k)=true:=beq_iff_eq.mpr h;simp only[b5h,hb,if_pos (h.trans hk)]
   .have hb:(g == k)=false:=beq_eq_false_iff_ne.mpr h;simp only[b5h,hb,if_neg (fun e:g=f=>h (e.trans hk.symm))]
  .rw[if_neg hk];by_cases h:g=k
   .have hb:(g == k)=true:=beq_iff_eq.mpr h;simp only[b5h,hb,if_neg (fun e:g=f=>hk (h.symm.trans e))]
   .have hb:(g == k)=false:=beq_eq_false_iff_ne.mpr h;simp only[b5h,hb];exact ih
theorem jW(f:Str)(v:V):∀ fs:List (Str×V),f∈(aB f v fs).map (·.1)/\∀ g,g∈fs.map (·.1)->g∈(aB f v fs).map (·.1)
 | []=>⟨by simp[aB],fun g h=>by simp at h⟩
 | (k,x)::r=>by
  obtain⟨i1,i2⟩:=jW f v r;rw[show aB f v ((k,x)::r)=(if k=f then (k,v)::r else (k,x)::aB f v r) from rfl];by_cases hk:k=f
  .rw[if_pos hk];subst hk;exact⟨by simp,fun g h=>by simpa using h⟩
  .rw[if_neg hk];refine⟨?_,fun g h=>?_⟩
   .rw[b1q];exact b0f _ i1
   .rw[b1q] at h ⊢;rcases a9g.mp h with e | e
    .exact a9g.mpr (.inl e)
    .exact b0f _ (i2 g e)
theorem kB(f:Str)(v:V):∀ fs:List (Str×V),(aB f v fs).length<=fs.length+1
 | []=>by simp[aB]
 | (k,x)::r=>by
  have ih:=kB f v r;rw[show aB f v ((k,x)::r)=(if k=f then (k,v)::r else (k,x)::aB f v r) from rfl];by_cases hk:k=f
  .rw[if_pos hk,b0r,b0r];lia
  .rw[if_neg hk,b0r,b0r];lia
theorem nS.some_of{v:V}{o:Option Value}(r:nS (some v) o):∃ u,o=some u/\am v u:=by
 cases o with
 | none=>exact (show False from r).elim
 | some u=>exact⟨u,rfl,r⟩
theorem nS.none_of{o:Option Value}(r:nS none o):o=none:=by
 cases o with
 | none=>rfl
 | some u=>exact (show False from r).elim
theorem xq{v:V}{u:Value}(r:am v u):c1a u=true:=by
 cases v with
 | non=>cases (show u=Value.none from r);rfl
 | bl b=>cases (show u=Value.bool b from r);rfl
 | int i=>obtain⟨t,e⟩:=(show ∃ t,u=Value.int i t from r);cases e;rfl
 | str x=>obtain⟨t,e⟩:=(show ∃ t,u=Value.str x t from r);cases e;rfl
 | byt b=>obtain⟨t,e⟩:=(show ∃ t,u=Value.bytes b t from r);cases e;rfl
 | flt b=>obtain⟨t,e⟩:=(show ∃ t,u=Value.float b t from r);cases e;rfl
 | ref a=>cases (show u=Value.ref a from r);rfl
 | ty n=>cases (show u=Value.type n from r);rfl
section
variable {P:a15} {w:a20} {H H':Hp} {h h':Heap} {a C dx:Addr} {fs fs':List (Str×V)}
theorem lw(hok:jD P w H h)(e:H a=some (.ins C dx fs)):∃ mA,uD h a dx C mA/\(∀ f,nS (fs.lookup f) (mA f))/\PySem.Within mA (fs.map (·.1))/\fs.length<=1000/\H dx=some (.own a):=by
 obtain⟨d,z,ne,ob,mA,n,r,q⟩:=(show bK P w H h a (.ins C dx fs) from hok a _ e)
 exact⟨mA,⟨ob,n,ne⟩,r,q,z,d⟩
end
structure M0(K:a8z)(C:Addr):Prop where
 pg:b4y K C Str.empty=true
 hd:b5y K C=true
 po:b7s K C=true
 sa:b0i K (.ref C) "__setattr__" = some (some (.builtin "object.__setattr__"))
theorem M0.get{K:a8z}{C:Addr}(c:M0 K C)(f:Str):b4y K C f=true:=c.pg
noncomputable def u7(K:a8z)(C:Addr)(f:Str):Prop:=b0i K (.ref C) f=some none
theorem u7.taker{K:a8z}{C:Addr}{f:Str}(n:u7 K C f):b8z K C f=some none:=by
 unfold b8z;rw[show b0i K (.ref C) f=some none from n];rfl
structure a0g(K:a8z)(C:Addr)(m:Str)(f:Addr):Prop where
 at_:b0i K (.ref C) m=some (some (.ref f))
 fn:b5r K (.ref f)=true
 kp:b1h K (.ref f)=true
section
variable {X:Cx} {c2t:List (Addr×Obj)} {σ:St} {H:Hp} {s:a01} {a C dx:Addr} {fs:List (Str×V)} {f:Str} {v:V} {A:a19} {E:Value->a01->Prop}
theorem tR{b:Bool}{Q:Value->a01->Prop}(I:n9 X c2t σ H s)(e:H a=some (.ins C dx fs))(c:M0 X.K C)(n:u7 X.K C f)(l:fs.lookup f=some v)(h:∀ u s',n9 X c2t σ H s'->am v u->Q u s'):a07 (a05 X.prog X.w) A (getAttr (.ref a) f b) Q E s:=by
 obtain⟨mA,O,r,_,_,_⟩:=lw I.hok e;obtain⟨u,hu,ru⟩:=nS.some_of (v:=v) (o:=mA f) (by rw[<- l];exact r f);exact X3 I.kIn O (c.get f) c.hd n hu (xq ru) (h u _ (I.tok _) ru)
theorem tQ{m:Str}{g:Addr}{pl:Sem Bool}{Q:Value×List Value->a01->Prop}(I:n9 X c2t σ H s)(e:H a=some (.ins C dx fs))(c:M0 X.K C)(k:a0g X.K C m g)(l:fs.lookup m=none)(h:Q (.ref g,[.ref a]) s):a07 (a05 X.prog X.w) A (a87 (.ref a) m pl) Q E s:=by
 obtain⟨mA,O,r,_,_,_⟩:=lw I.hok e;have hn:mA m=none:=nS.none_of (by rw[<- l];exact r m);exact E9 I.kIn O (c.get m) k.at_ k.fn hn h
theorem lQ{y:V}{u:Value}{Q:Unit->a01->Prop}(I:n9 X c2t σ H s)(e:H a=some (.ins C dx fs))(c:M0 X.K C)(n:u7 X.K C f)(hl:fs.length<1000)(ry:am y u)(h:∀ s',n9 X c2t σ (upd H a (.ins C dx (aB f y fs))) s'->Q () s'):a07 (a05 X.prog X.w) A (setAttr (.ref a) f u) Q E s:=by
 obtain⟨mA,O,r,wi,_,ho⟩:=lw I.hok e;have hz:(fs.map (·.1)).length<=sizeLine:=by rw[a9a,a89];lia
 refine O0 I.kIn O c.sa c.po n.taker c.hd wi hz fun h' O' sb=>h _ ?_;have hd:∃ o,h'.get? dx=some o:=let ⟨o,_,_,e',_⟩:=O'.ns;⟨o,e'⟩;refine I.write (x:=a) (e:=dx) (by rw[e];exact True.intro) (.inr ho) (fun b q hb z=>(sb.2 b hb).trans z) hd ?_;refine⟨by rw[i9 O.ne];exact ho,?_,O.ne,O'.obj,_,O'.ns,fun g=>?_,fun g hg=>?_⟩
 .have:=kB f y fs;lia
 .show nS ((aB f y fs).lookup g) (if g=f then some u else mA g);rw[o6];by_cases q:g=f
  .rw[if_pos q,if_pos q];exact ry
  .rw[if_neg q,if_neg q];exact r g
 .by_cases q:g=f
  .rw[q];exact (jW f y fs).1
  .refine (jW f y fs).2 g (wi g fun z=>hg ?_);show (if g=f then some u else mA g)=none;rw[if_neg q];exact z
theorem n9.made(I:n9 X c2t σ H s):n9 X c2t σ (upd (upd H s.heap.objs.size (.own (s.heap.objs.size+1))) (s.heap.objs.size+1) (.ins C s.heap.objs.size []))
 { s with heap:=(s.heap.push b2b).push (b3a C s.heap.objs.size) }:=by
 have e1:(s.heap.push b2b).get? s.heap.objs.size=some b2b:=Heap.get?_push_size s.heap rfl;have e2:((s.heap.push b2b).push (b3a C s.heap.objs.size)).get? (s.heap.objs.size+1)=some (b3a C s.heap.objs.size):=by
  have:=Heap.get?_push_size (s.heap.push b2b) (o:=b3a C s.heap.objs.size) rfl
  rwa [Heap.size_push] at this
 have e3:(s.heap.push b2b).Ns s.heap.objs.size (fun _=>none):=⟨b2b,#[],_,e1,rfl,(fun e he=>absurd he (by simp)),fun _=>rfl⟩
 have I1:=I.laid (a:=s.heap.objs.size) (o:=.own (s.heap.objs.size+1)) (h':=s.heap.push b2b) (t':=s.toks) (fun b u q=>Heap.get?_push_of_some _ q) (a9j _) ⟨_,e1⟩;refine I1.laid (a:=s.heap.objs.size+1) (o:=.ins C s.heap.objs.size []) (t':=s.toks) (fun b u q=>Heap.get?_push_of_some _ q) (b8j (Heap.size_push _ _)) ?_;have ne:s.heap.objs.size≠s.heap.objs.size+1:=b0s (b3t _);refine⟨by rw[i9 ne,b7],b1m _,ne,e2,fun _=>none,(Heap.Ns1.of_empty e3).at fun o q=>Heap.get?_push_of_some _ q,fun _=>True.intro,fun y hy=>absurd rfl hy⟩
theorem a0b{prog:a15}{w:a20}{env:Env}{e:a13}{f:Str}{pos:Pos}{s:a01}{Q:Value->a01->Prop}(hb:a67 e f env (eval e env)=eval e env)(h:a07 (a05 prog w) A (eval e env) (fun o s₁=>a07 (a05 prog w) A (getAttr o f true) Q E s₁) E s):a07 (a05 prog w) A (eval (.Attribute e f pos) env) Q E s:=
 Attribute_any_ h (by rw[arm_eval_Attribute,hb])
end
noncomputable def dL(K:a8z)(ta:TE)(f:Str):TE:=fun σ H Q=>ta σ H fun x H1=>∃ a C dx fs v,x=.ref a/\H1 a=some (.ins C dx fs)/\M0 K C/\u7 K C f/\fs.lookup f=some v/\Q v H1
noncomputable def a2t(K:a8z)(ta tv:TE)(f:Str):TS:=fun D σ H=>tv σ H fun y H1=>ta σ H1 fun x H2=>∃ a C dx fs,x=.ref a/\H2 a=some (.ins C dx fs)/\M0 K C/\u7 K C f/\fs.length<1000/\
 D.nx σ (upd H2 a (.ins C dx (aB f y fs)))
section
variable {X:Cx} {o e value:a13} {f:Str} {pos pos' tpos:Pos} {ta tv:TE}
theorem a3z(he:PE X e ta)(hb:a67 e f X.env (eval e X.env)=eval e X.env):PE X (.Attribute e f pos) (dL X.K ta f):=by
 intro c2t s σ H Q I h;refine a0b hb (bA (he c2t s σ H _ I h) fun u s1 ⟨x,H1,I1,rx,a,C,dx,fs,v,ex,ea,c,n,l,q⟩=>?_);subst ex;obtain rfl:u=Value.ref a:=rx;exact tR I1 ea c n l fun u' s2 I2 ru=>⟨v,H1,I2,ru,q⟩
theorem a3h(ha:PE X o ta)(hv:PE X value tv)(hs:a51 value (some (.Attribute o f pos')) pos.line X.env=pure false):PS X (.Assign [.Attribute o f pos'] value pos) (a2t X.K ta tv f):=by
 intro c2t s σ H D I h;refine plainObj_wpAny_Assign_Attribute (bA (hv c2t s σ H _ I h) fun u s1 ⟨y,H1,I1,ry,q⟩=>bA (ha c2t s1 σ H1 _ I1 q) fun ov s2 ⟨x,H2,I2,rx,a,C,dx,fs,ex,ea,c,n,l,q2⟩=>?_) hs;subst ex;obtain rfl:ov=Value.ref a:=rx;exact lQ I2 ea c n l ry fun s3 I3=>⟨σ,_,I3,q2⟩
end
section
variable {X:Cx} {c2t:List (Addr×Obj)} {σ:St} {H:Hp} {s:a01} {A:a19} {E:Value->a01->Prop} {Q:Value->a01->Prop} {c:Value} {b:Bool}
inductive fD (K:a8z) (H:Hp):V->Value->Prop where
 | non:fD K H .non (.type "NoneType")
 | bl (x:Bool):fD K H (.bl x) (.type "bool")
 | int (i:Int):fD K H (.int i) (.type "int")
 | str (x:Str):fD K H (.str x) (.type "str")
 | flt (x:UInt64):fD K H (.flt x) (.type "float")
 | lst {a:Addr} {xs:List V} (e:H a=some (.lst xs)):fD K H (.ref a) (.type "list")
 | frz {a:Addr} {o:Obj} {xs:List V} (e:H a=some (.frz o (.lst xs))):fD K H (.ref a) (.type "list")
 | tup {a:Addr} {xs:List V} (e:H a=some (.tup xs)):fD K H (.ref a) (.type "tuple")
 | dK {a:Addr} {kvs:List (qy×V)} (e:H a=some (.dK kvs)):fD K H (.ref a) (.type "dict")
 | dT {a:Addr} {kvs:List (List qy×V)} (e:H a=some (.dT kvs)):fD K H (.ref a) (.type "dict")
 | ins {a C dx:Addr} {fs:List (Str×V)} (e:H a=some (.ins C dx fs)) (cl:M0 K C) (ha:b0i K (.ref C) "__class__" = some (some (.builtin "object.__class__")))
    (hn:b7t K (.builtin "object.__class__") "__get__" = some (some (.builtin "getset_descriptor.__get__"))) (htk:b9a K (.builtin "object.__class__")=some true)
    (hm:b6f K C (.type "object")=some true):fD K H (.ref a) (.ref C)
theorem xn{x:V}{u t:Value}(I:n9 X c2t σ H s)(rx:am x u)(ty:fD X.K H x t)(e:b1i X.K t c=some b)(h:∀ tk,Q (.bool b) { s with toks:=tk }) :
 a07 (a05 X.prog X.w) A (call (.builtin "isinstance") [u,c]) Q E s:=by
 cases ty with
 | non=>cases (show u=Value.none from rx);exact b1t PySem.W.kitx_none I.kIn True.intro e (fun z=>nomatch z) h
 | bl y=>cases (show u=Value.bool y from rx);exact b1t PySem.W.kitx_bool I.kIn True.intro e (fun z=>nomatch z) h
 | int i=>obtain⟨t,q⟩:=(show ∃ t,u=Value.int i t from rx);cases q;exact b1t PySem.W.kitx_int I.kIn True.intro e (fun z=>nomatch z) h
 | str y=>obtain⟨t,q⟩:=(show ∃ t,u=Value.str y t from rx);cases q;exact b1t PySem.W.kitx_str I.kIn True.intro e (fun z=>nomatch z) h
 | flt y=>obtain⟨t,q⟩:=(show ∃ t,u=Value.float y t from rx);cases q;exact b1t PySem.W.kitx_float I.kIn True.intro e (fun z=>nomatch z) h
 | @lst a xs ea=>
   cases (show u=Value.ref a from rx);obtain⟨_,_,n,_,h1⟩:=(show bK X.prog X.w H s.heap a (.lst xs) from I.hok a _ ea)
   exact b1t c0r I.kIn ⟨_,h1,rfl⟩ e (fun z=>nomatch z) h
 | @frz a ob xs ea=>
   cases (show u=Value.ref a from rx);obtain⟨_,_,_,n,_,h1⟩:=(show bK X.prog X.w H s.heap a (.frz ob (.lst xs)) from I.hok a _ ea)
   exact b1t c0r I.kIn ⟨_,h1,rfl⟩ e (fun z=>nomatch z) h
 | @tup a xs ea=>
   cases (show u=Value.ref a from rx);obtain⟨_,_,_,p⟩:=(show bK X.prog X.w H s.heap a (.tup xs) from I.hok a _ ea)
   obtain⟨o,h1,h2,_⟩:=p;exact b1t PySem.W.kitx_tuple I.kIn ⟨o,h1,h2⟩ e (fun z=>nomatch z) h
 | @dK a kvs ea=>
   cases (show u=Value.ref a from rx);obtain⟨_,_,vs,_,p⟩:=(show bK X.prog X.w H s.heap a (.dK kvs) from I.hok a _ ea)
   obtain⟨o,es,ep,h1,h2,_⟩:=p;exact b1t c0s I.kIn ⟨o,h1,h2.1⟩ e (fun z=>nomatch z) h
 | @dT a kvs ea=>
   cases (show u=Value.ref a from rx);obtain⟨_,_,xs,_,o,es,ep,h1,h2,_⟩:=(show bK X.prog X.w H s.heap a (.dT kvs) from I.hok a _ ea)
   exact b1t c0s I.kIn ⟨o,h1,h2.1⟩ e (fun z=>nomatch z) h
 | @ins a C dx fs ea cl ha hn htk hm=>
   cases (show u=Value.ref a from rx);obtain⟨mA,O,_⟩:=lw I.hok ea;obtain⟨od,J,_⟩:=O.look;exact b1t (PySem.W.kitx_own (cl.get _) cl.hd ha hn htk hm) I.kIn J e (fun z=>nomatch z) h
end
structure bI(k:Nat)(A:a19):Prop where
 hd:A.handled=none
 dp:A.depth+3*k+5<recursionLimit
 un:A.units+16*k+200<cLine
theorem bI.mono{j k:Nat}{A:a19}(r:bI k A)(h:j<=k):bI j A:=⟨r.hd,by have:=r.dp;lia,by have:=r.un;lia⟩
theorem bI.deeper{k:Nat}{A:a19}(r:bI (k+1) A)(env:Env):bI k (A.deeper env):=
 ⟨r.hd,by have:=r.dp;show A.depth+1+3*k+5<_;lia,by have:=r.un;show A.units+3+16*k+200<_;lia⟩
theorem tH{A:a19}{C:Addr}{us:List Value}{kw:List (Str×Value)}:(A.under (.builtin "type.__call__" ⟨.ref C::us,kw⟩)).depth=A.depth+1:=by
 first | rfl | simp[Around.under,Code.weight,Code.isCreation,Code.isGuard,Code.isCaller,Code.frames,Code.isFrame,guardIds]
theorem tG{A:a19}{C:Addr}{us:List Value}{kw:List (Str×Value)}:(A.under (.builtin "type.__call__" ⟨.ref C::us,kw⟩)).units=A.units+1:=by
 first | rfl | simp[Around.under,Code.cUnits,Code.frames,Code.isFrame]
theorem bI.make{k:Nat}{A:a19}(r:bI (k+1) A)(C:Addr)(us:List Value)(kw:List (Str×Value)):bI k (A.under (.builtin "type.__call__" ⟨.ref C::us,kw⟩)):=
 ⟨r.hd,by have:=r.dp;rw[tH];lia,by have:=r.un;rw[tG];lia⟩
theorem bI.depth{k:Nat}{A:a19}(r:bI k A):A.depth<recursionLimit:=by have:=r.dp;lia
theorem bI.units{k:Nat}{A:a19}(r:bI k A):A.units+64<cLine:=by have:=r.un;lia
noncomputable def q9:TA:=fun _ H Q=>Q [] H
noncomputable def a0r(ta:TE)(tr:TA):TA:=fun σ H Q=>ta σ H fun x H1=>tr σ H1 fun xs H2=>Q (x::xs) H2
section
variable {X:Cx} {e:a13} {es:List a13} {te:TE} {t:TA} {pos:Pos}
theorem a4b:PA X [] q9:=fun _ _ _ _ H Q I h=>Calls.spliced_nil ⟨[],H,I,.nil,h⟩
theorem S9(ha:PE X e te)(hr:PA X es t)(hs:a11 (e::es) X.env=(false,eval e X.env)::a11 es X.env:=by rfl):PA X (e::es) (a0r te t):=by
 intro pos c2t s σ H Q I h;rw[hs];show a07 _ _ (spliced ((false,eval e X.env)::a37 pos (a11 es X.env))) _ _ s;refine Calls.spliced_cons (bA (ha c2t s σ H _ I h) fun u s1 ⟨x,H1,I1,r1,q1⟩=>?_);exact bA (hr pos c2t s1 σ H1 _ I1 q1) fun us s2 ⟨xs,H2,I2,r2,q2⟩=>⟨x::xs,H2,I2,.cons r1 r2,q2⟩
noncomputable def a6w(t:TA):TE:=fun σ H Q=>t σ H fun xs H1=>xs.length<=sizeLine/\∀ p,H1 p=none->Q (.ref p) (upd H1 p (.tup xs))
noncomputable def a7d(t:TA):TE:=fun σ H Q=>t σ H fun xs H1=>xs.length<=sizeLine/\∀ p,H1 p=none->Q (.ref p) (upd H1 p (.lst xs))
theorem a3r{x1}(h:PA X es t):PE X (.Tuple es x1 pos) (a6w t):=by
 intro c2t s σ H Q I hq;refine wpAny_Tuple_spliced (bA (h pos c2t s σ H _ I hq) fun us s1 ⟨xs,H1,I1,r,z,q⟩=>⟨by rw[<- r.length];exact z,?_⟩);have hf:H1 s1.heap.objs.size=none:=I1.hok.fresh (a9j _);refine⟨.ref s1.heap.objs.size,upd H1 s1.heap.objs.size (.tup xs),I1.laid (t':=s1.toks) (fun b u e=>Heap.get?_push_of_some _ e) (a9j _) ?_,rfl,q _ hf⟩;exact⟨z,us,r,⟨_,Heap.get?_push_size _ rfl,rfl,_,rfl⟩⟩
theorem a3x(h:PA X es t):PE X (.List es pos) (a7d t):=by
 intro c2t s σ H Q I hq;refine wpAny_List_spliced (bA (h pos c2t s σ H _ I hq) fun us s1 ⟨xs,H1,I1,r,z,q⟩=>⟨by rw[<- r.length];exact z,?_⟩);have hf:H1 s1.heap.objs.size=none:=I1.hok.fresh (a9j _);refine⟨.ref s1.heap.objs.size,upd H1 s1.heap.objs.size (.lst xs),I1.laid (t':=s1.toks) (fun b u e=>Heap.get?_push_of_some _ e) (a9j _) ?_,rfl,q _ hf⟩;exact⟨z,us,0,r,Heap.get?_push_size _ rfl⟩
end
abbrev Sp:=List V->Hp->VK->XK->Prop
abbrev sq:=List Env->Hp->a01->XK->Value->a01->Prop
structure uG(P:a15)(w:a20)(K:a8z)(mg:Str->Option Value)(base:Heap)(A:a19)(outer:List Env)(s:a01)(H:Hp):Prop where
 frames:A.frames=some outer
 mod:Mod K mg base
 bs:∀ b o,base.get? b=some o->s.heap.get? b=some o/\H b=none
 bsz:base.objs.size<=s.heap.objs.size
 funs:s.heap.FunFrames base outer
 frf:∀ b∈jC outer,H b=none
 hok:jD P w H s.heap
 bare:a64 s.gens
noncomputable def CE(outer:List Env)(P:a15)(w:a20)(H:Hp)(s:a01)(Q:VK)(u:Value)(s':a01):Prop:=
 ∃ v H',s'.os=s.os/\a64 s'.gens/\Un (jC outer) [] H H' s.heap s'.heap/\jD P w H' s'.heap/\am v u/\Q v H'
noncomputable def CR(CX:sq)(outer:List Env)(P:a15)(w:a20)(H:Hp)(s:a01)(Q:VK)(E:XK)(r:a75)(s':a01):Prop:=
 match r with
 | .ok (.ret u)=>CE outer P w H s Q u s'
 | .ok _=>False
 | .error e=>CX outer H s E e s'
structure jB(P:a15)(w:a20)(K:a8z)(mg:Str->Option Value)(base:Heap)(CX:sq)(k:Nat)(f:Addr)(fd:a34)(ps:List Str)(sp:Sp):Prop where
 len:∀ vs H Q E,sp vs H Q E->vs.length=ps.length
 run:∀ (A:a19) (outer:List Env) (s:a01) (H:Hp) (args:Args) (us:List Value) (vs:List V) (Q:VK) (E:XK),bI k A->uG P w K mg base A outer s H->a93 s fd args (ps.zip us)->x9 vs us->sp vs H Q E->
  a25 (a05 P w) A (.call (.ref f) args) (CR CX outer P w H s Q E) s
theorem uG.make{P:a15}{w:a20}{K:a8z}{mg:Str->Option Value}{base:Heap}{A:a19}{outer:List Env}{s:a01}{H:Hp}(e:uG P w K mg base A outer s H)(C:Addr)(us:List Value)(kw:List (Str×Value)) :
 uG P w K mg base (A.under (.builtin "type.__call__" ⟨.ref C::us,kw⟩)) outer s H:=⟨by first | exact e.frames | (simpa [Around.under,Code.envs,Code.isFrame,pushEnvs] using e.frames),e.mod,e.bs,e.bsz,e.funs,e.frf,e.hok,e.bare⟩
section
variable {X:Cx} {c2t:List (Addr×Obj)} {σ:St} {H:Hp} {s s':a01}
theorem n9.env0(I:n9 X c2t σ H s):uG X.prog X.w X.K X.mg X.base X.A X.stack s H:=
 ⟨I.ok.frames,I.ok.mod,I.bs,b0n I.ok.bsz I.sz,I.stack,I.stkFree,I.hok,I.bare⟩
theorem n9.after{Q:VK}{u:Value}(I:n9 X c2t σ H s)(h:CE X.stack X.prog X.w H s Q u s'):EP X c2t σ Q u s':=by
 obtain⟨v,H',os,bare,un,hok,r,q⟩:=h;obtain⟨hh,g,d,t,os'⟩:=s';obtain rfl:os'=s.os:=os;exact⟨v,H',I.call (h':=hh) (g':=g) (d':=d) (t':=t) (ch:=[]) un hok bare (fun b z=>absurd z (by simp)),r,q⟩
end
noncomputable def a0s(sp:Sp)(dvs:List V)(E:XK)(t:TA):TE:=fun σ H Q=>t σ H fun vs H1=>sp (vs++dvs) H1 Q E
noncomputable def a0p(C:Addr)(m:Str)(sp:Sp)(dvs:List V)(E:XK)(ta:TE)(t:TA):TE:=fun σ H Q=>ta σ H fun x H1=>∃ a dx fs,x=.ref a/\H1 a=some (.ins C dx fs)/\fs.lookup m=none/\
 t σ H1 fun vs H2=>sp (x::(vs++dvs)) H2 Q E
noncomputable def a0q(C:Addr)(sp:Sp)(dvs:List V)(E:XK)(t:TA):TE:=fun σ H Q=>t σ H fun vs H1=>∀ x dx,H1 x=none->H1 dx=none->dx≠x->
 sp (.ref x::(vs++dvs)) (upd (upd H1 dx (.own x)) x (.ins C dx [])) (fun v H2=>v=.non/\Q (.ref x) H2) E
noncomputable def fC(K:a8z)(fd:a34)(ps:List Str)(ds:List Value):Prop:=
 ∀ (s:a01) (us:List Value),K.In s.heap->(us++ds).length=ps.length->a93 s fd ⟨us,[]⟩ (ps.zip (us++ds))
theorem fC.all{K:a8z}{fd:a34}{ps:List Str}(h:∀ us:List Value,us.length=ps.length->a99 fd ⟨us,[]⟩=pure (ps.zip us)):fC K fd ps []:=fun s us _ hl=>by
 rw[b2u] at hl ⊢;exact .of_eq (h us hl)
noncomputable def bJ(CX:sq)(X:Cx)(E:XK):Prop:=∀ (c2t:List (Addr×Obj)) (σ:St) (H:Hp) (s:a01) (e:Value) (s':a01),n9 X c2t σ H s->CX X.stack H s E e s'->X.xe e s'
section
variable {X:Cx} {CX:sq} {k:Nat} {f C:Addr} {fd:a34} {ps:List Str} {sp:Sp} {dvs:List V} {ds:List Value} {E:XK} {x m:Str} {p pos apos:Pos} {e o:a13} {es:List a13} {ta:TE} {t:TA}
theorem yy{c2t:List (Addr×Obj)}{σ:St}{H:Hp}{s:a01}{Q:VK}{us:List Value}{vs:List V}(F:jB X.prog X.w X.K X.mg X.base CX k f fd ps sp)(hr:bI k X.A)(hb:fC X.K fd ps ds)(hd:x9 dvs ds)(hx:bJ CX X E)(I:n9 X c2t σ H s)(r:x9 vs us)(h:sp (vs++dvs) H Q E):a07 (a05 X.prog X.w) X.A (call (.ref f) us) (EP X c2t σ Q) X.xe s:=by
 have r2:x9 (vs++dvs) (us++ds):=r.append hd;have hl:(us++ds).length=ps.length:=by rw[<- r2.length];exact F.len _ _ _ _ h
 refine a96 (a49 (F.run X.A X.stack s H ⟨us,[]⟩ (us++ds) (vs++dvs) Q E hr I.env0 (hb s us I.kIn hl) r2 h) fun r s' hq=>?_);cases r with
 | error e=>exact hx c2t σ H s e s' I hq
 | ok fl=>
   cases fl with
   | ret u=>exact I.after hq
   | next=>exact False.elim hq
   | brk=>exact False.elim hq
   | cont=>exact False.elim hq
theorem S7(F:jB X.prog X.w X.K X.mg X.base CX k f fd ps sp)(hr:bI k X.A)(hg:Gl X x)(hm:X.mg x=some (.ref f))(hk:b1h X.K (.ref f)=true)(hb:fC X.K fd ps ds)(hd:x9 dvs ds)(hx:bJ CX X E)(ha:PA X (e::es) t)(hdb:(x == ("__debug__" : Str))=false:=by decide)(he:a11 (e::es) X.env=(false,eval e X.env)::a11 es X.env:=by rfl)(hpl:(a37 pos (a11 es X.env)).any (·.1)=false:=by rfl) :
 PE X (.Call (.Name x p) (e::es) [] pos) (a0s sp dvs E t):=by
 intro c2t s σ H Q I h;refine a45 (jp I hg hm ?_ hdb);refine c0g (h₀:=X.base) I.ok.mod.kin hk (bA (ha pos c2t s σ H _ I h) fun us s1 ⟨vs,H1,I1,r,q⟩=>⟨I1.kIn,?_⟩) he hpl;exact yy F hr hb hd hx I1 r q
theorem yW{pl:Sem Bool}(he:PE X o ta)(c:M0 X.K C)(hm:a0g X.K C m f)(F:jB X.prog X.w X.K X.mg X.base CX k f fd ps sp)(hr:bI k X.A)(hb:fC X.K fd ps ds)(hd:x9 dvs ds)(hx:bJ CX X E)(ht:eval (.Call (.Attribute o m apos) [] [] pos) X.env=(do
 let ov <- eval o X.env
 a28 apos.atName
 let (f,first) <- a43 [ov] (a87 ov m pl)
 callWith pos f first (a37 pos (a11 [] X.env)) (b00 pos (a73 [] X.env))):=by rfl) :
 PE X (.Call (.Attribute o m apos) [] [] pos) (a0p C m sp dvs E ta q9):=by
 intro c2t s σ H Q I h;refine PySem.W.methodCall_KW (pl:=pl) (bA (he c2t s σ H _ I h) fun u s1 ⟨x,H1,I1,rx,a,dx,fs,ex,ea,l,q⟩=>?_) ht;subst ex;obtain rfl:u=Value.ref a:=rx;refine tQ I1 ea c hm l ?_;exact PySem.W.callWith_K0 (first:=[.ref a]) I1.kIn hm.kp (yy (us:=[.ref a]) (vs:=[.ref a]) F hr hb hd hx I1 (.cons rfl .nil) q)
structure Mk(K:a8z)(C f:Addr):Prop where
 makes:b6s K C=true
 init:b0i K (.ref C) "__init__" = some (some (.ref f))
 fn:b5r K (.ref f)=true
 kp:b1h K (.ref C)=true
theorem yx{c2t:List (Addr×Obj)}{σ:St}{H:Hp}{s:a01}{Q:VK}{us:List Value}{vs:List V}(M:Mk X.K C f)(F:jB X.prog X.w X.K X.mg X.base CX k f fd ps sp)(hr:bI (k+1) X.A)(hb:fC X.K fd ps ds)(hd:x9 dvs ds)(hx:bJ CX X E)(I:n9 X c2t σ H s)(r:x9 vs us)(h:∀ x dx,H x=none->H dx=none->dx≠x->sp (.ref x::(vs++dvs)) (upd (upd H dx (.own x)) x (.ins C dx [])) (fun v H2=>v=.non/\Q (.ref x) H2) E) :
 a07 (a05 X.prog X.w) X.A (call (.ref C) us) (EP X c2t σ Q) X.xe s:=by
 have hq:=h (s.heap.objs.size+1) s.heap.objs.size (I.hok.fresh (c0u _)) (I.hok.fresh (a9j _)) (b0s (b3t _));have I2:=n9.made (C:=C) I;have r2:x9 (V.ref (s.heap.objs.size+1)::(vs++dvs)) (Value.ref (s.heap.objs.size+1)::(us++ds)):=.cons rfl (r.append hd);have hl:(Value.ref (s.heap.objs.size+1)::us++ds).length=ps.length:=by
  have e:=r2.length;rw[F.len _ _ _ _ hq] at e;exact e.symm
 refine a96 (A8 (f:=f) I.kIn M.makes M.init (beq_iff_eq.mp M.fn) (a49 (F.run _ X.stack _ _ ⟨Value.ref (s.heap.objs.size+1)::us,[]⟩ (Value.ref (s.heap.objs.size+1)::(us++ds)) _ _ E (hr.make C us [])
  (I2.env0.make C us []) (hb _ (Value.ref (s.heap.objs.size+1)::us) I2.kIn hl) r2 hq) fun r s' hq'=>?_))
 cases r with
 | error e=>exact hx c2t σ _ _ e s' I2 hq'
 | ok fl=>
   cases fl with
   | ret u=>
     obtain⟨v,H',I3,rv,ev,q3⟩:=I2.after hq';subst ev;exact⟨rv,⟨V.ref (s.heap.objs.size+1),H',I3,rfl,q3⟩⟩
   | next=>exact False.elim hq'
   | brk=>exact False.elim hq'
   | cont=>exact False.elim hq'
theorem S4(M:Mk X.K C f)(F:jB X.prog X.w X.K X.mg X.base CX k f fd ps sp)(hr:bI (k+1) X.A)(hg:Gl X x)(hm:X.mg x=some (.ref C))(hb:fC X.K fd ps ds)(hd:x9 dvs ds)(hx:bJ CX X E)(ha:PA X (e::es) t)(hdb:(x == ("__debug__" : Str))=false:=by decide)(he:a11 (e::es) X.env=(false,eval e X.env)::a11 es X.env:=by rfl)(hpl:(a37 pos (a11 es X.env)).any (·.1)=false:=by rfl) :
 PE X (.Call (.Name x p) (e::es) [] pos) (a0q C sp dvs E t):=by
 intro c2t s σ H Q I h;refine a45 (jp I hg hm ?_ hdb);refine c0g (h₀:=X.base) I.ok.mod.kin M.kp (bA (ha pos c2t s σ H _ I h) fun us s1 ⟨vs,H1,I1,r,q⟩=>⟨I1.kIn,?_⟩) he hpl;exact yx M F hr hb hd hx I1 r q
end
structure j6(N P:List Str)(sc:Scope):Prop where
 kind:sc.kind=.function
 co:sc.isCoroutine=false
 gen:sc.isGenerator=false
 nd:N.Nodup
 pre:N.take P.length=P
 par:∀ x∈P,sc.names.lookup x=some .local\/sc.names.lookup x=some .cell
 nofree:∀ y∈sc.names,y.2≠.free
theorem oP{kindOf:Str->Option a62}{x:Str}:∀ {binds:List (Str×Value)} {m:Str->Option Value},(∀ v,(x,v)∉binds)->b10 kindOf binds m x=m x
 | [],_,_=>rfl
 | (n,v)::r,m,h=>by
  unfold b10;rw[oP fun w hw=>h w (b0f _ hw)];split
  .have:x≠n:=by rintro rfl;exact h v b5l
   simp[this]
  .rfl
theorem oR{kindOf:Str->Option a62}{x:Str}:∀ {binds:List (Str×Value)} {m:Str->Option Value},(∀ v,(x,v)∉binds)->b11 kindOf binds m x=m x
 | [],_,_=>rfl
 | (n,v)::r,m,h=>by
  unfold b11;rw[oR fun w hw=>h w (b0f _ hw)];split
  .rfl
  .have:x≠n:=by rintro rfl;exact h v b5l
   simp[this]
theorem oQ{kindOf:Str->Option a62}{x:Str}{v:Value}:∀ {P:List Str} {vs:List Value} {i:Nat} {m:Str->Option Value},P.Nodup->P[i]?=some x->vs[i]?=some v->kindOf x=some .local->
 b10 kindOf (P.zip vs) m x=some v
 | [],_,_,_,_,h,_,_=>by simp at h
 | _::_,[],_,_,_,_,h,_=>by simp at h
 | p::P,w::vs,0,m,nd,h1,h2,hk=>by
   simp at h1 h2;subst h1;subst h2;show b10 kindOf ((p,w)::P.zip vs) m p=_;unfold b10;rw[oP fun v hv=>(b4b.mp nd).1 (b8s hv).1,if_pos hk];simp
 | p::P,w::vs,i+1,m,nd,h1,h2,hk=>by
   show b10 kindOf ((p,w)::P.zip vs) m x=_;unfold b10;exact oQ (i:=i) (b4b.mp nd).2 (by simpa using h1) (by simpa using h2) hk
theorem oS{kindOf:Str->Option a62}{x:Str}{v:Value}:∀ {P:List Str} {vs:List Value} {i:Nat} {m:Str->Option Value},P.Nodup->P[i]?=some x->vs[i]?=some v->kindOf x≠some .local->
 b11 kindOf (P.zip vs) m x=some v
 | [],_,_,_,_,h,_,_=>by simp at h
 | _::_,[],_,_,_,_,h,_=>by simp at h
 | p::P,w::vs,0,m,nd,h1,h2,hk=>by
   simp at h1 h2;subst h1;subst h2;show b11 kindOf ((p,w)::P.zip vs) m p=_;unfold b11;rw[oR fun v hv=>(b4b.mp nd).1 (b8s hv).1,if_neg hk];simp
 | p::P,w::vs,i+1,m,nd,h1,h2,hk=>by
   show b11 kindOf ((p,w)::P.zip vs) m x=_;unfold b11;exact oS (i:=i) (b4b.mp nd).2 (by simpa using h1) (by simpa using h2) hk
noncomputable def eF(N:List Str)(vs:List V):St:=vs.map some++a9s (N.length - vs.length) none
noncomputable def dM(CX:sq)(P:a15)(w:a20)(K:a8z)(mg:Str->Option Value)(base:Heap)(N:List Str)(qual:Str)(scope:Scope)(f:Addr)(cd:Value)(A:a19)(outer:List Env)(s:a01)(H:Hp)(E:XK):Cx where
 prog:=P
 w:=w
 K:=K
 mg:=mg
 base:=base
 A:=A.deeper (a60 qual scope s.heap.objs.size f cd)
 N:=N
 s₀:=s
 H₀:=H
 env:=a60 qual scope s.heap.objs.size f cd
 outer:=outer
 stack:=a60 qual scope s.heap.objs.size f cd::outer
 ex:=[]
 calm:=true
 fn:=fun _=>true
 pn:=[]
 xe:=fun e s'=>a07 (a05 P w) (A.deeper (a60 qual scope s.heap.objs.size f cd)) (b21 (a60 qual scope s.heap.objs.size f cd) e) (fun _ s''=>CX outer H s E e s'') (fun e' s''=>CX outer H s E e' s'') s'
theorem sd{sc:Scope}{n:Nat}{x:Str}(h:sc.names.lookup x=some .cell):∃ c,(cellsFrom n sc.names []).lookup x=some c:=by
 have q:=b9b sc.names n [] (.inl h);exact b7w.mp q
theorem xo{CX:sq}{P:a15}{w:a20}{K:a8z}{mg:Str->Option Value}{base:Heap}{N ps:List Str}{qual:Str}{scope:Scope}{f:Addr}{cd:Value}{A:a19}{outer:List Env}{s s1:a01}{H:Hp}{E:XK}{us:List Value}{vs:List V}(S:j6 N ps scope)(hd:A.handled=none)(e0:uG P w K mg base A outer s H)(hl:vs.length=ps.length)(r:x9 vs us)(x:InCallC s s.heap.objs.size (b10 (a60 qual scope s.heap.objs.size f cd).kindOf (ps.zip us) fun _=>none) (cellsFrom (s.heap.objs.size+1) scope.names []) (b11 (a60 qual scope s.heap.objs.size f cd).kindOf (ps.zip us) fun _=>none) s1) :
 n9 (dM CX P w K mg base N qual scope f cd A outer s H E) [] (eF N vs) H s1:=by
 have hpl:ps.length<=N.length:=by have:=congrArg b3g S.pre;rw[b0d] at this;lia
 obtain⟨h1,tk,rfl,hk⟩:=x.done;have noA:∀ b:Addr,b∉(dM CX P w K mg base N qual scope f cd A outer s H E).ex:=fun b z=>absurd (show b∈([]:List Addr) from z) (by simp);refine⟨⟨e0.mod,S.kind,rfl,rfl,a9j _,fun y z c h1 h2=>?_,fun y hy=>?_,fun y c _ h=>?_,fun _=>hd,Around.frames_deeper e0.frames,.inr ⟨rfl,rfl⟩,fun b z=>absurd z (noA b),e0.bs,e0.bsz,fun b _ _=>noA b,fun b z=>absurd z (noA b),e0.funs,e0.frf⟩,
  rfl,e0.bare,Un.kept hk,⟨_,x.toInCall.ns,fun i y v h1 h2 h3=>?_⟩,fun y c h=>⟨_,x.cell y c h⟩,e0.hok.fresh (a9j _),fun y c h=>?_,fun p hp=>absurd (show p∈([]:List (Addr×Obj)) from hp) (by simp),e0.hok.kept hk,?_⟩
 .exact name_of_addr x.apart (PySem.mem_of_lookup h1) (PySem.mem_of_lookup h2)
 .have hy:scope.names.lookup y=some .cell\/scope.names.lookup y=some .free:=hy;rcases hy with hy | hy
  .exact sd hy
  .exact absurd rfl (S.nofree _ (PySem.mem_of_lookup hy))
 .exact b1x (x.above y c (PySem.mem_of_lookup h))
 .have hi:i<vs.length:=by
   unfold eF at h2;by_cases hi:i<vs.length
   .exact hi
   .rw[a9l (by simpa using hi)] at h2;rw[b5o] at h2;split at h2<;>cases h2
  have ha:vs[i]?=some v:=by
   unfold eF at h2;rw[a9i (by simpa using hi),a9h] at h2;cases e:vs[i]? with
   | none=>rw[e] at h2;cases h2
   | some a=>rw[e] at h2;cases h2;rfl
  obtain⟨u,hu,rv⟩:=r.get ha;have hp:ps[i]?=some y:=by
   rw[<- S.pre,List.getElem?_take_of_lt (by lia)];exact h1
  have ndP:ps.Nodup:=by rw[<- S.pre];exact S.nd.sublist (b5u _ _)
  refine⟨u,rv,?_⟩;rcases S.par y (a9f hp) with k | k
  .exact .inl ⟨k,oQ ndP hp hu k⟩
  .obtain⟨c,e⟩:=sd (n:=s.heap.objs.size+1) k;refine .inr ⟨.inl k,c,e,?_⟩;have q:=x.cell y c e;rw[oS ndP hp hu (by show scope.names.lookup y≠_;rw[k];decide)] at q;exact q
 .exact e0.hok.fresh (b1x (x.above y c (PySem.mem_of_lookup h)))
 .unfold eF;show _=N.length;rw[a9b,a9a,b0z];lia
theorem a1o{CX:sq}{P:a15}{w:a20}{K:a8z}{mg:Str->Option Value}{base:Heap}{k:Nat}{f:Addr}{name qual:Str}{params:Arguments}{body:List Stmt}{scope:Scope}{dV kV doc pm cdv ct oc:Value}{an od:Option Addr}{osl:Array (Option Value)}{N ps:List Str}{sp:Sp}(lk:K.lookup f=some ⟨oc,od,.func (b1n name qual params body scope dV kV doc pm an cdv ct),osl⟩)(hcd:b2l K cdv qual=true)(S:j6 N ps scope)(len:∀ vs H Q E,sp vs H Q E->vs.length=ps.length)(hbody:∀ (A:a19) (outer:List Env) (s:a01) (H:Hp) (vs:List V) (Q:VK) (E:XK),bI k (A.deeper (a60 qual scope s.heap.objs.size f cdv))->sp vs H Q E->
 ∃ t,qu (dM CX P w K mg base N qual scope f cdv A outer s H E) body t/\t { nx:=fun _ H'=>Q .non H',rt:=Q } (eF N vs) H) :
 jB P w K mg base CX (k+1) f (b1n name qual params body scope dV kV doc pm an cdv ct) ps sp:=by
 refine⟨len,fun A outer s H args us vs Q E hr e0 hb r hsp=>?_⟩;have hl:=len _ _ _ _ hsp;have KX:K.In s.heap:=e0.mod.kin.keeps fun b o e=>(e0.bs b o e).1;have lim:s.heap.NoLimit:=e0.mod.nolimit.keeps fun b o e=>(e0.bs b o e).1;have hkind:∀ y∈ps.zip us,scope.names.lookup y.1=some .local\/(scope.names.lookup y.1=some .cell/\((cellsFrom (s.heap.objs.size+1) scope.names []).lookup y.1).isSome=true):=fun⟨n,v⟩ hy=>by
  rcases S.par n (b8s hy).1 with q | q
  .exact .inl q
  .exact .inr ⟨q,b9b _ _ _ (.inl q)⟩
 refine codeAny_call_function hr.depth (KX _ _ lk) rfl S.co S.gen rfl (PySem.W.codeRec_of KX hcd) (hb _ _ _ _ ?_);refine wpAny_newFunctionEnv_cells S.kind hkind fun env he s1 x=>?_;subst he;refine⟨lim.keeps x.toInCall.keep,codeAny_func ?_⟩;obtain⟨t,ht,hq⟩:=hbody A outer s H vs Q E (hr.deeper _) hsp;have I:n9 (dM CX P w K mg base N qual scope f cdv A outer s H E) [] (eF N vs) H s1:=xo S hr.hd e0 hl r x;refine a08 (ht [] s1 (eF N vs) H _ I hq) (fun fl s' hs=>?_) fun e s' hs=>hs;have fin:∀ {σ':St} {H':Hp} {v:V} {u:Value},n9 (dM CX P w K mg base N qual scope f cdv A outer s H E) [] σ' H' s'->am v u->Q v H'->CE outer P w H s Q u s':=
  fun {σ' H' v u} J rv q=>⟨v,H',J.os,J.bare,J.base,J.hok,rv,q⟩
 cases fl with
 | ret u=>
   obtain⟨v,σ',H',J,rv,q⟩:=hs;exact fin J rv q
 | next=>
   obtain⟨σ',H',J,q⟩:=hs;exact fin (v:=V.non) (u:=Value.none) J rfl q
 | brk=>
   obtain⟨_,_,_,q⟩:=hs;exact False.elim q
 | cont=>
   obtain⟨_,_,_,q⟩:=hs;exact False.elim q
section
variable {X:Cx} {x:Str} {p pos:Pos} {e:a13} {es:List a13} {t:TA} {id T:String} {r:List V->Hp->VK->Prop}
noncomputable def tCB(r:List V->Hp->VK->Prop)(t:TA):TE:=fun σ H Q=>t σ H fun vs H1=>r vs H1 Q
theorem ze(hc:bP X (.builtin id) r)(hg:Gl X x)(hm:X.mg x=none)(hv:a39 x=some (.builtin id))(ha:PA X (e::es) t)(hn:x ≠ "__name__":=by decide)(hdb:(x == ("__debug__" : Str))=false:=by decide)(he:a11 (e::es) X.env=(false,eval e X.env)::a11 es X.env:=by rfl)(hpl:(a37 pos (a11 es X.env)).any (·.1)=false:=by rfl):PE X (.Call (.Name x p) (e::es) [] pos) (tCB r t):=by
 intro c2t s σ H Q I h;refine a45 (jV I hg hm hv ?_ hn hdb);exact PyProof.Rows.callWith_builtin1 (bA (ha pos c2t s σ H _ I h) fun us s1 ⟨vs,H1,I1,r1,q1⟩=>hc c2t s1 σ H1 vs us Q I1 r1 q1) he hpl
theorem wO(hc:bP X (.type T) r)(hg:Gl X x)(hm:X.mg x=none)(hv:a39 x=some (.type T))(ha:PA X (e::es) t)(hn:x ≠ "__name__":=by decide)(hdb:(x == ("__debug__" : Str))=false:=by decide)(he:a11 (e::es) X.env=(false,eval e X.env)::a11 es X.env:=by rfl)(hpl:(a37 pos (a11 es X.env)).any (·.1)=false:=by rfl):PE X (.Call (.Name x p) (e::es) [] pos) (tCB r t):=by
 intro c2t s σ H Q I h;refine a45 (jV I hg hm hv ?_ hn hdb);exact b3f (bA (ha pos c2t s σ H _ I h) fun us s1 ⟨vs,H1,I1,r1,q1⟩=>hc c2t s1 σ H1 vs us Q I1 r1 q1) he hpl
end
end L2
namespace HT
open PySem PyProof.Rows
section
variable {prog:a15} {w:a20} {A:a19} {E:Value->a01->Prop} {s:a01}
theorem Z5{t b:Addr}{vs ws:List Value}{Q:Value->a01->Prop}(ht:IsTup s.heap t vs.toArray)(hb:IsTup s.heap b ws.toArray)(hv:vs≠[])(h1:ws=[]->Q (.ref t) s)(h2:ws≠[]->Q (.ref s.heap.objs.size) { s with heap:=s.heap.push { cls:=.type "tuple",data:=.seq (vs++ws).toArray } })(hsz:vs.length+ws.length<=sizeLine):a07 (a05 prog w) A (a36 .Add (.ref t) (.ref b)) Q E s:=by
 obtain⟨⟨cls,dd,data,sl⟩,ho,hc,n,hd⟩:=id ht;obtain⟨⟨cls2,dd2,data2,sl2⟩,ho2,hc2,n2,hd2⟩:=id hb;simp only at hc hd hc2 hd2;subst hc hd hc2 hd2;have e:vs.toArray++ws.toArray=(vs++ws).toArray:=by simp
 by_cases hw:ws=[]
 .exact concat_meets ⟨_,ho,rfl⟩ ⟨_,ho2,rfl⟩ noFill_tuple_add seq_tuple_add b9f b8o (b7x _ _)
   (tuple_addW1 t b vs.toArray ws.toArray n n2 dd dd2 sl sl2 (by simpa using hv) (by simp[hw])) ⟨ho,ho2,h1 hw⟩
 .refine concat_meets ⟨_,ho,rfl⟩ ⟨_,ho2,rfl⟩ noFill_tuple_add seq_tuple_add b9f b8o (b7x _ _)
   (tuple_addW2 t b vs.toArray ws.toArray n n2 dd dd2 sl sl2 (by simpa using hv) (by simpa using hw) (by rw[a9p,a9p];exact hsz)) ⟨ho,ho2,?_⟩
  rw[e];exact h2 hw
noncomputable def cw(n d:Nat):Option Int->Nat
 | none=>d
 | some v=>if v<0 then (v+(n:Int)).toNat else min v.toNat n
theorem me(n d:Nat):cw n d none=d:=rfl
theorem pE(n d k:Nat):cw n d (some (k:Int))=min k n:=by
 show (if (k:Int)<0 then ((k:Int)+(n:Int)).toNat else min (k:Int).toNat n)=min k n;rw[if_neg (by lia),b1o]
theorem a2s(n d:Nat)(hd:d<=n)(o:Option Int):cw n d o<=n:=by
 cases o with
 | none=>exact hd
 | some v=>
   show (if v<0 then (v+(n:Int)).toNat else min v.toNat n)<=n;by_cases hv:v<0
   .rw[if_pos hv];lia
   .rw[if_neg hv];exact Nat.min_le_right _ _
theorem vW(v:Int)(n d:Nat):(if v<0 then max (v+(n:Int)) 0 else min v (n:Int))=((cw n d (some v):Nat):Int):=by
 show (if v<0 then max (v+(n:Int)) 0 else min v (n:Int))=(((if v<0 then (v+(n:Int)).toNat else min v.toNat n):Nat):Int)
 by_cases hv:v<0
 .simp only[if_pos hv];lia
 .simp only[if_neg hv];lia
theorem uy(lo hi:Option Int)(n:Nat):Builtin.Slice.sliceAdjust lo hi 1 (n:Int)=(((cw n 0 lo:Nat):Int),((cw n n hi:Nat):Int)):=by
 have h1:¬ ((1:Int)<0):=by lia
 unfold Builtin.Slice.sliceAdjust;simp only[h1,if_false];refine b6a ?_ ?_
 .cases lo with
  | none=>rfl
  | some v=>exact vW v n 0
 .cases hi with
  | none=>rfl
  | some v=>exact vW v n n
theorem sR(i j:Nat):Builtin.Slice.slicePlaces (i:Int) (j:Int) 1=j - i:=by
 unfold Builtin.Slice.slicePlaces;have h1:(1:Int) > 0:=by lia
 simp only[h1,if_true,Int.ediv_one];split<;>lia
theorem lP{v:Value}{o:Option Int}{Q:Option Int->a01->Prop}(p:a88 v o)(h:Q o s):a07 (a05 prog w) A (Builtin.Slice.slicePartIndex v) Q E s:=by
 cases p with
 | none=>exact slicePart_none h
 | int i t=>exact slicePart_int h
theorem jJ{sl:Addr}{vl vu:Value}{lo hi:Option Int}{n:Nat}{Q:Int×Int×Nat->a01->Prop}(hs:s.heap.IsSliceOf sl vl vu .none)(pl:a88 vl lo)(pu:a88 vu hi)(h:Q (((cw n 0 lo:Nat):Int),1,cw n n hi - cw n 0 lo) s):a07 (a05 prog w) A (Builtin.Slice.sliceApplied (.ref sl) (pure (n:Int))) Q E s:=by
 obtain⟨os,hos,hcs,hds⟩:=id hs;unfold Builtin.Slice.sliceApplied Builtin.Slice.sliceFields;refine a00 (a00 (a57 hos hds (x:=vl) rfl (a00 (a57 hos hds (x:=vu) rfl (a00 (a57 hos hds (x:=.none) rfl (a02 ?_)))))));refine a00 (slicePart_none ?_);show a07 _ _ (if ((1:Int) == 0)=true then _ else _) _ _ s;rw[if_neg (by decide)];refine a00 (lP pl (a00 (lP pu (a00 (a02 ?_)))));show a07 _ _ (match Builtin.Slice.sliceAdjust lo hi 1 (n:Int) with | (lo,hi)=>pure (lo,(1:Int),Builtin.Slice.slicePlaces lo hi 1)) _ _ s;rw[uy lo hi n];show a07 _ _ (pure (((cw n 0 lo:Nat):Int),(1:Int),Builtin.Slice.slicePlaces ((cw n 0 lo:Nat):Int) ((cw n n hi:Nat):Int) 1)) _ _ s;rw[sR];exact a02 h
theorem yO(xs:Array Value)(i k:Nat):((b0y k).filterMap fun (m:Nat)=>xs[((i:Int)+(m:Int)*1).toNat]?).toArray=((xs.toList.drop i).take k).toArray:=by
 have e:(fun (m:Nat)=>xs[((i:Int)+(m:Int)*1).toNat]?)=fun m=>xs[i+m]?:=by
  funext m;have:((i:Int)+(m:Int)*1).toNat=i+m:=by lia
  rw[this]
 rw[e];have:=pick_run xs i k;rw[List.filterMap_map] at this;have e2:((fun x=>xs[x]?)∘fun x=>i+x)=fun m=>xs[i+m]?:=rfl;rw[e2] at this;rw[this]
theorem js{t sl:Addr}{items:Array Value}{vl vu:Value}{lo hi:Option Int}{Q:Value->a01->Prop}(ht:IsTup s.heap t items)(hs:s.heap.IsSliceOf sl vl vu .none)(pl:a88 vl lo)(pu:a88 vu hi)(hw:¬ (cw items.size 0 lo=0/\cw items.size items.size hi=items.size))(h:Q (.ref s.heap.objs.size) { s with heap:=s.heap.push { cls:=.type "tuple",data:=.seq ((items.toList.drop (cw items.size 0 lo)).take (cw items.size items.size hi - cw items.size 0 lo)).toArray } })(hsz:items.size<=sizeLine):a07 (a05 prog w) A (a92 (.ref t) (.ref sl)) Q E s:=by
 have htake:sizeOk (.seq ((items.toList.drop (cw items.size 0 lo)).take (cw items.size items.size hi - cw items.size 0 lo)).toArray):=by
  show ((items.toList.drop (cw items.size 0 lo)).take (cw items.size items.size hi - cw items.size 0 lo)).toArray.size<=sizeLine;rw[a9p,b0d,b0e,a9d];lia
 have hj:cw items.size items.size hi<=items.size:=a2s _ _ (a9j _) hi;obtain⟨os,hos,hcs,hds⟩:=id hs;have hTs:s.TypeIs (.ref sl) "slice":=⟨os,hos,hcs⟩
 unfold a92;try with_reducible refine a16 ?_
 first | refine a00 (a02 ?_) | skip
 refine a00 (wpAny_sequenceKey ht.typeIs (by decide) ?_);refine a00 (wpAny_callSpecial?_slot (name:=Str.ofString "__getitem__") ht.typeIs b3w
  (a85 b3w ht.typeIs entry_tuple_getitem ?_ (args_tuple_getitem _ _)))
 show a07 _ _ (Builtin.Tuple.tupleItemsOf (.ref t) >>= _) _ _ s;refine a00 (tupleItemsOf_ ht ?_);refine a00 (wpAny_typeOf hTs ?_);rw[if_pos (by decide)];refine a00 (jJ hs pl pu ?_);have hno:¬ ((((cw items.size 0 lo:Nat):Int) == 0 && (1:Int) == 1 && (cw items.size items.size hi - cw items.size 0 lo) == items.size)=true):=by
  intro q;rw[b1g,b1g] at q;have q1:((cw items.size 0 lo:Nat):Int)=0:=eq_of_beq q.1.1;have q2:cw items.size items.size hi - cw items.size 0 lo=items.size:=eq_of_beq q.2;exact hw ⟨by lia,by lia⟩
 show a07 _ _ (if (((cw items.size 0 lo:Nat):Int) == 0 && (1:Int) == 1 && (cw items.size items.size hi - cw items.size 0 lo) == items.size)=true then _ else _) _ _ s;rw[if_neg hno,yO];first
  | exact a00 (m:=Builtin.Tuple.tupleExact _) (a33 (a02 ⟨_,rfl,a02 h⟩) htake)
  | exact a00 (m:=Builtin.Tuple.tupleExact _) (a33 (a00 (a02 (a02 ⟨_,rfl,a02 h⟩))) htake)
  | exact a00 (a00 (m:=Builtin.Tuple.tupleExact _) (a33 (a02 (a02 ⟨_,rfl,a02 h⟩)) htake))
  | exact a00 (a00 (m:=Builtin.Tuple.tupleExact _) (a33 (a02 ⟨_,rfl,a02 h⟩) htake))
end
end HT
namespace L2
open PySem PySem.Spec PyProof.Rows
abbrev TO:=St->Hp->(Option Int->Hp->Prop)->Prop
noncomputable def PO(X:Cx)(e:Option a13)(t:TO):Prop:=
 ∀ (c2t:List (Addr×Obj)) (s:a01) (σ:St) (H:Hp) (Q:Option Int->Hp->Prop),n9 X c2t σ H s->t σ H Q->
  a07 (a05 X.prog X.w) X.A (evalPart e X.env) (fun u s'=>∃ o H',n9 X c2t σ H' s'/\a88 u o/\Q o H') X.xe s
noncomputable def uN:TO:=fun _ H Q=>Q none H
noncomputable def a0l(t:TE):TO:=fun σ H Q=>t σ H fun x H1=>∃ i,x=.int i/\Q (some i) H1
theorem mH{ns:List Int}:∀ {us:List Value},x9 (ns.map V.int) us->a78 us ns:=by
 induction ns with
 | nil=>intro us r;rw[b4n] at r;cases r;exact .nil
 | cons n ns ih=>
   intro us r;rw[b1q] at r;cases r with
   | cons r1 r2=>
     obtain⟨t,e⟩:=r1;subst e;exact .cons n t (ih r2)
section
variable {X:Cx} {e:a13} {te:TE} {lo hi:Option a13} {tl th:TO} {pos p2:Pos}
theorem Q6:PO X none uN:=by
 intro c2t s σ H Q I h;rw[b08];exact a02 ⟨none,H,I,.none,h⟩
theorem Q5(h:PE X e te):PO X (some e) (a0l te):=by
 intro c2t s σ H Q I hw;rw[evalPart_some];refine bA (h c2t s σ H _ I hw) fun u s1 ⟨x,H1,I1,r1,q1⟩=>?_;obtain⟨i,rfl,q⟩:=q1;obtain⟨t,rfl⟩:=r1;exact⟨some i,H1,I1,.int i t,q⟩
noncomputable def a6m(X:Cx)(r:V->Option Int->Option Int->Hp->VK->Prop):Prop:=
 ∀ (c2t:List (Addr×Obj)) (s:a01) (σ:St) (H:Hp) (x:V) (v vl vu:Value) (lo hi:Option Int) (sl:Addr) (Q:VK),n9 X c2t σ H s->am x v->s.heap.IsSliceOf sl vl vu .none->a88 vl lo->a88 vu hi->r x lo hi H Q->
  ∃ T id,typeLookup (.type T) "__getitem__" = pure (some (.builtin id))/\s.TypeIs v T/\a07 (a05 X.prog X.w) X.A (a92 v (.ref sl)) (EP X c2t σ Q) X.xe s
noncomputable def tSl(r:V->Option Int->Option Int->Hp->VK->Prop)(te:TE)(tl th:TO):TE:=fun σ H Q=>te σ H fun x H1=>tl σ H1 fun l H2=>th σ H2 fun u H3=>r x l u H3 Q
theorem yU{r:V->Option Int->Option Int->Hp->VK->Prop}(hr:a6m X r)(he:PE X e te)(hl:PO X lo tl)(hu:PO X hi th):PE X (.Subscript e (.Slice lo hi none p2) pos) (tSl r te tl th):=by
 intro c2t s σ H Q I h;refine Subscript_ (bA (he c2t s σ H _ I h) fun v s1 ⟨x,H1,I1,r1,q1⟩=>?_);refine wpAny_Slice (bA (hl c2t s1 σ H1 _ I1 q1) fun vl s2 ⟨l,H2,I2,pl,q2⟩=>bA (hu c2t s2 σ H2 _ I2 q2) fun vu s3 ⟨u,H3,I3,pu,q3⟩=>?_);rw[b08];refine a02 ?_;have I4:n9 X c2t σ H3 { s3 with heap:=s3.heap.push { cls:=.type "slice",data:=.fields #[vl,vu,.none] } }:=I3.kept (t':=s3.toks) fun b ob q=>Heap.get?_push_of_some _ q;obtain⟨T,id,hT,ht,hg⟩:=hr c2t { s3 with heap:=s3.heap.push { cls:=.type "slice",data:=.fields #[vl,vu,.none] } } σ H3 x v vl vu l u s3.heap.objs.size Q I4 r1 (Heap.IsSliceOf.new ..) pl pu q3;show a07 (a05 X.prog X.w) X.A (b06 e (.Slice lo hi none p2) v (.ref s3.heap.objs.size)) (EP X c2t σ Q) X.xe { s3 with heap:=s3.heap.push { cls:=.type "slice",data:=.fields #[vl,vu,.none] } };exact tail_any (ops:=[.ref s3.heap.objs.size,v]) ht hT hg (by with_unfolding_all rfl)
noncomputable def dN(xs:List V)(lo hi:Option Int):List V:=(xs.drop (HT.cw xs.length 0 lo)).take (HT.cw xs.length xs.length hi - HT.cw xs.length 0 lo)
theorem kG(xs:List V)(lo hi:Option Int):(dN xs lo hi).length<=xs.length:=by
 unfold dN;rw[b0d,b0e];lia
noncomputable def a7i(K:a8z):V->Option Int->Option Int->Hp->VK->Prop:=fun x lo hi H Q=>∃ a xs,x=.ref a/\aj K H a xs/\
 ¬ (HT.cw xs.length 0 lo=0/\HT.cw xs.length xs.length hi=xs.length)/\∀ p,H p=none->Q (.ref p) (upd H p (.tup (dN xs lo hi)))
theorem a2r:a6m X (a7i X.K):=by
 intro c2t s σ H x v vl vu lo hi sl Q I rx hs pl pu h;obtain⟨a,xs,rfl,hx,hw,q⟩:=h;cases rx;obtain⟨its,r,ht,hz⟩:=I.tuple hx;have hlen:its.toArray.size=xs.length:=by rw[a9p];exact r.length.symm
 refine⟨"tuple",_,b3w.lookup,ht.typeIs,?_⟩;refine HT.js ht hs pl pu (by rw[hlen];exact hw) ?_ (by rw[hlen];exact hz);rw[hlen];refine⟨.ref s.heap.objs.size,_,I.laid (t':=s.toks) (o:=.tup (dN xs lo hi)) (fun b ob q=>Heap.get?_push_of_some _ q) (a9j _) ?_,rfl,q _ (I.hok.fresh (a9j _))⟩;exact⟨b0n (kG xs lo hi) hz,_,(r.drop (HT.cw xs.length 0 lo)).take (HT.cw xs.length xs.length hi - HT.cw xs.length 0 lo),IsTup.new _ _⟩
noncomputable def a0y(K:a8z):R2:=fun x y H Q=>∃ a b xs ys,x=.ref a/\y=.ref b/\aj K H a xs/\aj K H b ys/\xs≠[]/\xs.length+ys.length<=sizeLine/\
 (ys=[]->Q (.ref a) H)/\(ys≠[]->∀ p,H p=none->Q (.ref p) (upd H p (.tup (xs++ys))))
theorem x9.nil_iff{xs:List V}{us:List Value}(r:x9 xs us):us=[]↔xs=[]:=by
 cases r with
 | nil=>simp
 | cons _ _=>simp
theorem T7:iH X (a36 .Add) (a0y X.K):=by
 intro c2t s σ H x y v u Q I rx ry h;obtain⟨a,b,xs,ys,rfl,rfl,ha,hb,hx,hz,q1,q2⟩:=h;cases rx;cases ry;obtain⟨its,r1,p1,_⟩:=I.tuple ha;obtain⟨its2,r2,p2,_⟩:=I.tuple hb;refine HT.Z5 p1 p2 (fun z=>hx (r1.nil_iff.mp z)) (fun z=>⟨.ref a,H,I,rfl,q1 (r2.nil_iff.mp z)⟩) (fun z=>?_) (by rw[<- r1.length,<- r2.length];exact hz);refine⟨.ref s.heap.objs.size,_,I.laid (t':=s.toks) (o:=.tup (xs++ys)) (fun b ob q=>Heap.get?_push_of_some _ q) (a9j _) ?_,rfl,q2 (fun w=>z (r2.nil_iff.mpr w)) _ (I.hok.fresh (a9j _))⟩;exact⟨by rw[a9b];exact hz,_,r1.append r2,IsTup.new _ _⟩
end
noncomputable def V9(n:Nat)(i:Int):Option Nat:=if 0<=i then (if i<n then some i.toNat else none) else if -(n:Int)<=i then some (i+n).toNat else none
noncomputable def nk{α:Type}(xs:List α)(i:Int):Option α:=(V9 xs.length i).bind fun j=>xs[j]?
theorem vH{n:Nat}{i:Int}{j:Nat}(h:V9 n i=some j):seqIndex? i n=some j/\j<n/\-(n:Int)<=i/\i<n:=by
 unfold V9 at h;by_cases h0:0<=i
 .rw[if_pos h0] at h;by_cases h1:i<n
  .rw[if_pos h1] at h;have e:i.toNat=j:=a9t.inj h;exact⟨by rw[b27 h0 h1,e],by lia,by lia,h1⟩
  .rw[if_neg h1] at h;cases h
 .rw[if_neg h0] at h;by_cases h1:-(n:Int)<=i
  .rw[if_pos h1] at h;have e:(i+n).toNat=j:=a9t.inj h;exact⟨by rw[b19 (by lia) h1,e],by lia,h1,by lia⟩
  .rw[if_neg h1] at h;cases h
theorem vZ{α:Type}{xs:List α}{i:Int}{v:α}(h:nk xs i=some v):∃ j,seqIndex? i xs.length=some j/\xs[j]?=some v/\j<xs.length/\-(xs.length:Int)<=i/\i<xs.length:=by
 unfold nk at h;cases e:V9 xs.length i with
 | none=>rw[e] at h;cases h
 | some j=>
   rw[e] at h;obtain⟨h1,h2,h3,h4⟩:=vH e;exact⟨j,h1,h,h2,h3,h4⟩
theorem qj{α:Type}{xs:List α}{j:Nat}{v:α}(h:xs[j]?=some v):nk xs (j:Int)=some v:=by
 have hj:j<xs.length:=(a9c.mp h).1;have e:V9 xs.length (j:Int)=some j:=by
  unfold V9;rw[if_pos (by lia),if_pos (by lia)];simp
 unfold nk;rw[e];exact h
theorem K9{α:Type}(xs:List α)(v:α):nk (xs++[v]) (-1)=some v:=by
 have hl:(xs++[v]).length=xs.length+1:=by simp
 have e:V9 (xs++[v]).length (-1)=some xs.length:=by
  unfold V9;rw[hl,if_neg (by decide),if_pos (by lia)];congr 1;lia
 unfold nk;rw[e];show (xs++[v])[xs.length]?=some v;simp
noncomputable def wk(b:a13):Prop:=∀ o i,subscripted b false o i=operate [o,i] (a92 o i)
noncomputable def a6n(X:Cx)(r:R2):Prop:=
 ∀ (value slice:a13) (c2t:List (Addr×Obj)) (s:a01) (σ:St) (H:Hp) (x y:V) (v u:Value) (Q:VK),n9 X c2t σ H s->am x v->am y u->r x y H Q->
  subscripted slice false v u=operate [v,u] (a92 v u)->a07 (a05 X.prog X.w) X.A (b06 value slice v u) (EP X c2t σ Q) X.xe s
noncomputable def MtR(X:Cx)(id:String)(r:V->List V->Hp->VK->Prop):Prop:=
 ∀ (c2t:List (Addr×Obj)) (s:a01) (σ:St) (H:Hp) (x:V) (xs:List V) (v:Value) (us:List Value) (Q:VK),n9 X c2t σ H s->am x v->x9 xs us->r x xs H Q->
  a07 (a05 X.prog X.w) X.A (call (.builtin id) (v::us)) (EP X c2t σ Q) X.xe s
section
variable {X:Cx} {a b:a13} {ta tb:TE} {pos:Pos}
theorem a7w{r:R2}(hr:a6n X r)(ha:PE X a ta)(hb:PE X b tb)(hs:wk b):PE X (.Subscript a b pos) (a0m r ta tb):=by
 intro c2t s σ H Q I h;exact Subscript_ (a5r ha hb I h fun v u s2 x y H2 I2 rx ry q=>hr a b c2t s2 σ H2 x y v u Q I2 rx ry q (hs _ _))
noncomputable def a7n(K:a8z):R2:=fun x y H Q=>∃ p xs i v,x=.ref p/\y=.int i/\o7 K H p xs/\nk xs i=some v/\Q v H
noncomputable def a7m(K:a8z):R2:=fun x y H Q=>∃ p xs i v,x=.ref p/\y=.int i/\aj K H p xs/\nk xs i=some v/\Q v H
theorem V8:a6n X (a7n X.K):=by
 intro value slice c2t s σ H x y v u Q I rx ry h hs;obtain⟨p,xs,i,z,rfl,rfl,hq,he,q⟩:=h;cases rx;obtain⟨t,rfl⟩:=ry;obtain⟨its,r,pl,hz⟩:=I.list hq;obtain⟨j,h1,h2,h3,h4,h5⟩:=vZ he;obtain⟨w,ew,rw'⟩:=r.get h2;have hl:=r.length;have hn:=pT;have fin:EP X c2t σ Q w s:=⟨z,H,I,rw',q⟩
 by_cases h0:0<=i
 .have hj:i.toNat=j:=by
   rw[b27 h0 h5] at h1;exact a9t.inj h1
  exact item_listR pl.isList h0 (by lia) (by rw[hj];simpa using ew) fin hs
 .have hj:(i+(its.toArray.size:Int)).toNat=j:=by
   rw[b19 (by lia) h4] at h1;rw[a9p,<- hl];exact a9t.inj h1
  exact b18 (x:=w) pl.isList.typeIs slot_list_getitem.lookup
   (wpAny_getItem_list_neg (Q:=fun r s'=>r=w/\EP X c2t σ Q r s') pl.isList (by lia) (by rw[a9p]<;>lia) (by lia) (by rw[hj];simpa using ew) ⟨rfl,fin⟩) hs
theorem a5b:a6n X (a7m X.K):=by
 intro value slice c2t s σ H x y v u Q I rx ry h hs;obtain⟨p,xs,i,z,rfl,rfl,hq,he,q⟩:=h;cases rx;obtain⟨t,rfl⟩:=ry;obtain⟨its,r,pl,hz⟩:=I.tuple hq;obtain⟨j,h1,h2,h3,h4,h5⟩:=vZ he;obtain⟨w,ew,rw'⟩:=r.get h2;have hl:=r.length;have hn:=pT;have fin:EP X c2t σ Q w s:=⟨z,H,I,rw',q⟩
 exact b18 (x:=w) pl.typeIs slot_tuple_getitem.lookup
  (getItem_tuple (j:=j) (Q:=fun r s'=>r=w/\EP X c2t σ Q r s') pl (by lia) (by lia) (by rw[a9p,<- hl];exact h1) (by simpa using ew) ⟨rfl,fin⟩) hs
theorem tF(its:List Value)(n j:Nat)(u:Value):Obj.mapSeq (·.setIfInBounds j u) { cls:=.type "list",data:=.seq its.toArray n }={ cls:=.type "list",data:=.seq (its.set j u).toArray n }:=by
 simp[Obj.mapSeq]
theorem n9.lst{c2t:List (Addr×Obj)}{σ:St}{H:Hp}{s:a01}{p:Addr}{xs:List V}(I:n9 X c2t σ H s)(h:H p=some (.lst xs)) :
 ∃ (its:List Value) (n:Nat),x9 xs its/\s.heap.get? p=some { cls:=.type "list",data:=.seq its.toArray n }/\xs.length<=sizeLine:=by
 obtain⟨z,its,n,r,e⟩:=I.hok p _ h;exact⟨its,n,r,e,z⟩
theorem n9.lstUpd{c2t:List (Addr×Obj)}{σ:St}{H:Hp}{s:a01}{p:Addr}{xs ys:List V}{its its':List Value}{n n':Nat}{f:Obj->Obj}(I:n9 X c2t σ H s)(h:H p=some (.lst xs))(ho:s.heap.get? p=some { cls:=.type "list",data:=.seq its.toArray n })(hf:f { cls:=.type "list",data:=.seq its.toArray n }={ cls:=.type "list",data:=.seq its'.toArray n' })(r:x9 ys its')(hz:ys.length<=sizeLine)(t:Nat) :
 n9 X c2t σ (upd H p (.lst ys)) { s with heap:=s.heap.update p f,toks:=t }:=by
 have e:(s.heap.update p f).get? p=some { cls:=.type "list",data:=.seq its'.toArray n' }:=by
  rw[Heap.get?_update_self f ho (by rw[hf]<;>rfl),hf]
 refine I.write (x:=p) (e:=p) (by rw[h];trivial) (.inl rfl) (fun b u hb q=>(Heap.get?_update_other _ _ (Ne.symm hb)).trans q) ⟨_,e⟩ ?_;exact⟨hz,its',n',r,e⟩
noncomputable def a7k:V->V->V->Hp->(Hp->Prop)->Prop:=fun o i v H Q=>∃ p xs k j,o=.ref p/\i=.int k/\H p=some (.lst xs)/\V9 xs.length k=some j/\Q (upd H p (.lst (xs.set j v)))
theorem yu:a5y X a7k:=by
 intro c2t s σ H o i v ov iv u Q I ro ri rv h;obtain⟨p,xs,k,j,rfl,rfl,hp,hj,q⟩:=h;cases ro;obtain⟨t,rfl⟩:=ri;obtain⟨its,n,r,ho,hz⟩:=I.lst hp;obtain⟨h1,h2,h3,h4⟩:=vH hj;have hl:=r.length;have hn:=pT;have I':n9 X c2t σ (upd H p (.lst (xs.set j v))) { s with heap:=s.heap.update p (Obj.mapSeq (·.setIfInBounds j u)) }:=
  I.lstUpd hp ho (tF its n j u) (r.set rv j) (by rw[List.length_set];exact hz) s.toks
 by_cases h0:0<=k
 .have hk:k.toNat=j:=by
   rw[b27 h0 h4] at h1;exact a9t.inj h1
  exact PySem.W.ki_setAt ho h0 (by lia) (by rw[a9p,<- hl];exact h4) (by rw[hk];exact⟨_,I',q⟩)
 .have hk:(k+(its.toArray.size:Int)).toNat=j:=by
   rw[b19 (by lia) h3] at h1;rw[a9p,<- hl];exact a9t.inj h1
  exact PySem.W.ki_setBack ho (by lia) (by rw[a9p,<- hl];exact h3) (by lia) (by rw[hk];exact⟨_,I',q⟩)
theorem pz(lo hi:Option Int)(n:Nat):(a58 lo hi none n).1=((HT.cw n 0 lo:Nat):Int)/\(a58 lo hi none n).2.1=((HT.cw n n hi:Nat):Int)/\(a58 lo hi none n).2.2=1:=by
 refine⟨?_,?_,rfl⟩
 .cases lo with
  | none=>simp[a58,HT.cw]
  | some i=>
    simp only[a58,HT.cw,c0w,show (1:Int) > 0 by decide,if_true];by_cases h:i<0
    .simp only[h,if_true]<;>lia
    .simp only[h,if_false]<;>lia
 .cases hi with
  | none=>simp[a58,HT.cw]
  | some i=>
    simp only[a58,HT.cw,c0w,show (1:Int) > 0 by decide,if_true];by_cases h:i<0
    .simp only[h,if_true]<;>lia
    .simp only[h,if_false]<;>lia
theorem nC(its:List Value)(lo hi:Option Int):slicePick its.toArray lo hi none=((its.drop (HT.cw its.length 0 lo)).take (HT.cw its.length its.length hi - HT.cw its.length 0 lo)).toArray:=by
 obtain⟨h1,h2,h3⟩:=pz lo hi its.toArray.size;unfold slicePick;rw[h1,h2,h3];simp only[sliceRange_one,pick_run,a9p]<;>rfl
noncomputable def a7j(K:a8z):V->Option Int->Option Int->Hp->VK->Prop:=fun x lo hi H Q=>∃ a xs,x=.ref a/\o7 K H a xs/\∀ p,H p=none->Q (.ref p) (upd H p (.lst (dN xs lo hi)))
theorem N8:a6m X (a7j X.K):=by
 intro c2t s σ H x v vl vu lo hi sl Q I rx hs pl pu h;obtain⟨a,xs,rfl,hx,q⟩:=h;cases rx;obtain⟨its,r,ht,hz⟩:=I.list hx;have hlen:=r.length;refine⟨"list",_,slot_list_getitem.lookup,ht.isList.typeIs,?_⟩;refine b04 ht.isList hs pl pu .none (by simp) ?_ (by rw[a9p]<;>lia);rw[nC,<- hlen];refine⟨.ref s.heap.objs.size,_,I.laid (t':=s.toks) (o:=.lst (dN xs lo hi)) (fun b ob q=>Heap.get?_push_of_some _ q) (a9j _) ?_,rfl,q _ (I.hok.fresh (a9j _))⟩;exact⟨b0n (kG xs lo hi) hz,_,0,(r.drop (HT.cw xs.length 0 lo)).take (HT.cw xs.length xs.length hi - HT.cw xs.length 0 lo),Heap.get?_push_size _ rfl⟩
theorem qf:bP X (.builtin "len") (fun xs H Q=>∃ p ys,xs=[.ref p]/\(o7 X.K H p ys\/aj X.K H p ys)/\Q (.int ys.length) H):=by
 intro c2t s σ H xs us Q I r h;obtain⟨p,ys,rfl,hq,q⟩:=h;obtain⟨u,rfl,rx⟩:=qC r;cases rx;have hn:=pT;rcases hq with hq | hq
 .obtain⟨its,r',pl,hz⟩:=I.list hq;have hlen:=r'.length;exact Calls.call_len_list pl.isList (by simp only[a9p]<;>lia) ⟨.int ys.length,H,I.tok _,⟨s.toks+1,by rw[a9p,hlen]⟩,q⟩
 .obtain⟨its,r',pl,hz⟩:=I.tuple hq;have hlen:=r'.length;exact len_tuple pl (by simp only[a9p]<;>lia) ⟨.int ys.length,H,I.tok _,⟨s.toks+1,by rw[a9p,hlen]⟩,q⟩
theorem qe:bP X (.type "list") (fun xs H Q=>∃ p ys,xs=[.ref p]/\(o7 X.K H p ys\/aj X.K H p ys)/\∀ l,H l=none->Q (.ref l) (upd H l (.lst ys))):=by
 intro c2t s σ H xs us Q I r h;obtain⟨p,ys,rfl,hq,q⟩:=h;obtain⟨u,rfl,rx⟩:=qC r;cases rx;have fin:∀ (its:List Value),x9 ys its->ys.length<=sizeLine->∀ (h':Heap) (c':Nat),(∀ b o',s.heap.get? b=some o'->h'.get? b=some o')->
  h'.get? s.heap.objs.size=some { cls:=.type "list",dict:=none,data:=.seq its.toArray c',slots:=#[] }->EP X c2t σ Q (.ref s.heap.objs.size) { s with heap:=h' }:=fun its r' hz h' c' kp e=>
  ⟨.ref s.heap.objs.size,_,I.laid (t':=s.toks) kp (a9j _) (show bK X.prog X.w _ h' _ (.lst ys) from ⟨hz,its,c',r',e⟩),rfl,q _ (I.hok.fresh (a9j _))⟩
 rcases hq with hq | hq
 .obtain⟨its,r',pl,hz⟩:=I.list hq;have hlen:=r'.length;obtain⟨o,ho,hc,n,hd⟩:=pl.isList;exact call_list_seq p (.inl rfl) ho hc hd (fun h' c' kp e=>fin its r' hz h' c' kp e) (by simp only[a9p]<;>lia)
 .obtain⟨its,r',pl,hz⟩:=I.tuple hq;have hlen:=r'.length;obtain⟨o,ho,hc,n,hd⟩:=pl;exact call_list_seq p (.inr rfl) ho hc hd (fun h' c' kp e=>fin its r' hz h' c' kp e) (by simp only[a9p]<;>lia)
theorem nQ:bP X (.type "tuple") (fun xs H Q=>∃ p ys,xs=[.ref p]/\((o7 X.K H p ys/\∀ l,H l=none->Q (.ref l) (upd H l (.tup ys)))\/(aj X.K H p ys/\Q (.ref p) H))):=by
 intro c2t s σ H xs us Q I r h;obtain⟨p,ys,rfl,h⟩:=h;obtain⟨u,rfl,rx⟩:=qC r;cases rx;rcases h with⟨hq,q⟩ | ⟨hq,q⟩
 .obtain⟨its,r',pl,hz⟩:=I.list hq;have hlen:=r'.length;refine call_tuple_list pl.isList (fun h' kp=>?_) (by simp only[a9p]<;>lia);have I1:n9 X c2t σ H { s with heap:=h' }:=I.kept (t':=s.toks) kp;have I2:n9 X c2t σ (upd H h'.objs.size (.tup ys)) { s with heap:=h'.push { cls:=.type "tuple",data:=.seq its.toArray } }:=
   I1.laid (t':=s.toks) (fun b o e=>Heap.get?_push_of_some _ e) (a9j _) (show bK X.prog X.w _ _ _ (.tup ys) from ⟨hz,its,r',IsTup.new _ _⟩)
  exact⟨.ref h'.objs.size,_,I2,rfl,q _ (I1.hok.fresh (a9j _))⟩
 .obtain⟨its,r',pl,hz⟩:=I.tuple hq;exact call_tuple_same pl ⟨.ref p,H,I,rfl,q⟩
noncomputable def tyV(K:a8z)(T:String)(x:V)(H:Hp):Prop:=match x with
 | .str _=>T = "str"
 | .int _=>T = "int"
 | .ref p=>(T = "list" /\ ∃ xs,o7 K H p xs)\/(T = "tuple" /\ ∃ o,K.lookup p=some o/\o.cls=.type "tuple" /\ o.dict=none)\/
    (T = "dict" /\ ((∃ kvs,H p=some (.dK kvs))\/∃ kvs,H p=some (.dT kvs)))\/(T = "set" /\ ∃ S n,H p=some (.set S n))
 | _=>False
theorem a2e{c2t:List (Addr×Obj)}{σ:St}{H:Hp}{s:a01}{T:String}{x:V}{v:Value}(I:n9 X c2t σ H s)(r:am x v)(ty:tyV X.K T x H) :
 s.TypeIs v T/\∀ a,v=.ref a->∃ ob,s.heap.get? a=some ob/\ob.dict=none:=by
 cases x with
 | str z=>
   obtain⟨t,rfl⟩:=r;cases (show T = "str" from ty);exact⟨typeIs_str s z t,fun _ e=>nomatch e⟩
 | int i=>
   obtain⟨t,rfl⟩:=r;cases (show T = "int" from ty);exact⟨typeIs_int s i t,fun _ e=>nomatch e⟩
 | ref p=>
   cases r;rcases ty with⟨rfl,xs,hq⟩ | ⟨rfl,o,hk,hc,hd⟩ | ⟨rfl,hk⟩ | ⟨rfl,S,n,hk⟩
   .obtain⟨its,_,pl,_⟩:=I.list hq;refine⟨pl.isList.typeIs,fun a e=>?_⟩;cases e;obtain⟨o,n,e,c,hd,_⟩:=pl;exact⟨o,e,hd⟩
   .refine⟨⟨o,I.kIn p o hk,hc⟩,fun a e=>?_⟩;cases e;exact⟨o,I.kIn _ o hk,hd⟩
   .have z:∃ o,s.heap.get? p=some o/\o.ExactDict:=by
     rcases hk with⟨kvs,hk⟩ | ⟨kvs,hk⟩
     .obtain⟨_,_,_,_,o,_,_,e,ex,_⟩:=I.hok p _ hk;exact⟨o,e,ex⟩
     .obtain⟨_,_,_,_,o,_,_,e,ex,_⟩:=I.hok p _ hk;exact⟨o,e,ex⟩
    obtain⟨o,e,ex⟩:=z;refine⟨⟨o,e,ex.1⟩,fun a e2=>?_⟩;cases e2;exact⟨o,e,ex.2.1⟩
   .obtain⟨o,_,_,_,e,ex,_⟩:=I.hok p _ hk;refine⟨⟨o,e,ex.1⟩,fun a e2=>?_⟩;cases e2;exact⟨o,e,ex.2.1⟩
 | _=>exact False.elim ty
noncomputable def qp(K:a8z)(T:String)(r:V->List V->Hp->VK->Prop)(to:TE)(t:TA):TE:=fun σ H Q=>to σ H fun x H1=>tyV K T x H1/\t σ H1 fun xs H2=>r x xs H2 Q
variable {o e:a13} {es:List a13} {to:TE} {t:TA} {name:Str} {apos cpos:Pos} {T id:String} {r:V->List V->Hp->VK->Prop}
theorem a7y(pa:PlainAttrs T)(slot:Slot T name id)(hty:typeOf (.builtin id)=pure (.type "method_descriptor"))(hm:MtR X id r)(ho:PE X o to)(ha:PA X (e::es) t)(hbase:a67 o name X.env (eval o X.env)=eval o X.env:=by rfl)(hfew:((a37 cpos (a11 (e::es) X.env)).all (fun x=>!x.1) && (b00 cpos (a73 [] X.env)).all (fun x=>x.1.isSome)
 && decide ((e::es).length+([]:List Keyword).length+(if ([]:List Keyword).isEmpty then 0 else 1)<30))=true:=by rfl)(hline:(apos.endLine == cpos.line)=true:=by rfl)(hs:a11 (e::es) X.env=(false,eval e X.env)::a11 es X.env:=by rfl)(hplain:(a37 cpos (a11 es X.env)).any (·.1)=false:=by rfl) :
 PE X (.Call (.Attribute o name apos) (e::es) [] cpos) (qp X.K T r to t):=by
 intro c2t s σ H Q I h;refine wpAny_Call_method_late hbase hfew hline rfl (bA (ho c2t s σ H _ I h) fun v s1 ⟨x,H1,I1,r1,ty,q1⟩=>?_);obtain⟨h1,h2⟩:=a2e I1 r1 ty;refine⟨T,id,pa,slot,hty,h1,h2,?_⟩;have hA:=ha cpos c2t s1 σ H1 _ I1 q1;rw[hs] at hA ⊢;refine Calls.callWith_builtin (by show (false || (a37 cpos (a11 es X.env)).any (·.1))=false;rw[hplain]<;>rfl) (Calls.evalArgs_plain ?_);exact bA hA fun us s2 ⟨vs,H2,I2,r2,q2⟩=>hm c2t s2 σ H2 x vs v us Q I2 r1 r2 q2
end
noncomputable def MtM(X:Cx)(id:String)(r:V->List V->Hp->VK->Prop):Prop:=
 ∀ (c2t:List (Addr×Obj)) (s:a01) (σ:St) (H:Hp) (x:V) (xs:List V) (v:Value) (us:List Value) (Q:VK),n9 X c2t σ H s->am x v->x9 xs us->r x xs H Q->
  a07 (a05 X.prog X.w) X.A (call (.builtin id) (v::us)) (EP X c2t σ Q) X.xe s
theorem x9.one:∀ {x:V} {us:List Value},x9 [x] us->∃ u,us=[u]/\am x u
 | _,_,.cons r .nil=>⟨_,rfl,r⟩
theorem x9.reverse{xs:List V}{us:List Value}(h:x9 xs us):x9 xs.reverse us.reverse:=by
 induction h with
 | nil=>exact .nil
 | cons r t ih=>rw[c0n,c0n];exact x9.append ih (.cons r .nil)
section
variable {X:Cx} {c2t:List (Addr×Obj)} {σ:St} {H:Hp} {s:a01} {l b:Addr} {xs ys zs:List V}
theorem n9.lset{its its':List Value}{n:Nat}{f:Array Value->Array Value}{t':Nat}(I:n9 X c2t σ H s)(hH:H l=some (.lst xs))(e:s.heap.get? l=some { cls:=.type "list",data:=.seq its.toArray n })(hf:f its.toArray=its'.toArray)(hv:x9 ys its')(hz:ys.length<=sizeLine) :
 n9 X c2t σ (upd H l (.lst ys)) { s with heap:=s.heap.update l (Obj.mapSeq f),toks:=t' }:=by
 have q:=PySem.IsL.update e f;rw[hf] at q;refine I.write (x:=l) (e:=l) (by rw[hH];exact trivial) (.inl rfl) (fun b' u hb hu=>(Heap.get?_update_other s.heap (Obj.mapSeq f) (Ne.symm hb)).trans hu) ⟨_,q⟩ ?_;exact⟨hz,its',_,hv,q⟩
theorem n9.lnew{its:List Value}{t':Nat}(I:n9 X c2t σ H s)(hv:x9 ys its)(hz:ys.length<=sizeLine) :
 n9 X c2t σ (upd H s.heap.objs.size (.lst ys)) { s with heap:=s.heap.push { cls:=.type "list",data:=.seq its.toArray },toks:=t' }:=
 I.laid (fun _ _ q=>Heap.get?_push_of_some _ q) (a9j _) ⟨hz,its,0,hv,Heap.get?_push_size _ rfl⟩
theorem n9.fresh(I:n9 X c2t σ H s):H s.heap.objs.size=none:=I.hok.fresh (a9j _)
theorem n9.lstM(I:n9 X c2t σ H s)(hH:H l=some (.lst xs)):xs.length<=sizeLine/\∃ (its:List Value) (n:Nat),x9 xs its/\xs.length=its.length/\s.heap.get? l=some { cls:=.type "list",data:=.seq its.toArray n }:=by
 obtain⟨z,its,n,r,e⟩:=I.hok l _ hH;exact⟨z,its,n,r,r.length,e⟩
theorem zQ{n:Nat}(h:n<=sizeLine):Builtin.List.listTooLong n=false:=by
 unfold Builtin.List.listTooLong;exact decide_eq_false (by lia)
end
section
variable {X:Cx}
noncomputable def O5:V->List V->Hp->VK->Prop:=fun x vs H Q=>∃ l xs y,x=.ref l/\vs=[y]/\H l=some (.lst xs)/\xs.length<sizeLine/\Q .non (upd H l (.lst (xs++[y])))
theorem aO:MtM X "list.append" O5:=by
 intro c2t s σ H x vs v us Q I rx rv h;obtain⟨l,xs,y,rfl,rfl,hH,hz,q⟩:=h;cases rx;obtain⟨u,rfl,ru⟩:=rv.one;obtain⟨z,its,n,r,hl,e⟩:=I.lstM hH;refine call_meets F.slot_list_append ⟨_,e,rfl⟩ F.entry_list_append (F.args_list_append_2 _ _) (PySem.list_append l its.toArray n u (by rw[a9p];lia)) ⟨e,?_⟩;refine⟨.non,_,I.lset (its':=its++[u]) hH e (by simp) (r.append (.cons ru .nil)) ?_,rfl,q⟩;rw[a9b,b2d];lia
noncomputable def O4:V->List V->Hp->VK->Prop:=fun x vs H Q=>∃ l b xs zs,x=.ref l/\vs=[.ref b]/\H l=some (.lst xs)/\H b=some (.lst zs)/\xs.length+zs.length<=sizeLine/\Q .non (upd H l (.lst (xs++zs)))
theorem oA:MtM X "list.extend" O4:=by
 intro c2t s σ H x vs v us Q I rx rv h;obtain⟨l,b,xs,zs,rfl,rfl,hH,hB,hz,q⟩:=h;cases rx;obtain⟨u,rfl,ru⟩:=rv.one;cases ru;obtain⟨z,its,n,r,hl,e⟩:=I.lstM hH;obtain⟨z2,its2,n2,r2,hl2,e2⟩:=I.lstM hB;have hsz:its.toArray.size+its2.toArray.size<=sizeLine:=by rw[a9p,a9p];lia
 have hlong:¬ (!its.toArray.isEmpty && Builtin.List.listTooLong (its.toArray.size+its2.toArray.size))=true:=by
  rw[zQ hsz,Bool.and_false];exact b0a
 refine call_meets F.slot_list_extend ⟨_,e,rfl⟩ F.entry_list_extend (F.args_list_extend_2 _ _)
  (AutoSeq1.list_extend_list_list_0 l its.toArray n b its2.toArray n2 hlong (by rw[a9p];lia) (by lia)) ⟨e,e2,?_⟩
 refine⟨.non,_,I.lset (its':=its++its2) hH e (by simp) (r.append r2) ?_,rfl,q⟩;rw[a9b];lia
noncomputable def rCat:R2:=fun x y H Q=>∃ l b xs zs,x=.ref l/\y=.ref b/\H l=some (.lst xs)/\H b=some (.lst zs)/\xs.length+zs.length<=sizeLine/\∀ p,H p=none->Q (.ref p) (upd H p (.lst (xs++zs)))
theorem jR:iH X (a36 .Add) rCat:=by
 intro c2t s σ H x y v u Q I rx ry h;obtain⟨l,b,xs,zs,rfl,rfl,hH,hB,hz,q⟩:=h;cases rx;cases ry;obtain⟨z,its,n,r,hl,e⟩:=I.lstM hH;obtain⟨z2,its2,n2,r2,hl2,e2⟩:=I.lstM hB;refine PySem.P.add_list e e2 ?_ (by rw[a9p,a9p];lia);have ea:its.toArray++its2.toArray=(its++its2).toArray:=by simp
 rw[ea];exact⟨.ref _,_,I.lnew (t':=s.toks) (r.append r2) (by rw[a9b];lia),rfl,q _ I.fresh⟩
end
section
variable {prog:a15} {w:a20} {A:a19} {E:Value->a01->Prop} {s:a01}
set_option maxRecDepth 100000 in
end
end L2
namespace Att
open PySem PySem.W PySem.Calls PyProof.Rows
theorem kM{P:Params}{h:Heap}:∀ (ns:List Int) (vs:List Value),WellAll P h vs (ns.map WData.int)->a78 vs ns:=by
 intro ns;induction ns with
 | nil=>
   intro vs w;rw[b4n] at w;cases w;exact .nil
 | cons n ns ih=>
   intro vs w;rw[b1q] at w;cases w with
   | cons a b=>
     cases a;exact .cons _ _ (ih _ b)
theorem wz{l:OpenLaw}{n:Nat}(hn:l.most=some n){P:Params}{h:Heap}{args:List WData}{vals:List Value}(hpre:l.row.toRowW.claim.pre args=true)(hwl:WellAll P h vals args) :
 ∃ a vs ns,vals=[Value.ref a]/\args=[WData.list (ns.map WData.int)]/\h.get? a=some { cls:=.type "list",data:=.seq vs.toArray }/\a78 vs ns/\ns.length<=n:=by
 have hsh:WShape.hasAll [] args [.list .int]=true:=(pre_splitW hpre).1;have hc:l.pre.holds [] { args:=args }=true:=(pre_splitW hpre).2;obtain⟨d,r,rfl,h1,h2⟩:=hasAllW_cons hsh;obtain rfl:=hasAllW_nil h2;obtain⟨xs,rfl,h3⟩:=hasW_list h1;obtain⟨ns,rfl⟩:=items_int h3;have hlen:ns.length<=n:=by
  unfold OpenLaw.pre at hc;have h4:(WTm.not (.lt (.lit (.int (n:Int))) (.len (.arg 0)))).holds [] { args:=[.list (ns.map .int)] }=true:=by
   have h4:=(holds_andW hc).1;rw[hn] at h4;exact h4
  have h5:=condW_of h4 (w_not (w_lt w_lit (w_len_list (w_arg rfl))));rw[a9a] at h5;refine b8b fun q=>?_;have q':(n:Int)<((ns.length:Nat):Int):=by lia
  first
   | (rw[decide_eq_true q'] at h5;exact absurd h5 (by decide))
   | (simp at h5;lia)
 cases hwl with
 | cons w1 w2=>
   cases w2;cases w1 with
   | list ho hall=>exact⟨_,_,ns,rfl,rfl,ho,kM ns _ hall,hlen⟩
theorem wF(l:OpenLaw)(args:List WData):l.row.toRowW.claim.post args (.bool true) args=true:=
 postW_of (r:=l.row.toRowW) (X:=(true == true))
  (show WShape.has [] (.bool true) .bool=true by first | rfl | decide | simp[WShape.has,WShape.arms,WShape.armsAll])
  (show (WTm.eq .res (.lit (.bool true))).value [] { args:=args,res:=some (.bool true),after:=args }=some (.bool (true == true)) from w_eq_bool (w_res rfl) w_lit) rfl
theorem sf{l:OpenLaw}{n:Nat}{q:a15}{loose:List Str}{XP:(Str->Option Value)->Heap->Prop}{YP:a20->Heap->Prop}{d:DefRec}(hn:l.most=some n)(hdf:d.params.defaults=[])(call:∀ (w:a20) (s₀ s₁:a01) (mg mb:Str->Option Value) (fa:Addr) (o:Obj) (pm cd doc:Value) (a:Addr) (vs:List Value) (ns:List Int),
 Ground q loose [] XP w s₀ mg mb s₁.heap->YP w s₁.heap->
 s₁.heap.get? fa=some o->o.data=.func (docDef d.name d.params d.body d.scope pm cd doc)->s₁.heap.CodeRec cd d.name->mg d.name=some (.ref fa)->
 s₁.heap.get? a=some { cls:=.type "list",data:=.seq vs.toArray }->a78 vs ns->ns.length<=n->s₁.gens = #[]->
 a25 (a05 l.prog w) a77 (.call (.ref fa) ⟨[.ref a],[]⟩) (fun r s'=>r=.ok (.ret (.bool true))/\OldK s₁.heap s'.heap/\s'.os=s₁.os/\a64 s'.gens) s₁) :
 WalkO q loose XP YP l.row.toRowW d [] (fun f vs=>PySem.call f vs):=by
 intro w s₀ s₁ mg mb G Y fa o pm cd doc dV kV ho hd hcd hD hmg hg args vals as hpre hlay hrd hwl hlo;obtain rfl:dV=.none:=Dflts.none hD hdf;obtain rfl:kV=.none:=Dflts.noKw hD;obtain⟨a,vs,ns,rfl,rfl,hobj,hints,hlen⟩:=wz hn hpre hwl;refine enter_call (a49 (call w s₀ s₁ mg mb fa o pm cd doc a vs ns G Y ho (fd_plain hd) hcd hmg hobj hints hlen hg) fun r s' hq=>?_);obtain⟨rfl,h2,h3,h4⟩:=hq;exact⟨.inl ⟨.bool true,.bool true,[],rfl,fun _=>rfl,.bool true,wF l _,fun _=>⟨b4c.nil,fun _ hm=>(nomatch hm)⟩⟩,h2,h3,h4⟩
end Att
namespace L2
open PySem PySem.Spec PyProof.Rows
theorem nU:∀ {vs:List Value} {ns:List Int},a78 vs ns->x9 (ns.map V.int) vs
 | _,_,.nil=>.nil
 | _,_,.cons n t h=>.cons ⟨t,rfl⟩ (nU h)
noncomputable def a0e(H:Hp):Prop:=∀ b,H b=none\/∃ o xs,H b=some (.frz o (.lst xs))
theorem B8{P:a15}{w:a20}{K:a8z}{mg mb:Str->Option Value}{CX:sq}{k:Nat}{fa a:Addr}{fd:a34}{x:Str}{sp:Sp}{s₁:a01}{vs:List Value}{ns:List Int}(KX:K.In s₁.heap)(hns:s₁.heap.Ns a12 mg)(hb:s₁.heap.Ns builtinsNs mb)(hbb:∀ x:Str,x ≠ "__name__" -> mb x=a39 x)(hlim:s₁.heap.NoLimit)(hg:s₁.gens = #[])(ha:s₁.heap.get? a=some { cls:=.type "list",data:=.seq vs.toArray })(hi:a78 vs ns)(hl:ns.length<=sizeLine)(hr:bI k a77)(F:∀ base:Heap,K.In base->base.Ns a12 mg->jB P w K mg base CX k fa fd [x] sp)(hbind:∀ (s:a01) (u:Value),a93 s fd ⟨[u],[]⟩ [(x,u)])(hsp:∀ H:Hp,a0e H->o7 K H a (ns.map V.int)->sp [.ref a] H (fun v _=>v=.bl true) fun _ _ _=>False)(hCX:∀ H e s',CX [] H s₁ (fun _ _ _=>False) e s'->False) :
 a25 (a05 P w) a77 (.call (.ref fa) ⟨[.ref a],[]⟩) (fun r s'=>r=.ok (.ret (.bool true))/\OldK s₁.heap s'.heap/\s'.os=s₁.os/\a64 s'.gens) s₁:=by
 have rv:=nU hi;have lenV:=hi.length;have core:∀ H:Hp,a0e H->o7 K H a (ns.map V.int)->jD P w H s₁.heap->(∀ b,H b≠none->b=a)->(H a≠none->K.lookup a=none)->
  a25 (a05 P w) a77 (.call (.ref fa) ⟨[.ref a],[]⟩) (fun r s'=>r=.ok (.ret (.bool true))/\OldK s₁.heap s'.heap/\s'.os=s₁.os/\a64 s'.gens) s₁:=by
  intro H hO hS hok hA hK;have base_of:∀ {b:Addr} {o:Obj},s₁.heap.get? b=some o->H b=none->(pW s₁.heap H).get? b=some o:=fun e n=>E5 e n;have noA:∀ {b:Addr} {o:Obj} {es:Array DictEntry} {ep:Nat},s₁.heap.get? b=some o->o.data=.dict es ep->H b=none:=fun {b o es ep} e d=>by
   cases q:H b with
   | none=>rfl
   | some u=>
     have e':b=a:=hA b (by rw[q];simp);subst e';rw[ha] at e;cases e;have d':Data.seq vs.toArray _=Data.dict es ep:=d;cases d'
  have nsK:∀ {b:Addr} {m:Str->Option Value},s₁.heap.Ns b m->(pW s₁.heap H).Ns b m:=fun {b m} ⟨o,es,ep,e,d,r⟩=>⟨o,es,ep,base_of e (noA e d),d,r⟩
  have hKb:K.In (pW s₁.heap H):=fun b o e=>base_of (KX b o e) (by
   cases q:H b with
   | none=>rfl
   | some u=>
     have e':b=a:=hA b (by rw[q];simp);subst e';rw[hK (by rw[q];simp)] at e;cases e)
  have hM:Mod K mg (pW s₁.heap H):=⟨hKb,nsK hns,⟨mb,nsK hb,hbb⟩,let ⟨mc,h1,h2⟩:=hlim;⟨mc,nsK h1,h2⟩⟩
  have e0:uG P w K mg (pW s₁.heap H) a77 [] s₁ H:=⟨rfl,hM,fun b o e=>U2 e,b8j (xp _ _),trivial,fun b hb=>absurd (show b∈([]:List Addr) from hb) (by simp),hok,.of_eq hg⟩
  refine a49 ((F _ hKb (nsK hns)).run a77 [] s₁ H ⟨[.ref a],[]⟩ [.ref a] [.ref a] _ _ hr e0 (hbind s₁ (.ref a)) (.cons rfl .nil) (hsp H hO hS)) fun r s' h=>?_;cases r with
  | error e=>exact (hCX H e s' h).elim
  | ok fl=>
    cases fl with
    | next=>exact False.elim h
    | brk=>exact False.elim h
    | cont=>exact False.elim h
    | ret u=>
      obtain⟨v,H',os,bare,un,hok',r',q⟩:=h;have q':v=.bl true:=q;subst q';obtain rfl:u=Value.bool true:=r';refine⟨rfl,OldK.of_keep fun b o e=>?_,os,bare⟩;cases q:H b with
      | none=>exact un.keep b o e q (by intro z;exact absurd (show b∈([]:List Addr) from z) (by simp)) (by simp)
      | some u=>
        rcases hO b with z | ⟨ob,xs,z⟩
        .rw[q] at z;cases z
        .have z2:=un.frzs b ob _ z;obtain⟨e1,_⟩:=hok b _ z;obtain⟨e2,_⟩:=hok' b _ z2;rw[e] at e1;cases e1;exact e2
 cases hk:K.lookup a with
 | some o=>
   have e:=KX a o hk;rw[ha] at e;cases e;refine core (fun _=>none) (fun _=>.inl rfl) (.inr ⟨_,vs.toArray,_,hk,rfl,rfl,rfl,by rw[a9p,lenV];exact hl,by simpa using rv⟩) (fun b u z=>by have z':(none:Option HO)=some u:=z;cases z') (fun b z=>absurd rfl z) fun z=>absurd rfl z
 | none=>
   refine core (fun b=>if b=a then some (.frz { cls:=.type "list",data:=.seq vs.toArray } (.lst (ns.map V.int))) else none) (fun b=>?_) (.inl (.inr ⟨{ cls:=.type "list",data:=.seq vs.toArray },if_pos rfl⟩)) (fun b u z=>?_) (fun b z=>?_) fun _=>hk
   .by_cases hb:b=a
    .exact .inr ⟨_,_,if_pos hb⟩
    .exact .inl (if_neg hb)
   .by_cases hb:b=a
    .have z':=(if_pos hb).symm.trans z;cases z';subst hb;exact⟨ha,by rw[a9a];exact hl,vs,_,rv,ha⟩
    .have z':=(if_neg hb).symm.trans z;cases z'
   .by_cases hb:b=a
    .exact hb
    .exact absurd (if_neg hb) z
theorem N2{l:c1c}{n k:Nat}{q:a15}{loose:List Str}{XP:(Str->Option Value)->Heap->Prop}{YP:a20->Heap->Prop}{d:DefRec}{K:Params->a8z}{CX:a20->sq}{sp:a20->Sp}{x:Str}(hn:l.most=some n)(hn2:n<=sizeLine)(hdf:d.params.defaults=[])(hr:bI k a77)(hY:∀ (w:a20) (h:Heap),YP w h->(K w.params).In h)(F:∀ (w:a20) (mg:Str->Option Value) (fa:Addr) (h:Heap),(K w.params).In h->h.Ns a12 mg->mg d.name=some (.ref fa)->
 ∃ fd:a34,(∀ (s:a01) (u:Value),a93 s fd ⟨[u],[]⟩ [(x,u)])/\
  ∀ base:Heap,(K w.params).In base->base.Ns a12 mg->jB l.prog w (K w.params) mg base (CX w) k fa fd [x] (sp w))(hsp:∀ (w:a20) (H:Hp) (a:Addr) (ns:List Int),ns.length<=n->a0e H->o7 (K w.params) H a (ns.map V.int)->sp w [.ref a] H (fun v _=>v=.bl true) fun _ _ _=>False)(hCX:∀ (w:a20) (H:Hp) (s:a01) (e:Value) (s':a01),CX w [] H s (fun _ _ _=>False) e s'->False) :
 PySem.W.WalkO q loose XP YP l.row.toRowW d [] (fun f vs=>PySem.call f vs):=by
 refine Att.sf hn hdf fun w s₀ s₁ mg mb fa o pm cd doc a vs ns G Y ho hd hcd hmg hobj hints hlen hg=>?_;have KX:=hY w _ Y;obtain⟨fd,hb,hF⟩:=F w mg fa _ KX G.T.g hmg;exact B8 KX G.T.g G.T.b G.T.builtins G.T.nolimit hg hobj hints (b0n hlen hn2) hr hF hb (fun H hO hS=>hsp w H a ns hlen hO hS) fun H e s'=>hCX w H s₁ e s'
noncomputable def vK(s:Stmt)(j:Nat):Stmt:=match s with
 | .ClassDef _ _ _ body _ _ _ _ _ _ _=>body.getD j (.Pass ⟨0,0,0,0⟩)
 | _=>.Pass ⟨0,0,0,0⟩
noncomputable def bu(s:Stmt):Arguments:=match s with
 | .FunctionDef _ a _ _ _ _ _ _ _ _=>a
 | _=>{ posonlyargs:=[],args:=[],vararg:=none,kwonlyargs:=[],kw_defaults:=[],kwarg:=none,defaults:=[] }
noncomputable def x8(s:Stmt):List Stmt:=match s with
 | .FunctionDef _ _ b _ _ _ _ _ _ _=>b
 | _=>[]
noncomputable def d4(s:Stmt):Scope:=match s with
 | .FunctionDef _ _ _ _ _ _ sc _ _ _=>sc
 | _=>{ kind:=.function,names:=[],isGenerator:=false,isCoroutine:=false }
abbrev z8:sq:=fun _ _ _ _ _ _=>False
abbrev E0:XK:=fun _ _ _=>False
theorem j7{X:Cx}:bJ z8 X E0:=fun _ _ _ _ _ _ _ h=>h.elim
structure a6e(K:a8z)(x qual:Str)(st:Stmt)(f:Addr)(fd:a34):Prop where
 ex:∃ (oc:Value) (od:Option Addr) (kV doc pm:Value) (an:Option Addr) (cdv ct:Value) (osl:Array (Option Value)),
  fd=b1n x qual (bu st) (x8 st) (d4 st) .none kV doc pm an cdv ct/\K.lookup f=some ⟨oc,od,.func fd,osl⟩/\b2l K cdv qual=true
 kp:b1h K (.ref f)=true
section
variable {P:a15} {w:a20} {K:a8z} {mg:Str->Option Value} {base:Heap}
theorem a6e.ok{x qual:Str}{st:Stmt}{f:Addr}{fd:a34}{N ps:List Str}{k:Nat}{sp:Sp}(F:a6e K x qual st f fd)(S:j6 N ps (d4 st))(len:∀ vs H Q E,sp vs H Q E->vs.length=ps.length)(hbody:∀ (cdv:Value) (A:a19) (outer:List Env) (s:a01) (H:Hp) (vs:List V) (Q:VK) (E:XK),bI k (A.deeper (a60 qual (d4 st) s.heap.objs.size f cdv))->sp vs H Q E->
 ∃ t,qu (dM z8 P w K mg base N qual (d4 st) f cdv A outer s H E).nox (x8 st) t/\t { nx:=fun _ H'=>Q .non H',rt:=Q } (eF N vs) H):jB P w K mg base z8 (k+1) f fd ps sp:=by
 obtain⟨oc,od,kV,doc,pm,an,cdv,ct,osl,rfl,lk,hcd⟩:=F.ex;refine a1o lk hcd S len fun A outer s H vs Q E hr hsp=>?_;obtain⟨t,h,q⟩:=hbody cdv A outer s H vs Q E hr hsp;exact⟨t,h.nox,q⟩
theorem a6e.binds{x qual:Str}{st:Stmt}{f:Addr}{fd:a34}{ps:List Str}(F:a6e K x qual st f fd)(h:∀ (kV doc pm:Value) (an:Option Addr) (cdv ct:Value) (us:List Value),us.length=ps.length->a99 (b1n x qual (bu st) (x8 st) (d4 st) .none kV doc pm an cdv ct) ⟨us,[]⟩=pure (ps.zip us)):fC K fd ps []:=by
 obtain⟨oc,od,kV,doc,pm,an,cdv,ct,osl,rfl,lk,hcd⟩:=F.ex;exact .all (h kV doc pm an cdv ct)
theorem G0{x qual:Str}{st:Stmt}{f:Addr}{oc:Value}{od an:Option Addr}{osl:Array (Option Value)}{kV doc pm cdv ct:Value}(l:K.lookup f=some ⟨oc,od,.func (b1n x qual (bu st) (x8 st) (d4 st) .none kV doc pm an cdv ct),osl⟩)(c:b2l K cdv qual=true)(k:b1h K (.ref f)=true):a6e K x qual st f (b1n x qual (bu st) (x8 st) (d4 st) .none kV doc pm an cdv ct):=⟨⟨oc,od,kV,doc,pm,an,cdv,ct,osl,rfl,l,c⟩,k⟩
end
theorem wx{n:Nat}(h:n<=1000):n<sizeLine:=b2s h (by decide)
section
variable {X:Cx}
theorem pv(i:Nat){x:Str}{pos:Pos}(hN:X.N[i]?=some x:=by rfl)(hv:a8p X.env.scope x:=by first | exact Or.inl rfl | exact Or.inr (Or.inl rfl) | exact Or.inr (Or.inr rfl))(hd:(x == ("__debug__" : Str))=false:=by decide)(hcd:(x == ("__classdict__" : Str))=false:=by decide):PE X (.Name x pos) (a2j i):=a3q hN hv hd hcd
end
theorem C5{A B:Prop}(h:B):if false=true then A else B:=by
 rw[if_neg b0a];exact h
theorem xm{A B:Prop}(h:A):if true=true then A else B:=by
 rw[if_pos rfl];exact h
theorem a8f{c A B:Prop}[Decidable c](hc:c)(h:B):if (!decide c)=true then A else B:=by
 rw[decide_eq_true hc];exact C5 h
noncomputable def b9(H H':Hp):Prop:=∀ b o,H b=some o->H' b=some o
theorem b9.refl(H:Hp):b9 H H:=fun _ _ h=>h
theorem b9.trans{H H1 H2:Hp}(a:b9 H H1)(b:b9 H1 H2):b9 H H2:=fun c o h=>b c o (a c o h)
theorem b9.free{H H':Hp}(e:b9 H H'){l:Addr}(h:H' l=Option.none):H l=Option.none:=by
 cases q:H l with
 | none=>rfl
 | some o=>
   rw[e l o q] at h;cases h
theorem b9.seq{K:a8z}{H H':Hp}{a:Addr}{xs:List V}(e:b9 H H')(h:o7 K H a xs):o7 K H' a xs:=by
 rcases h with (h | ⟨o,h⟩) | h
 .exact .inl (.inl (e _ _ h))
 .exact .inl (.inr ⟨o,e _ _ h⟩)
 .exact .inr h
end L2
namespace Cv
structure Sz(n:Nat)(x:Int):Prop where
 lt:x.natAbs<2^n
theorem Sz.mono{n m:Nat}{x:Int}(h:Sz n x)(hm:n<=m):Sz m x:=⟨b0k h.lt (b4u (by decide) hm)⟩
theorem Sz.le{n:Nat}{x y:Int}(h:Sz n x)(hy:y.natAbs<=x.natAbs):Sz n y:=⟨b2s hy h.lt⟩
theorem Sz.mul{n m:Nat}{x y:Int}(h:Sz n x)(k:Sz m y):Sz (n+m) (x*y):=by
 refine⟨?_⟩;rw[b3q,Nat.pow_add];exact Nat.mul_lt_mul'' h.lt k.lt
theorem Sz.add{n m:Nat}{x y:Int}(h:Sz n x)(k:Sz m y):Sz (max n m+1) (x+y):=by
 refine⟨?_⟩;have h1:=(h.mono (Nat.le_max_left n m)).lt;have h2:=(k.mono (Nat.le_max_right n m)).lt;have h3:=Int.natAbs_add_le x y;rw[b4o];lia
theorem Sz.neg{n:Nat}{x:Int}(h:Sz n x):Sz n (-x):=⟨by rw[Int.natAbs_neg];exact h.lt⟩
theorem Sz.sub{n m:Nat}{x y:Int}(h:Sz n x)(k:Sz m y):Sz (max n m+1) (x - y):=by
 rw[b9z];exact h.add k.neg
theorem Sz.one:Sz 1 1:=⟨by decide⟩
theorem Sz.zero:Sz 0 0:=⟨by decide⟩
structure Bd(n:Nat)(q:Rat):Prop where
 num:Sz n q.num
 den:Sz n (q.den:Int)
theorem Bd.mono{n m:Nat}{q:Rat}(h:Bd n q)(hm:n<=m):Bd m q:=⟨h.num.mono hm,h.den.mono hm⟩
theorem tw(a b:Int)(hb:b≠0):(a9e a b).num.natAbs<=a.natAbs/\(a9e a b).den<=b.natAbs:=by
 refine⟨?_,?_⟩
 .rw[Rat.num_divInt];have h2:(b.sign*a).natAbs=a.natAbs:=by
   rw[b3q,Int.natAbs_sign_of_ne_zero hb,Nat.one_mul]
  have hd:(b.gcd a:Int)∣b.sign*a:=Int.dvd_mul_of_dvd_right (b7p ..);rw[<- h2];have:=Int.natAbs_ediv_of_dvd hd;rw[this];exact Nat.div_le_self _ _
 .rw[Rat.den_divInt,if_neg hb];exact Nat.div_le_self _ _
theorem Bd.of{n m:Nat}{a b:Int}(ha:Sz n a)(hb:Sz m b)(h0:b≠0):Bd (max n m) (a9e a b):=
 ⟨(ha.mono (Nat.le_max_left n m)).le (tw a b h0).1,(hb.mono (Nat.le_max_right n m)).le (by rw[b5m];exact (tw a b h0).2)⟩
theorem j'(q:Rat):(q.den:Int)≠0:=by have:=q.den_pos;lia
theorem a2o(a b:Rat):a9e (a.num*b.den - b.num*a.den) ((a.den:Int)*b.den)=a - b:=by
 have:=Rat.divInt_sub_divInt a.num b.num (j' a) (j' b);rw[b2f,b2f] at this;exact this.symm
theorem tZ(a b:Rat):(a.den:Int)*b.den≠0:=Int.mul_ne_zero (j' a) (j' b)
theorem Bd.sub{n m:Nat}{a b:Rat}(h:Bd n a)(k:Bd m b):Bd (n+m+1) (a - b):=by
 rw[<- a2o];exact (Bd.of ((h.num.mul k.den).sub (k.num.mul h.den)) (h.den.mul k.den) (tZ a b)).mono (by lia)
theorem jK(t b:Int)(hb:0<b):t.fdiv (a9r t b)=(a9e t b).num/\b.fdiv (a9r t b)=((a9e t b).den:Int):=by
 rw[Rat.num_divInt,Rat.den_divInt,if_neg (by lia),Int.sign_eq_one_of_pos hb,b7f,b8l b t];refine⟨b0v _ (b5n _),?_⟩;rw[b0v _ (b5n _),Int.natCast_ediv,Int.natAbs_of_nonneg (b3j hb)]
theorem wy(t b:Int)(hb:b<0):t.fdiv (-(a9r t b:Int))=(a9e t b).num/\b.fdiv (-(a9r t b:Int))=((a9e t b).den:Int):=by
 have h:=jK (-t) (-b) (by lia);rw[Rat.neg_divInt_neg,Int.neg_gcd,Int.gcd_neg] at h;rw[<- Int.neg_fdiv_neg,Int.neg_neg,<- Int.neg_fdiv_neg b,Int.neg_neg];exact h
theorem rP(a b:Int):a9r b (a.fmod b)=a9r a b:=by
 rw[Int.fmod_def,b9z,<- Int.mul_neg,Int.gcd_add_mul_left_right,b8l]
theorem X7(a b:Int)(hb:b≠0):(a.fmod b).natAbs<b.natAbs:=by
 rw[Int.fmod_eq_emod];have h1:=b4e a hb;have h2:=Int.emod_lt a hb;by_cases h:0<=b\/b∣a
 .rw[if_pos h];lia
 .rw[if_neg h];have h3:a % b≠0:=fun z=>h (.inr (Int.dvd_of_emod_eq_zero z));lia
theorem gcd_zero(a:Int):(if a<0 then -a else a)=(a9r a 0:Int):=by
 rw[Int.gcd_zero];split<;>lia
theorem rQ(t b:Int)(hb:b≠0):(a9r t b:Int)≠0:=by
 have:=b6y t hb;lia
theorem kF(a b:Int):a9e a b=(a:Rat) / (b:Rat):=b0t a b
theorem fW(q:Rat):(q.num:Rat)=q*((q.den:Int):Rat):=by
 have h:=b2f q;rw[b0t] at h;have hd:((q.den:Int):Rat)≠0:=by
  intro z;exact j' q (by exact_mod_cast z)
 conv=>rhs;rw[<- h]
 grind
theorem rV(q:Rat):((q.den:Int):Rat)≠0:=by
 intro z;exact j' q (by exact_mod_cast z)
theorem oE{q:Rat}{t b:Int}(hb:b≠0)(h:q*(b:Rat)=(t:Rat)):q=a9e t b:=by
 rw[b0t];have hb':(b:Rat)≠0:=by
  intro z;exact hb (by exact_mod_cast z)
 grind
end Cv
namespace Cv
open PySem PySem.Spec PyProof.Rows L2
section
variable {X:Cx}
noncomputable def a8w(i j:Int):Prop:=∃ n m,Sz n i/\Sz m j/\n+m<=100000000
noncomputable def a8x(_i j:Int):Prop:=j≠0/\Sz 9000 j
theorem bH:iH X (a36 .FloorDiv) (rI a8x fun i j=>.int (i.fdiv j)):=a4g fun i j _ _ _ _ _ hc q=>by
 obtain⟨h0,h1⟩:=hc;refine floordiv_int h0 q (.inl (PyProof.noPylong_of_log2 ?_));have hp:j.natAbs≠0:=by lia
 exact (Nat.log2_lt hp).mpr h1.lt
theorem fG{x:V}{us:List Value}(r:x9 [x] us):∃ u,us=[u]/\am x u:=by
 cases r with
 | cons p q=>cases q;exact⟨_,rfl,p⟩
theorem iN{x y:V}{us:List Value}(r:x9 [x,y] us):∃ u v,us=[u,v]/\am x u/\am y v:=by
 cases r with
 | cons p q=>
   obtain⟨v,rfl,p'⟩:=fG q;exact⟨_,_,rfl,p,p'⟩
theorem K2:bP X (.builtin "isinstance") (fun xs H Q=>∃ x T t b,xs=[x,.ty T]/\fD X.K H x t/\b1i X.K t (.type T)=some b/\Q (.bl b) H):=by
 intro c2t s σ H xs us Q I r h;obtain⟨x,T,t,b,rfl,ty,e,q⟩:=h;obtain⟨u,v,rfl,ru,rv⟩:=iN r;cases rv;exact xn I ru ty e fun tk=>⟨.bl b,H,I.tok tk,rfl,q⟩
mutual
noncomputable def Dn(K:a8z)(H:Hp):b1p->V->Prop
 | .none,v=>v=.non
 | .bool b,v=>v=.bl b
 | .int i,v=>v=.int i
 | .str x,v=>v=.str x
 | .bytes _,_=>False
 | .tuple ds,v=>∃ a xs,v=.ref a/\aj K H a xs/\bj K H ds xs
 | .list ds,v=>∃ a xs,v=.ref a/\o7 K H a xs/\bj K H ds xs
noncomputable def bj(K:a8z)(H:Hp):List b1p->List V->Prop
 | [],xs=>xs=[]
 | d::ds,xs=>∃ y ys,xs=y::ys/\Dn K H d y/\bj K H ds ys
end
mutual
theorem ge{c2t:List (Addr×Obj)}{σ:L2.St}{H:Hp}{s:a01}(I:n9 X c2t σ H s):∀ (n:Nat) (d:b1p) (v:V) (u:Value),Dn X.K H d v->am v u->a9y n d=true->∃ as,Reads s.heap u (b3y d) as
 | n,.none,v,u,h,r,_=>by
   cases (show v=.non from by simpa [Dn] using h);cases r;rw[b3y];exact⟨_,Reads.none⟩
 | n,.bool b,v,u,h,r,_=>by
   cases (show v=.bl b from by simpa [Dn] using h);cases r;rw[b3y];exact⟨_,Reads.bool b⟩
 | n,.int i,v,u,h,r,_=>by
   cases (show v=.int i from by simpa [Dn] using h);obtain⟨t,rfl⟩:=r;rw[b3y];exact⟨_,Reads.int i t⟩
 | n,.str x,v,u,h,r,_=>by
   cases (show v=.str x from by simpa [Dn] using h);obtain⟨t,rfl⟩:=r;rw[b3y];exact⟨_,Reads.str x t⟩
 | n,.bytes b,v,u,h,r,_=>by simp[Dn] at h
 | 0,.tuple ds,v,u,h,r,hk=>by simp[a9y] at hk
 | 0,.list ds,v,u,h,r,hk=>by simp[a9y] at hk
 | n+1,.tuple ds,v,u,h,r,hk=>by
   rw[Dn] at h;obtain⟨a,xs,rfl,hs,hd⟩:=h;cases r;obtain⟨its,rv,⟨o,ho,hc,m,hdt⟩,hz⟩:=I.tuple hs;obtain⟨as,q⟩:=gc I n ds xs its hd rv (by simpa [a9y] using hk);rw[b3y];exact⟨as,reads_tuple_at ho hc hdt (by simpa using q)⟩
 | n+1,.list ds,v,u,h,r,hk=>by
   rw[Dn] at h;obtain⟨a,xs,rfl,hs,hd⟩:=h;cases r;obtain⟨its,rv,pl,hz⟩:=I.list hs;obtain⟨o,ho,hc,m,hdt⟩:=pl.isList;obtain⟨as,q⟩:=gc I n ds xs its hd rv (by simpa [a9y] using hk);rw[b3y];exact⟨_,reads_list_at ho hc hdt (by simpa using q)⟩
theorem gc{c2t:List (Addr×Obj)}{σ:L2.St}{H:Hp}{s:a01}(I:n9 X c2t σ H s):∀ (n:Nat) (ds:List b1p) (xs:List V) (us:List Value),bj X.K H ds xs->x9 xs us->(∀ d∈ds,a9y n d=true)->∃ as,ReadsAll s.heap us (b9x ds) as
 | n,[],xs,us,h,r,_=>by
   cases (show xs=[] from by simpa [bj] using h);cases r;rw[b9x];exact⟨_,ReadsAll.nil⟩
 | n,d::ds,xs,us,h,r,hk=>by
   rw[bj] at h;obtain⟨y,ys,rfl,h1,h2⟩:=h;cases r with
   | cons p q=>
     obtain⟨as,r1⟩:=ge I n d y _ h1 p (hk d (.head _));obtain⟨bs,r2⟩:=gc I n ds ys _ h2 q fun e he=>hk e (.tail _ he);rw[b9x];exact⟨_,ReadsAll.cons r1 r2⟩
end
theorem gy{d:b1p}(h:a9y 8 d=true):SeqAt.shaped (b3y d)=true:=by
 have la:=PySem.W.kqd_lay 8 d h;unfold SeqAt.shaped;rw[la.1,Bool.true_and];exact decide_eq_true (b0n la.2 (by decide))
noncomputable def a7o(K:a8z):R2:=fun x y H Q=>∃ d e,Dn K H d x/\Dn K H e y/\a9y 8 d=true/\a9y 8 e=true/\∀ b:Bool,(b=true↔d=e)->Q (.bl b) H
noncomputable def a7l(K:a8z):R2:=fun x y H Q=>∃ d e,Dn K H d x/\Dn K H e y/\a9y 8 d=true/\a9y 8 e=true/\∀ b:Bool,(b=true↔d=e)->Q (.bl (!b)) H
theorem a4f(hu:X.A.units+64<cLine):iH X (a32 .Eq) (a7o X.K):=by
 intro c2t s σ H x y v u Q I rx ry h;obtain⟨d,e,hd,he,k1,k2,q⟩:=h;obtain⟨as,r1⟩:=ge I 8 d x v hd rx k1;obtain⟨bs,r2⟩:=ge I 8 e y u he ry k2;exact eq_dataH r1 r2 (gy k1) (gy k2) hu ⟨.bl _,H,I,rfl,q _ (c1d 8 d e 8 k1 k2)⟩
theorem a4d(hu:X.A.units+64<cLine):iH X (a32 .NotEq) (a7l X.K):=by
 intro c2t s σ H x y v u Q I rx ry h;obtain⟨d,e,hd,he,k1,k2,q⟩:=h;obtain⟨as,r1⟩:=ge I 8 d x v hd rx k1;obtain⟨bs,r2⟩:=ge I 8 e y u he ry k2;exact ne_dataH r1 r2 (gy k1) (gy k2) hu ⟨.bl _,H,I,rfl,q _ (c1d 8 d e 8 k1 k2)⟩
end
noncomputable def bh(H:Hp)(v:V)(q:Rat):Prop:=∃ a,v=.ref a/\H a=some (.tup [.int q.num,.int (q.den:Int)])
theorem bh.same{H H':Hp}{v:V}{q:Rat}(h:bh H v q)(e:b9 H H'):bh H' v q:=by
 obtain⟨a,rfl,h⟩:=h;exact⟨a,rfl,e _ _ h⟩
noncomputable def gi(q:Rat):b1p:=.tuple [.int q.num,.int (q.den:Int)]
theorem eO(q:Rat)(n:Nat):a9y (n+1) (gi q)=true:=by
 cases n<;>simp[gi,a9y]
theorem bh.dn{K:a8z}{H:Hp}{v:V}{q:Rat}(h:bh H v q):Dn K H (gi q) v:=by
 obtain⟨a,rfl,h⟩:=h;unfold gi;simp only[Dn,bj];exact⟨a,_,rfl,aj.of h,_,_,rfl,rfl,_,_,rfl,rfl,rfl⟩
theorem b9.new{H:Hp}{p:Addr}{o:HO}(h:H p=none):b9 H (upd H p o):=fun b u e=>by
 rw[i9 (n8 e h)];exact e
theorem aj.same{K:a8z}{H H':Hp}{a:Addr}{xs:List V}(e:b9 H H')(h:aj K H a xs):aj K H' a xs:=by
 rcases h with (h | ⟨o,h⟩) | h
 .exact .inl (.inl (e _ _ h))
 .exact .inl (.inr ⟨o,e _ _ h⟩)
 .exact .inr h
end Cv
namespace Cv
open PySem PySem.Spec PyProof.Rows L2
structure j4(K:a8z)(mg:Str->Option Value)(x:Str)(st:Stmt)(ps:List Str):Prop where
 ex:∃ (f:Addr) (fd:a34),a6e K x x st f fd/\mg x=some (.ref f)/\fC K fd ps []
structure i7(P:a15)(w:a20)(K:a8z)(mg:Str->Option Value)(base:Heap)(CX:sq)(k:Nat)(x:Str)(ps:List Str)(sp:Sp):Prop where
 ex:∃ (f:Addr) (fd:a34),jB P w K mg base CX k f fd ps sp/\mg x=some (.ref f)/\b1h K (.ref f)=true/\fC K fd ps []/\
  ∃ (oc:Value) (od:Option Addr) (osl:Array (Option Value)),K.lookup f=some ⟨oc,od,.func fd,osl⟩
structure nt(mg:Str->Option Value):Prop where
 len:mg "len" = none
 abs:mg "abs" = none
 range:mg "range" = none
 max:mg "max" = none
 min:mg "min" = none
 any:mg "any" = none
 all:mg "all" = none
 sum:mg "sum" = none
 isinstance:mg "isinstance" = none
 int:mg "int" = none
 bool:mg "bool" = none
 tuple:mg "tuple" = none
 list:mg "list" = none
 str:mg "str" = none
 ValueError:mg "ValueError" = none
 zip:mg "zip" = none
 reversed:mg "reversed" = none
 enumerate:mg "enumerate" = none
 sorted:mg "sorted" = none
 dict:mg "dict" = none
section
variable {P:a15} {w:a20} {K:a8z} {mg:Str->Option Value} {base:Heap}
theorem j4.mk'{x:Str}{st:Stmt}{ps:List Str}{f:Addr}{oc:Value}{od an:Option Addr}{osl:Array (Option Value)}{kV doc pm cdv ct:Value}(hm:mg x=some (.ref f))(l:K.lookup f=some ⟨oc,od,.func (b1n x x (bu st) (x8 st) (d4 st) .none kV doc pm an cdv ct),osl⟩)(c:b2l K cdv x=true)(k:b1h K (.ref f)=true)(h:∀ (kV doc pm:Value) (an:Option Addr) (cdv ct:Value) (us:List Value),us.length=ps.length->a99 (b1n x x (bu st) (x8 st) (d4 st) .none kV doc pm an cdv ct) ⟨us,[]⟩=pure (ps.zip us)):j4 K mg x st ps:=by
 have F:=G0 (st:=st) l c k;exact⟨_,_,F,hm,F.binds h⟩
theorem a5m{x:Str}{st:Stmt}{N ps:List Str}{k:Nat}{sp:Sp}(F:j4 K mg x st ps)(S:j6 N ps (d4 st))(len:∀ vs H Q E,sp vs H Q E->vs.length=ps.length)(hbody:∀ (f:Addr) (cdv:Value) (A:a19) (outer:List Env) (s:a01) (H:Hp) (vs:List V) (Q:VK) (E:XK),bI k (A.deeper (a60 x (d4 st) s.heap.objs.size f cdv))->sp vs H Q E->
 ∃ t,qu (dM z8 P w K mg base N x (d4 st) f cdv A outer s H E).nox (x8 st) t/\t { nx:=fun _ H'=>Q .non H',rt:=Q } (eF N vs) H):i7 P w K mg base z8 (k+1) x ps sp:=by
 obtain⟨f,fd,F,hm,hb⟩:=F.ex;exact⟨f,fd,F.ok S len fun cdv A outer s H vs Q E hr h=>hbody f cdv A outer s H vs Q E hr h,hm,F.kp,hb,let ⟨oc,od,_,_,_,_,_,_,osl,_,l,_⟩:=F.ex;⟨oc,od,osl,l⟩⟩
end
section
variable {X:Cx} {CX:sq} {k j:Nat} {ps:List Str} {sp:Sp} {E:XK} {x:Str} {p pos:Pos} {e:a13} {es:List a13} {t:TA}
noncomputable def tFn(sp:Sp)(E:XK)(t:TA):TE:=fun σ H Q=>t σ H fun vs H1=>sp vs H1 Q E
theorem a7x(D:i7 X.prog X.w X.K X.mg X.base CX k x ps sp)(hr:bI j X.A)(hx:bJ CX X E)(ha:PA X (e::es) t)(hk:k<=j:=by decide)(hg:Gl X x:=by rfl)(hdb:(x == ("__debug__" : Str))=false:=by decide)(he:a11 (e::es) X.env=(false,eval e X.env)::a11 es X.env:=by rfl)(hpl:(a37 pos (a11 es X.env)).any (·.1)=false:=by rfl) :
 PE X (.Call (.Name x p) (e::es) [] pos) (tFn sp E t):=by
 obtain⟨f,fd,F,hm,kp,hb,_⟩:=D.ex;intro c2t s σ H Q I h;have q:=S7 (X:=X) (p:=p) (pos:=pos) F (hr.mono hk) hg hm kp hb .nil hx ha hdb he hpl;refine q c2t s σ H Q I ?_;unfold a0s;have e:(fun (vs:List V) (H1:Hp)=>sp (vs++[]) H1 Q E)=fun vs H1=>sp vs H1 Q E:=by
  funext vs H1;rw[b2u]
 rw[e];exact h
end
section
variable {X:Cx}
noncomputable def sr(i j:Int):Prop:=a6h i j\/a8w i j
theorem k8:iH X (a36 .Mult) (rI sr fun i j=>.int (i*j)):=a4g fun i j _ _ _ _ _ hc q=>by
 rcases hc with hc | ⟨n,m,h1,h2,h3⟩
 .exact mul_int q hc.ok
 .exact mul_int q (IntMulOk.of_le (PySem.intBits_le_iff.mpr h1.lt) (PySem.intBits_le_iff.mpr h2.lt) (by lia))
end
theorem U6{i j:Int}(h1:-(2^64)<i)(h2:i<2^64):sr i j:=.inl (.inl ⟨h1,h2⟩)
theorem a4l{i j:Int}(h1:-(2^64)<j)(h2:j<2^64):sr i j:=.inl (.inr ⟨h1,h2⟩)
theorem tD{n m:Nat}{i j:Int}(h1:Sz n i)(h2:Sz m j)(h:n+m<=100000000:=by decide):sr i j:=.inr ⟨n,m,h1,h2,h⟩
noncomputable def uY:Sp:=fun vs H Q _=>∃ a b:Int,vs=[.int a,.int b]/\Q (.int (a9r a b)) H
noncomputable def uU:Sp:=fun vs H Q _=>∃ t b:Int,vs=[.int t,.int b]/\b≠0/\Sz 9000 b/\∀ v H',b9 H H'->bh H' v (a9e t b)->Q v H'
noncomputable def cx:Sp:=fun vs H Q _=>∃ x y p q,vs=[x,y]/\bh H x p/\bh H y q/\Bd 4000 p/\Bd 4000 q/\Q (.bl (decide (p<q))) H
noncomputable def sM(K:a8z):Sp:=fun vs H Q _=>∃ (a:Addr) (ns:List Int) (k:Int),vs=[.ref a,.int k]/\o7 K H a (ns.map V.int)/\0<=k/\∀ z,Q (.int z) H
noncomputable def lL:Sp:=fun vs H Q _=>∃ c p:Int,vs=[.int c,.int p]/\∀ (l:Addr) (xs:List Int) (H':Hp),b9 H H'->H' l=some (.lst (xs.map V.int))->xs.length=24->(∀ x∈xs,0<=x)->Q (.ref l) H'
noncomputable def uR:Sp:=fun vs H Q _=>∃ i:Int,vs=[.int i]/\Q (.bl true) H
noncomputable def sJ:Sp:=fun vs H Q _=>∃ a b:Int,vs=[.int a,.int b]/\0<=a/\0<=b/\Q (.int (a9r a b)) H
noncomputable def eG:Sp:=fun vs H Q _=>∃ t b:Int,vs=[.int t,.int b]/\0<b/\Sz 9000 b/\∀ v H',b9 H H'->bh H' v (a9e t b)->Q v H'
noncomputable def ym(K:a8z):Sp:=fun vs H Q _=>∃ (a:Addr) (ns:List Int),vs=[.ref a]/\o7 K H a (ns.map V.int)/\ns.length<=63/\∀ H',Q (.bl true) H'
theorem gX{c:Prop}[Decidable c]{A B:Prop}(h1:c->A)(h2:¬ c->B):if decide c=true then A else B:=by
 by_cases h:c
 .rw[if_pos (decide_eq_true h)];exact h1 h
 .rw[if_neg (by simp[h])];exact h2 h
theorem C7{b:Bool}{A B:Prop}(h:b=true)(k:A):if b=true then A else B:=by rw[if_pos h];exact k
theorem sy{b:Bool}{A B:Prop}(h:b=false)(k:B):if b=true then A else B:=by rw[if_neg (by rw[h];decide)];exact k
theorem qq{b:Bool}{A B:Prop}(h1:b=true->A)(h2:b=false->B):if b=true then A else B:=by
 cases b
 .exact sy rfl (h2 rfl)
 .exact C7 rfl (h1 rfl)
theorem i7.law{P:a15}{w:a20}{K:a8z}{mg:Str->Option Value}{base:Heap}{CX:sq}{k:Nat}{x:Str}{ps:List Str}{sp:Sp}{f:Addr}{fd:a34}{oc:Value}{od:Option Addr}{osl:Array (Option Value)}(D:i7 P w K mg base CX k x ps sp)(l:K.lookup f=some ⟨oc,od,.func fd,osl⟩)(hm:mg x=some (.ref f)):jB P w K mg base CX k f fd ps sp:=by
 obtain⟨f',fd',FO,hm',_,_,oc',od',osl',l'⟩:=D.ex;have e:=hm.symm.trans hm';cases e;have e2:=l.symm.trans l';have e3:Data.func fd=Data.func fd':=congrArg (fun (o:Obj)=>o.data) (a9t.inj e2);cases e3;exact FO
theorem walk{l:c1c}{k:Nat}{CX:sq}{sp:a8z->Sp}{q:a15}{loose:List Str}{XP:(Str->Option Value)->Heap->Prop}{YP:a20->Heap->Prop}{d:DefRec}{K:Params->a8z}{x:Str}(hn:l.most=some 63)(hdf:d.params.defaults=[])(hr:bI k a77)(hY:∀ (w:a20) (h:Heap),YP w h->(K w.params).In h)(F:∀ (w:a20) (mg:Str->Option Value) (fa:Addr) (h:Heap),(K w.params).In h->h.Ns a12 mg->mg d.name=some (.ref fa)->
 ∃ fd:a34,(∀ (s:a01) (u:Value),a93 s fd ⟨[u],[]⟩ [(x,u)])/\∀ (P:a15) (base:Heap),(K w.params).In base->base.Ns a12 mg->jB P w (K w.params) mg base CX k fa fd [x] (sp (K w.params)))(hsp:∀ (K:a8z) (H:Hp) (a:Addr) (ns:List Int),ns.length<=63->a0e H->o7 K H a (ns.map V.int)->sp K [.ref a] H (fun v _=>v=.bl true) fun _ _ _=>False)(hCX:∀ (H:Hp) (s:a01) (e:Value) (s':a01),CX [] H s (fun _ _ _=>False) e s'->False) :
 PySem.W.WalkO q loose XP YP l.row.toRowW d [] (fun f vs=>PySem.call f vs):=
 L2.N2 (n:=63) (k:=k) (x:=x) (CX:=fun _=>CX) (sp:=fun w=>sp (K w.params)) hn (by decide) hdf hr hY
  (fun w mg fa h a b c=>let ⟨fd,h1,h2⟩:=F w mg fa h a b c;⟨fd,h1,fun base=>h2 l.prog base⟩) (fun w H a ns=>hsp (K w.params) H a ns) fun _ H s e s'=>hCX H s e s'
theorem pl{j:Int}(h:0<j:=by decide):0<j:=h
theorem a5s(xs:List Int)(k:Nat)(h:k<xs.length):nk (xs.map V.int) (k:Int)=some (V.int (xs.getD k 0)):=by
 refine qj ?_;rw[a9h,a8y h];simp[b0h,a8y h]
theorem vY(xs:List Int)(k:Int)(h0:0<=k)(h:k<(xs.length:Int)):nk (xs.map V.int) k=some (V.int (xs.getD k.toNat 0)):=by
 have e:k=((k.toNat:Nat):Int):=by lia
 have q:=a5s xs k.toNat (by lia);rw[<- e] at q;exact q
theorem X4{xs:List Int}(h:∀ x∈xs,0<=x)(k:Nat):0<=xs.getD k 0:=by
 rw[b0h];cases e:xs[k]? with
 | none=>simp
 | some v=>exact h v (a9f e)
theorem Z3(xs:List Int)(h:1<=xs.length):dN (xs.map V.int) (some 1) none=(xs.drop 1).map V.int:=by
 unfold dN;have e:HT.cw (xs.map V.int).length 0 (some 1)=1:=by
  have:=HT.pE (xs.map V.int).length 0 1;rw[a9a] at this;rw[a9a];exact this.trans (by lia)
 rw[e,HT.me,<- b7l];refine b1z ?_;rw[a9a,b0e,a9a];lia
theorem qk{α:Type}(xs:List α)(i:Int)(h0:0<=i)(h1:i<(xs.length:Int)):∃ v,nk xs i=some v/\v∈xs:=by
 have e:i=((i.toNat:Nat):Int):=by lia
 have hl:i.toNat<xs.length:=by lia
 refine⟨xs[i.toNat],?_,a9n hl⟩;have q:=qj (xs:=xs) (j:=i.toNat) (v:=xs[i.toNat]) (a8y hl);rw[<- e] at q;exact q
theorem p30:(10:Int)^(30:Int).toNat=1000000000000000000000000000000:=by decide
theorem a7r:(0:Int)<(10:Int)^(30:Int).toNat:=by rw[p30];decide
theorem kq{n:Nat}{x:Int}{b:Nat}(h1:x.natAbs<=b)(h2:b<2^n):Sz n x:=⟨b2s h1 h2⟩
theorem X5(t b:Int):a9r (if t<0 then -t else t) b=a9r t b:=by
 split
 .rw[Int.neg_gcd]
 .rfl
theorem G7(a b:Int)(hb:0<b):a9r b (a % b)=a9r a b:=by
 have:=rP a b;rw[b7e a (by lia)] at this;exact this
theorem Sz.million{b:Int}(h0:1<=b)(h1:b<=1000000):Sz 20 b:=kq (b:=1000000) (by lia) (by decide)
theorem ud{a b:Int}(h:a≠b):(!decide (V.int a=V.int b))=true:=by simp[h]
theorem a4v(K:a8z):b1i K (.type "int") (.type "int")=some true:=rfl
theorem a4w(K:a8z):b1i K (.type "int") (.type "bool")=some false:=rfl
theorem a4t(K:a8z):b1i K (.type "tuple") (.type "tuple")=some true:=rfl
theorem a4u(K:a8z):b1i K (.type "list") (.type "list")=some true:=rfl
structure TrX(h B:Heap)(e:Addr)(cls fl:Value):Prop where
 ex:∃ (oe:Obj) (vs:Array Value) (T:Addr) (oT:Obj) (ts:Array Value),(h.get? e=some oe/\oe.cls=cls/\oe.data=.fields vs/\oe.dict=none)/\(vs[2]?=some .none/\vs[1]?=some (.ref T))/\(B.get? T=none/\T≠e)/\h.get? T=some oT/\oT.data=.fields ts/\ts[3]?=some fl
structure iJ(B:Heap)(l:List Env)(e:Addr)(cls fl:Value)(h:Heap):Prop where
 stays:B.StaysIn h
 new:B.get? e=none
 frames:h.FunFrames B l
 tr:TrX h B e cls fl
theorem V1(f:Array Value->Array Value)(o:Obj):(Obj.mapFields f o).dict=o.dict:=by
 unfold Obj.mapFields;split<;>rfl
theorem iJ.there{B h:Heap}{l:List Env}{e:Addr}{cls fl:Value}(x:iJ B l e cls fl h):∃ o vs,h.get? e=some o/\o.cls=cls/\o.data=.fields vs/\vs[2]?=some .none/\o.dict=none:=by
 obtain⟨o,vs,_,_,_,⟨a,b,c,f⟩,⟨d,_⟩,_⟩:=x.tr.ex;exact⟨o,vs,a,b,c,d,f⟩
section
variable {M:a83} {A:a19} {E:Value->a01->Prop} {s:a01} {B:Heap} {env:Env} {outer:List Env} {L e:Addr}
theorem a8l{oe:Obj}{vs:Array Value}{hd:Value}{b:Bool}{Q:Unit->a01->Prop}(hfr:A.frames=some (env::outer))(hf:env.frame=some L)(st:B.StaysIn s.heap)(ne:B.get? e=none)(ff:s.heap.FunFrames B (env::outer))(he:s.heap.get? e=some oe)(dt:oe.data=.fields vs)(dn:oe.dict=none)(v2:vs[2]?=some .none)(k:∀ h',iJ B (env::outer) e oe.cls (a72 L) h'->s.heap.UpToSlots h'->Q () { s with heap:=h' }) :
 a07 M A (frameOf env >>= fun a=>entryPlaceOf L b >>= fun pl=>EntryCells.newEntry hd a .none (a72 L) .none pl >>= fun t=>setField (.ref e) 1 t) Q E s:=by
 have v2s:2<vs.size:=(b4x.mp v2).1;have nfr:e∉(env::outer).filterMap (·.frame):=by
  intro hm;obtain⟨_,o,ho,q⟩:=ff.mem hm;cases he.symm.trans ho;exact q vs dt
 refine a00 (wpAny_frameOf_fun hfr ff hf fun h1 so=>?_);refine a00 (wpAny_entryPlaceOf fun pl ip=>?_);unfold EntryCells.newEntry newFields;refine a00 (a33 ?_ (ip.sizeOk5 _ _ _ _ _));have e1:h1.get? e=some oe:=(so.2.1 e nfr).trans he;have st1:B.StaysIn h1:=fun c o q=>(so.2.1 c fun hm=>by rw[(ff.mem hm).1] at q;cases q).trans (st c o q);have t3:(([hd,Value.ref L,Value.none,a72 L,Value.none]++(if pl.isEmpty then a9s 6 Value.none else pl)).toArray)[3]?=some (a72 L):=by
  rw[List.getElem?_toArray];rfl
 have tT:h1.objs.size≠e:=Nat.ne_of_gt (Heap.lt_size e1);generalize hts:([hd,Value.ref L,Value.none,a72 L,Value.none]++(if pl.isEmpty then a9s 6 Value.none else pl)).toArray=ts at t3 ⊢;have e2:=Heap.get?_push_of_some (h:=h1) { cls:=.type "traceback",dict:=none,data:=.fields ts } e1;refine a94 e2 dt (by lia) (k _ ?_ ?_);all_goals
  have d3:=Obj.data_mapFields dt (·.setIfInBounds 1 (Value.ref h1.objs.size));have e3:=Heap.get?_update_self (Obj.mapFields (·.setIfInBounds 1 (Value.ref h1.objs.size))) e2 (Obj.isFreed_of_fields d3);have up:∀ c o,c≠e->h1.get? c=some o->((h1.push { cls:=.type "traceback",dict:=none,data:=.fields ts }).update e (Obj.mapFields (·.setIfInBounds 1 (Value.ref h1.objs.size)))).get? c=some o:=fun c o q z=>by
   rw[Heap.get?_update_other _ _ (Ne.symm q)];exact Heap.get?_push_of_some _ z
  have nr:∀ c o,s.heap.get? c=some o->(∀ us,o.data≠.fields us)->c≠e:=fun c o z nf q=>by
   subst q;cases he.symm.trans z;exact nf vs dt
 .refine⟨fun c o z=>up c o (fun q=>by rw[q,ne] at z;cases z) (st1 c o z),ne,ff.of_keeps fun c o z nf=>?_,⟨_,_,h1.objs.size,_,_,⟨e3,Obj.cls_mapFields _ _,d3,(V1 _ _).trans dn⟩,⟨by rw[Array.getElem?_setIfInBounds_ne (by decide)];exact v2,by simp[show 1<vs.size by lia]⟩,⟨st1.fresh,tT⟩,(Heap.get?_update_other _ _ (Ne.symm tT)).trans (Heap.get?_push_size h1 rfl),rfl,t3⟩⟩;obtain⟨sl,q⟩:=so.2.2 c o z;exact⟨_,up c _ (nr c o z nf) q,rfl⟩
 .intro c o z nf;obtain⟨sl,q⟩:=so.2.2 c o z;exact⟨sl,up c _ (nr c o z nf) q⟩
theorem U1{l:List Env}{cls fl:Value}{Q:Unit->a01->Prop}(x:iJ B l e cls fl s.heap)(k:∀ h',iJ B l e cls .none h'->s.heap.UpToSlots h'->Q () { s with heap:=h' }):a07 M A (setFlight (.ref e) none) Q E s:=by
 obtain⟨oe,vs,T,oT,ts,⟨a1,a2,a3,a4⟩,⟨b1,b2⟩,⟨c1,c2⟩,d1,d2,d3⟩:=x.tr.ex;have t3:3<ts.size:=(b4x.mp d3).1;unfold setFlight;refine a00 (a57 a1 a3 b2 ?_);rw[if_pos (by simp:(Value.ref T != Value.none)=true)];refine a94 d1 d2 t3 (k _ ?_ ?_);all_goals
  have ot:∀ c,c≠T->(s.heap.update T (Obj.mapFields (·.setIfInBounds 3 ((none:Option Addr).elim Value.none fun f=>a72 f)))).get? c=s.heap.get? c:=fun c q=>Heap.get?_update_other _ _ (Ne.symm q);have nr:∀ c o,s.heap.get? c=some o->(∀ us,o.data≠.fields us)->c≠T:=fun c o z nf q=>by
   subst q;cases d1.symm.trans z;exact nf ts d2
 .exact⟨fun c o z=>(ot c fun q=>by rw[q,c1] at z;cases z).trans (x.stays c o z),x.new,x.frames.of_keeps fun c o z nf=>⟨o,(ot c (nr c o z nf)).trans z,rfl⟩,
   ⟨oe,vs,T,_,_,⟨(ot e (Ne.symm c2)).trans a1,a2,a3,a4⟩,⟨b1,b2⟩,⟨c1,c2⟩,Heap.get?_update_self _ d1 (Obj.isFreed_of_fields (Obj.data_mapFields d2 _)),Obj.data_mapFields d2 _,by simp[t3]⟩⟩
 .exact fun c o z nf=>⟨o.slots,(ot c (nr c o z nf)).trans z⟩
theorem a1e{cls:Value}{Q:Unit->a01->Prop}(hfr:A.frames=some (env::outer))(hf:env.frame=some L)(x:iJ B (env::outer) e cls .none s.heap)(k:∀ h',iJ B (env::outer) e cls (a72 L) h'->s.heap.UpToSlots h'->Q () { s with heap:=h' }):a07 M A (a31 (.ref e) env) Q E s:=by
 obtain⟨oe,vs,T,oT,ts,⟨a1,a2,a3,a4⟩,⟨b1,b2⟩,⟨c1,c2⟩,d1,d2,d3⟩:=x.tr.ex;subst a2;have t3:3<ts.size:=(b4x.mp d3).1;unfold a31;simp only[hf];refine a00 (a57 a1 a3 b2 ?_);rw[if_pos (by simp:(Value.ref T != Value.none)=true)];refine a00 (a57 d1 d2 d3 ?_);rw[if_neg (by simp[a72]:¬ ((Value.none == a72 L)=true))];refine a00 (a94 d1 d2 t3 ?_);have ot:∀ c,c≠T->(s.heap.update T (Obj.mapFields (·.setIfInBounds 3 Value.none))).get? c=s.heap.get? c:=fun c q=>Heap.get?_update_other _ _ (Ne.symm q);have nr:∀ c o,s.heap.get? c=some o->(∀ us,o.data≠.fields us)->c≠T:=fun c o z nf q=>by
  subst q;cases d1.symm.trans z;exact nf ts d2
 refine a8l hfr hf (fun c o z=>(ot c fun q=>by rw[q,c1] at z;cases z).trans (x.stays c o z)) x.new (x.frames.of_keeps fun c o z nf=>⟨o,(ot c (nr c o z nf)).trans z,rfl⟩) ((ot e (Ne.symm c2)).trans a1) a3 a4 b1 fun h' f u=>k h' f ?_;exact fun c o z nf=>u c o ((ot c (nr c o z nf)).trans z) nf
theorem iJ.tail{cls fl:Value}{h:Heap}(x:iJ B (env::outer) e cls fl h):iJ B outer e cls fl h:=by
 obtain⟨a,b,⟨_,_,c⟩,d⟩:=x;exact⟨a,b,c,d⟩
theorem a4s{cls:Value}{Q:Unit->a01->Prop}(hfr:A.frames=some (env::outer))(hf:env.frame=some L)(x:iJ B (env::outer) e cls .none s.heap)(k:∀ h',iJ B outer e cls .none h'->s.heap.UpToSlots h'->Q () { s with heap:=h' }):a07 M A (b21 env (.ref e)) Q E s:=by
 unfold b21;exact a00 (a1e hfr hf x fun h1 f1 u1=>U1 f1 fun h2 f2 u2=>k h2 f2.tail (u1.trans u2))
theorem a8d{h:Heap}{cls:Value}{args:List Value}{Q:Unit->a01->Prop}(hfr:A.frames=some (env::outer))(hf:env.frame=some L)(st:B.StaysIn h)(ff:h.FunFrames B (env::outer))(hx:Heap.MadeExcOf h s.heap e cls args)(k:∀ h',iJ B outer e cls .none h'->s.heap.UpToSlots h'->Q () { s with heap:=h' }):a07 M A (b21 env (.ref e)) Q E s:=by
 obtain⟨t,he,_,_⟩:=hx.there;have nb:B.get? e=none:=by
  cases q:B.get? e with
  | none=>rfl
  | some o=>have:=st e o q;rw[hx.new] at this;cases this
 unfold b21 a31;simp only[hf];refine a00 (a00 (a57 he rfl (x:=.none) rfl ?_));rw[if_neg (by decide)];refine a8l hfr hf (fun c o z=>hx.keeps c o (st c o z)) nb (ff.of_keeps fun c o z _=>⟨o,hx.keeps c o z,rfl⟩) he rfl rfl rfl fun h1 f1 u1=>?_;exact U1 f1 fun h2 f2 u2=>k h2 f2.tail (u1.trans u2)
end
structure L7(fs:List Addr)(H H':Hp)(h B h':Heap):Prop where
 keep:∀ b o,h.get? b=some o->H b=none->b∉fs->B.get? b=some o
 slot:∀ b o,h.get? b=some o->H b=none->b∈fs->∃ sl,h'.get? b=some { o with slots:=sl }
 free:∀ b o,h.get? b=some o->H b=none->H' b=none
 there:∀ b o,h.get? b=some o->b∉fs->∃ o',B.get? b=some o'
 tups:∀ b xs,H b=some (.tup xs)->H' b=some (.tup xs)
 frzs:∀ b o u,H b=some (.frz o u)->H' b=some (.frz o u)
 tbls:∀ b ps,H b=some (.tbl ps)->∃ more,H' b=some (.tbl (ps++more))
theorem L7.un{fs:List Addr}{H H':Hp}{h B h':Heap}(u:L7 fs H H' h B h')(hB:B.StaysIn h')(hf:∀ b∈fs,H b=none):Un fs [] H H' h h' where
 keep:=fun b o e n hb _=>hB b o (u.keep b o e n hb)
 slot:=fun b o e n hb _=>u.slot b o e n hb
 free:=fun b o e n _=>u.free b o e n
 there:=fun b o e _=>by
  by_cases hb:b∈fs
  .obtain⟨sl,q⟩:=u.slot b o e (hf b hb) hb;exact⟨_,q⟩
  .obtain⟨o',q⟩:=u.there b o e hb;exact⟨o',hB b o' q⟩
 tups:=u.tups
 frzs:=u.frzs
 tbls:=u.tbls
theorem L7.on{fs:List Addr}{H H':Hp}{h B h' h'':Heap}(u:L7 fs H H' h B h')(hf:∀ b∈fs,∀ o,h.get? b=some o->∀ vs,o.data≠.fields vs)(up:h'.UpToSlots h''):L7 fs H H' h B h'' where
 keep:=u.keep
 slot:=fun b o e n hb=>by
  obtain⟨sl,q⟩:=u.slot b o e n hb;obtain⟨sl',q'⟩:=up b _ q (hf b hb o e);exact⟨sl',q'⟩
 free:=u.free
 there:=u.there
 tups:=u.tups
 frzs:=u.frzs
 tbls:=u.tbls
noncomputable def jE(P:a15)(w:a20):sq:=fun outer H s E e s'=>∃ (x:Addr) (cls:Value) (H':Hp) (B:Heap),e=.ref x/\s'.os=s.os/\a64 s'.gens/\L7 (jC outer) H H' s.heap B s'.heap/\
 jD P w H' B/\iJ B outer x cls .none s'.heap/\E cls none H'
theorem sU{P:a15}{w:a20}{X:Cx}:bJ (jE P w) X E0:=fun _ _ _ _ _ _ _ ⟨_,_,_,_,_,_,_,_,_,_,h⟩=>h.elim
noncomputable def uz(X:Cx)(E:XK):Prop:=∀ (c2t:List (Addr×Obj)) (σ:L2.St) (H:Hp) (s:a01) (e:Addr) (h':Heap) (cls:Value) (vs:List Value),n9 X c2t σ H s->Heap.MadeExcOf s.heap h' e cls vs->E cls none H->X.xe (.ref e) { s with heap:=h' }
section
variable {X:Cx} {c2t:List (Addr×Obj)} {σ:L2.St} {H H':Hp} {s:a01}
theorem G6(I:n9 X c2t σ H s):∀ b∈jC X.stack,∀ o,s.heap.get? b=some o->∀ vs,o.data≠.fields vs:=fun b hb o e vs=>by
 obtain⟨_,o',e',d⟩:=I.stack.mem hb;rw[e] at e';cases e';exact d vs
theorem E3(I:n9 X c2t σ H s):jD X.prog X.w H (b5k s.heap (jC X.stack)):=fun a o e=>
 (I.hok a o e).stay (fun b u hb q=>b5f _ q fun hm=>by
   have n:=I.stkFree b hm;rcases hb with rfl | hb
   .rw[e] at n;cases n
   .rw[hb] at n;cases n) (fun _ q=>q) fun _ _ q=>q
theorem V3(I:n9 X c2t σ H s){e:Addr}{h':Heap}{cls:Value}{vs:List Value}(hx:Heap.MadeExcOf s.heap h' e cls vs):L7 (jC X.stack) H H s.heap (b5k s.heap (jC X.stack)) h' where
 keep:=fun b o q n hb=>b5f _ q hb
 slot:=fun b o q n hb=>⟨o.slots,hx.keeps b o q⟩
 free:=fun _ _ _ n=>n
 there:=fun b o q hb=>⟨o,b5f _ q hb⟩
 tups:=fun _ _ q=>q
 frzs:=fun _ _ _ q=>q
 tbls:=fun b ps q=>⟨#[],by rw[q];simp⟩
theorem zk{B h':Heap}(I:n9 X c2t σ H s)(hst:X.stack=X.env::X.outer)(hfr:X.env.frame=some X.env.locals)(hex:X.ex=[])(u:L7 (jC X.stack) H H' s.heap B h'):L7 X.fs X.H₀ H' X.s₀.heap B h':=by
 have hs:jC X.stack=X.env.locals::X.fs:=by
  rw[hst];unfold jC;rw[b5a,hfr];rfl
 have nx:∀ b,b∉X.ex:=fun b z=>by rw[hex] at z;cases z
 have ne:∀ b o,X.s₀.heap.get? b=some o->b≠X.env.locals:=fun b o e=>b0s (b0k (Heap.lt_size e) I.ok.above);have nin:∀ b o,X.s₀.heap.get? b=some o->b∉X.fs->b∉jC X.stack:=fun b o e hb z=>by
  rw[hs] at z;rcases a9g.mp z with z | z
  .exact ne b o e z
  .exact hb z
 refine⟨fun b o e n hb=>?_,fun b o e n hb=>?_,fun b o e n=>?_,fun b o e hb=>?_,fun b xs q=>u.tups b xs (I.base.tups b xs q),fun b o xs q=>u.frzs b o xs (I.base.frzs b o xs q),fun b ps q=>?_⟩
 .exact u.keep b o (I.base.keep b o e n hb (nx b)) (I.base.free b o e n (nx b)) (nin b o e hb)
 .obtain⟨sl,q⟩:=I.base.slot b o e n hb (nx b);obtain⟨sl',q'⟩:=u.slot b _ q (I.base.free b o e n (nx b)) (by rw[hs];exact b0f _ hb);exact⟨sl',q'⟩
 .obtain⟨o',q⟩:=I.base.there b o e (nx b);exact u.free b o' q (I.base.free b o e n (nx b))
 .obtain⟨o',q⟩:=I.base.there b o e (nx b);exact u.there b o' q (nin b o e hb)
 .obtain⟨m1,e1⟩:=I.base.tbls b ps q;obtain⟨m2,e2⟩:=u.tbls b _ e1;exact⟨m1++m2,by rw[e2,c0a]⟩
end
section
variable {P:a15} {w:a20} {K:a8z} {mg:Str->Option Value} {base:Heap} {N:List Str} {qual:Str} {scope:Scope} {f:Addr} {cd:Value} {A:a19} {outer:List Env} {s:a01} {H:Hp} {E:XK}
theorem nY:uz (dM (jE P w) P w K mg base N qual scope f cd A outer s H E) E:=by
 intro c2t σ H1 s1 e h' cls vs I hx hE;have hfr:(dM (jE P w) P w K mg base N qual scope f cd A outer s H E).A.frames=some (dM (jE P w) P w K mg base N qual scope f cd A outer s H E).stack:=I.ok.frames;have st:(b5k s1.heap (jC (dM (jE P w) P w K mg base N qual scope f cd A outer s H E).stack)).StaysIn s1.heap:=fun b o q=>c0f _ q;have ff:s1.heap.FunFrames (b5k s1.heap (jC (dM (jE P w) P w K mg base N qual scope f cd A outer s H E).stack)) (dM (jE P w) P w K mg base N qual scope f cd A outer s H E).stack:=
  PySem.W.funFrames_hide I.stack fun env he b hb=>b7b.mpr ⟨env,he,hb⟩
 refine a8d hfr rfl st ff hx fun h'' x1 x4=>?_;have u1:=V3 I hx;have u2:L7 (jC (dM (jE P w) P w K mg base N qual scope f cd A outer s H E).stack) H1 H1 s1.heap _ h'':=u1.on (G6 I) x4;exact⟨e,cls,H1,_,rfl,I.os,I.bare,zk I rfl rfl rfl u2,E3 I,x1,hE⟩
theorem jO:bJ (jE P w) (dM (jE P w) P w K mg base N qual scope f cd A outer s H E) E:=by
 rintro c2t σ H1 s1 e s' I ⟨x,cls,H',B,rfl,hos,hb,u,hok,hfl,hE⟩;have hfr:(dM (jE P w) P w K mg base N qual scope f cd A outer s H E).A.frames=some (dM (jE P w) P w K mg base N qual scope f cd A outer s H E).stack:=I.ok.frames;refine a4s hfr rfl hfl fun h'' x1 x2=>?_;have u2:L7 (jC (dM (jE P w) P w K mg base N qual scope f cd A outer s H E).stack) H1 H' s1.heap B h'':=u.on (G6 I) x2;exact⟨x,cls,H',B,rfl,hos.trans I.os,hb,zk I rfl rfl rfl u2,hok,x1,hE⟩
end
section
variable {P:a15} {w:a20} {K:a8z} {mg:Str->Option Value} {base:Heap}
theorem Z0{x:Str}{st:Stmt}{N ps:List Str}{k:Nat}{sp:Sp}(F:j4 K mg x st ps)(S:j6 N ps (d4 st))(len:∀ vs H Q E,sp vs H Q E->vs.length=ps.length)(hbody:∀ (f:Addr) (cdv:Value) (A:a19) (outer:List Env) (s:a01) (H:Hp) (vs:List V) (Q:VK) (E:XK),bI k (A.deeper (a60 x (d4 st) s.heap.objs.size f cdv))->sp vs H Q E->
 ∃ t,qu (dM (jE P w) P w K mg base N x (d4 st) f cdv A outer s H E) (x8 st) t/\t { nx:=fun _ H'=>Q .non H',rt:=Q } (eF N vs) H):i7 P w K mg base (jE P w) (k+1) x ps sp:=by
 obtain⟨f,fd,F,hm,hb⟩:=F.ex;obtain⟨oc,od,kV,doc,pm,an,cdv,ct,osl,rfl,lk,hcd⟩:=F.ex;exact⟨f,_,a1o lk hcd S len fun A outer s H vs Q E hr h=>hbody f cdv A outer s H vs Q E hr h,hm,F.kp,hb,oc,od,osl,lk⟩
end
abbrev U8:List Value:=[.type "ValueError",.type "Exception",.type "BaseException",.type "object"]
structure L6(K:a8z)(mg:Str->Option Value)(x:Str)(C:Addr):Prop where
 bound:mg x=some (.ref C)
 obj:∃ nm q N bs bm hdct sn sub ab col dd k0 k1 k2 k3 k5,K.lookup C=some (excClassObj nm q C N bs bm hdct sn sub ab col dd k0 k1 k2 k3 k5 "ValueError.__new__")/\
  c1f K N=true/\b0b K N "__init__" = some none/\c1g K U8 bm=true
theorem L6.own{K:a8z}{mg:Str->Option Value}{x:Str}{C:Addr}{h:Heap}(c:L6 K mg x C)(X:K.In h):OwnCls x C U8 "ValueError.__new__" mg h:=by
 obtain⟨nm,q,N,bs,bm,hdct,sn,sub,ab,col,dd,k0,k1,k2,k3,k5,l,h1,h2,h3⟩:=c.obj;exact⟨c.bound,bm,N,nm,q,bs,hdct,sn,sub,ab,col,dd,k0,k1,k2,k3,k5,_,X _ _ l,.of_isNs (PySem.W.isNs_of_in X h1),PySem.W.nsMap_none_of_in X h1 h2,PySem.W.tail_of_in X h3⟩
section
variable {X:Cx} {x:Str} {C:Addr} {np cpos pos:Pos} {E:XK} {e₀:a13} {ta:TA}
noncomputable def yh(E:XK)(C:Addr)(ta:TA):TS:=fun _ σ H=>ta σ H fun vs H1=>vs.length<=sizeLine/\E (.ref C) none H1
theorem yF(th:uz X E)(c:L6 X.K X.mg x C)(ha:PA X [e₀] ta)(hc:X.calm=true:=by rfl)(hg:Gl X x:=by rfl)(he:a11 [e₀] X.env=[(false,eval e₀ X.env)]:=by rfl)(hd:(x == ("__debug__" : Str))=false:=by decide):PS X (.Raise (some (.Call (.Name x np) [e₀] [] cpos)) none pos) (yh E C ta):=by
 intro c2t s σ H D I h;have O:OwnCls x C U8 "ValueError.__new__" X.mg s.heap:=c.own I.kIn;obtain⟨tl,N,nm,q,bs,hdct,sn,sub,ab,col,dd,k0,k1,k2,k3,k5,mN,hC,hN,hni,T⟩:=O.obj;obtain⟨tl',N',nm',q',bs',hdct',sn',sub',ab',col',dd',k0',k1',k2',k3',k5',mN',hC',hN',hni',T'⟩:=(c.own I.mod.kin).obj;have FB:=PySem.F.excBase_ValueError;refine wpAny_Raise_call_subT (C:=C) (nm:=nm') (q:=q') (N:=N') (bs:=bs') (bm:=tl') (hdct:=hdct') (sn:=sn') (sub:=sub') (ab:=ab') (col:=col') (dd:=dd') (k0:=k0') (k1:=k1') (k2:=k2') (k3:=k3') (k5:=k5')
  FB (mN:=mN') (T'.hasType FB.hasBase) (I.ok.hd hc) (by rw[he];rfl) hni' (jp I hg c.bound ⟨rfl,?_⟩ hd)
 have h2:=ha cpos c2t s σ H _ I h;rw[he] at h2 ⊢;exact Calls.evalArgs_plain (a08 h2 (fun us s2 ⟨vs,H2,I2,r,hz,hE⟩=>⟨rfl,(by rw[<- r.length];exact hz),I2.bk _ _ hC',hN'.keeps I2.bk,T'.keeps I2.bk,fun h' e hm=>th c2t σ H2 s2 e h' _ _ I2 hm hE⟩) fun _ _ y=>y)
end
theorem zK{P:a15}{w:a20}{H:Hp}{h:Heap}{a:Addr}{o:HO}(x:bK P w H h a o):∃ ob,h.get? a=some ob:=by
 induction o with
 | lst xs=>obtain⟨_,_,_,_,e⟩:=x;exact⟨_,e⟩
 | tup xs=>obtain⟨_,_,_,_,e,_⟩:=x;exact⟨_,e⟩
 | dK kvs=>obtain⟨_,_,_,_,_,_,_,e,_⟩:=x;exact⟨_,e⟩
 | dT kvs=>obtain⟨_,_,_,_,_,_,_,e,_⟩:=x;exact⟨_,e⟩
 | set S n=>obtain⟨_,_,_,_,e,_⟩:=x;exact⟨_,e⟩
 | ins C dx fs=>obtain⟨_,_,_,e,_⟩:=x;exact⟨_,e⟩
 | own y=>exact x
 | xd fs=>obtain⟨_,⟨_,_,_,e,_⟩,_⟩:=x;exact⟨_,e⟩
 | rng lo hi=>obtain⟨_,_,_,e⟩:=x;exact⟨_,e⟩
 | frz ob u _=>exact⟨_,x.1⟩
 | tbl ps=>exact⟨_,x⟩
 | met f y=>exact⟨_,x⟩
 | ext p=>exact x.2.1
abbrev sF(X:Cx)(xe:Value->a01->Prop)(pn:List (Addr×Obj)):Cx:={ X with xe:=xe,pn:=pn }
abbrev jI(X:Cx)(x:Addr):Cx:={ X with A:=X.A.mark (some (.ref x)),calm:=false,xe:=fun _ _=>False }
section
variable {X:Cx} {c2t pins':List (Addr×Obj)} {σ:L2.St} {H H':Hp} {s:a01}
theorem a6v(I:n9 X c2t σ H s)(xe:Value->a01->Prop):n9 (sF X xe (X.pn++c2t)) c2t σ H s:=
 ⟨⟨I.ok.mod,I.ok.kind,I.ok.glob,I.ok.blt,I.ok.above,I.ok.inj,I.ok.has,I.ok.cab,I.ok.hd,I.ok.frames,I.ok.stk,I.ok.exf,I.ok.bs,I.ok.bsz,I.ok.noex,I.ok.exfs,I.ok.funs,I.ok.frf⟩,
  I.os,I.bare,I.base,I.loc,I.cell,I.free,I.freeC,fun p hp=>I.pin p ((a9k.mp hp).elim id fun z=>b0j _ z),I.hok,I.len⟩
theorem oz{xe:Value->a01->Prop}(I:n9 (sF X xe (X.pn++c2t)) pins' σ H s):n9 X c2t σ H s:=
 ⟨⟨I.ok.mod,I.ok.kind,I.ok.glob,I.ok.blt,I.ok.above,I.ok.inj,I.ok.has,I.ok.cab,I.ok.hd,I.ok.frames,I.ok.stk,I.ok.exf,I.ok.bs,I.ok.bsz,I.ok.noex,I.ok.exfs,I.ok.funs,I.ok.frf⟩,
  I.os,I.bare,I.base,I.loc,I.cell,I.free,I.freeC,fun p hp=>I.pin p (b4t _ hp),I.hok,I.len⟩
theorem uM(I:n9 X c2t σ H s)(x:Addr):n9 (jI X x) c2t σ H s:=
 ⟨⟨I.ok.mod,I.ok.kind,I.ok.glob,I.ok.blt,I.ok.above,I.ok.inj,I.ok.has,I.ok.cab,fun z=>absurd z b0a,I.ok.frames,I.ok.stk,I.ok.exf,I.ok.bs,I.ok.bsz,I.ok.noex,I.ok.exfs,I.ok.funs,I.ok.frf⟩,
  I.os,I.bare,I.base,I.loc,I.cell,I.free,I.freeC,I.pin,I.hok,I.len⟩
theorem U3{x:Addr}(hd:X.calm=true->X.A.handled=none)(I:n9 (jI X x) c2t σ H s):n9 X c2t σ H s:=
 ⟨⟨I.ok.mod,I.ok.kind,I.ok.glob,I.ok.blt,I.ok.above,I.ok.inj,I.ok.has,I.ok.cab,hd,I.ok.frames,I.ok.stk,I.ok.exf,I.ok.bs,I.ok.bsz,I.ok.noex,I.ok.exfs,I.ok.funs,I.ok.frf⟩,
  I.os,I.bare,I.base,I.loc,I.cell,I.free,I.freeC,I.pin,I.hok,I.len⟩
theorem tN{h':Heap}{m':Str->Option Value}{tk:Nat}(I:n9 X c2t σ H s)(hn:h'.Ns X.env.locals m')(hs:Heap.SameBut X.env.locals s.heap h'):n9 X c2t (a9s X.N.length none) H { s with heap:=h',toks:=tk }:=by
 have old:∀ b o,X.s₀.heap.get? b=some o->b≠X.env.locals:=fun b o e=>b0s (b0k (Heap.lt_size e) I.ok.above);refine⟨I.ok,I.os,I.bare,⟨fun b o e n hb hx=>(hs.2 b (old b o e)).trans (I.base.keep b o e n hb hx),fun b o e n hb hx=>?_,I.base.free,fun b o e hx=>?_,I.base.tups,I.base.frzs,I.base.tbls⟩,
  ⟨m',hn,fun i y v _ e2 _=>?_⟩,fun y c e=>?_,I.free,I.freeC,fun p hp=>?_,fun b o e=>?_,b0z⟩
 .obtain⟨sl,q⟩:=I.base.slot b o e n hb hx;exact⟨sl,(hs.2 b (old b o e)).trans q⟩
 .obtain⟨o',q⟩:=I.base.there b o e hx;exact⟨o',(hs.2 b (old b o e)).trans q⟩
 .rw[b5o] at e2;split at e2<;>cases e2
 .obtain⟨v,z⟩:=I.cell y c e;exact⟨v,z.sameBut hs (I.cne y c e)⟩
 .obtain⟨e,n,ne,nf,d⟩:=I.pin p hp;exact⟨(hs.2 p.1 ne).trans e,n,ne,nf,d⟩
 .refine (I.hok b o e).stay (fun c u hc q=>(hs.2 c fun z=>?_).trans q) (fun _ q=>q) fun _ _ q=>q;have fr:=I.free;rcases hc with hc | hc
  .rw[<- z,hc,e] at fr;cases fr
  .rw[<- z,hc] at fr;cases fr
end
noncomputable def sk(x:Addr)(cls:Value):HO:=.ext fun h=>∃ o vs,h.get? x=some o/\o.cls=cls/\o.data=.fields vs/\vs[2]?=some .none/\o.dict=none
noncomputable def a6x(K:a8z)(n:Nat)(SC:Addr)(tb:XK->TS)(ts:Addr->TS):TS:=fun D σ H=>∃ Ex:XK,tb Ex D σ H/\∀ cls x H' (σ':L2.St),Ex cls none H'->H' x=none->σ'.length=σ.length->
 b5t K cls (.ref SC)=some true/\ts x { nx:=fun _ _=>False,rt:=D.rt } (σ'.set n (some (.ref x))) (upd H' x (sk x cls))
section
variable {X:Cx}
theorem P7{n:Nat}{nm c:Str}{SC:Addr}{body:List Stmt}{b0:Stmt}{suite:List Stmt}{np hpos pos:Pos}{tb:XK->TS}{ts:Addr->TS}(cb:X.mg c=some (.ref SC))(hN:X.N.Nodup)(hb:∀ xe pn Ex,bJ (jE X.prog X.w) (sF X xe pn) Ex->qu (sF X xe pn) body (tb Ex))(hs:∀ x,qu (jI X x) (b0::suite) (ts x))(hi:X.N[n]?=some nm:=by rfl)(hx:X.env.scope.names.lookup nm=some .local:=by rfl)(hg:Gl X c:=by rfl)(hst:X.stack=X.env::X.outer:=by rfl)(hfr:X.env.frame=some X.env.locals:=by rfl)(hd:(c == ("__debug__" : Str))=false:=by decide) :
 PS X (.Try body [.ExceptHandler (some (.Name c np)) (some nm) (b0::suite) hpos] [] [] pos) (a6x X.K n SC tb ts):=by
 intro c2t s σ H D I hread;obtain⟨Ex,hbd,hcat⟩:=hread;refine wpAny_Try_except ?_;have hp:bJ (jE X.prog X.w) (sF X (fun e s₁=>a07 (a05 X.prog X.w) X.A (a31 e X.env) (fun _ s₂=>a07 (a05 X.prog X.w) X.A (setFlight e none) (fun _ s₃=>
  a07 (a05 X.prog X.w) X.A (handleBy e X.env [.ExceptHandler (some (.Name c np)) (some nm) (b0::suite) hpos]) (SP X c2t D) X.xe s₃) X.xe s₂) X.xe s₁) (X.pn++c2t)) Ex:=by
  rintro pins' σ1 H1 s1 e s' J ⟨x,cls,H',B,rfl,hos,hba,u,hok,hfl,hE⟩;show a07 (a05 X.prog X.w) X.A (a31 (.ref x) X.env) _ _ s';have hfl':iJ B (X.env::X.outer) x cls .none s'.heap:=by rw[<- hst];exact hfl
  have hfr':X.A.frames=some (X.env::X.outer):=by rw[<- hst];exact J.ok.frames
  have hBx:B.get? x=none:=hfl.new;have hHx:H' x=none:=by
   cases q:H' x with
   | none=>rfl
   | some o=>
     obtain⟨ob,z⟩:=zK (hok x o q);rw[hBx] at z;cases z
  have hnew:∀ o,s1.heap.get? x=some o->False:=fun o e=>by
   by_cases hm:x∈jC X.stack
   .obtain⟨_,o',e',d⟩:=J.stack.mem hm;obtain⟨sl,q⟩:=u.slot x o' e' (J.stkFree x hm) hm;obtain⟨oe,vs,he,_,hde,_⟩:=hfl.there;rw[q] at he;cases he;exact d vs hde
   .obtain⟨o',q⟩:=u.there x o e hm;rw[hBx] at q;cases q
  have un6:∀ h6,B.StaysIn h6->s'.heap.UpToSlots h6->Un (jC X.stack) [] H1 H' s1.heap h6:=fun h6 hB up=>(u.on (G6 J) up).un hB J.stkFree;have back:∀ h6,B.StaysIn h6->s'.heap.UpToSlots h6->n9 X c2t σ1 H' { s' with heap:=h6 }:=fun h6 hB up=>
   oz (J.call' (s':={ s' with heap:=h6 }) (ch:=[]) hos (un6 h6 hB up) (hok.kept hB) hba fun b z=>nomatch z)
  refine a1e hfr' hfr hfl' fun h4 held up4=>?_;refine U1 held fun h5 fl5 up5=>?_;have up45:=up4.trans up5;have I5:=back h5 fl5.stays up45;have cat:=hcat cls x H' σ1 hE hHx (J.len.trans I.len.symm);refine wpAny_handleBy_cons (codeAny_handlers_test ?_) (by intro q;cases q);refine jp (X:=jI X x) (uM I5 x) hg cb ?_ hd;obtain⟨oe,_,he,hcl,_⟩:=fl5.there;have LT:b9w (a05 X.prog X.w) h5 (typeOf (.ref x)) cls:=by
   subst hcl;exact (b9w.ld he).andThen .now
  refine (PySem.W.exm_one (M:=a05 X.prog X.w) I5.kIn LT cat.1).here ?_;refine codeAny_handlers_suite_as ?_;refine U1 fl5 fun h6 fl6 up6=>?_;have up456:=up45.trans up6;have hok6:jD X.prog X.w H' h6:=hok.kept fl6.stays;obtain⟨oe6,vs6,he6,hcl6,hd6,hn6⟩:=fl6.there;have I6:n9 X c2t σ1 (upd H' x (sk x cls)) { s' with heap:=h6 }:=by
   have u6:=un6 h6 fl6.stays up456;refine oz (J.call' (s':={ s' with heap:=h6 }) (ch:=[]) hos ⟨u6.keep,u6.slot,fun b o e nn hx'=>?_,u6.there,fun b xs q=>?_,fun b o v q=>?_,fun b ps q=>?_⟩ (fun b o q=>?_) hba fun b z=>nomatch z)
   .rw[i9 (fun z=>by rw[z] at e;exact hnew o e)];exact u6.free b o e nn hx'
   .rw[i9 (n8 (u6.tups b xs q) hHx)];exact u6.tups b xs q
   .rw[i9 (n8 (u6.frzs b o v q) hHx)];exact u6.frzs b o v q
   .obtain⟨more,z⟩:=u6.tbls b ps q;exact⟨more,by rw[i9 (n8 z hHx)];exact z⟩
   .by_cases hbx:b=x
    .subst hbx;rw[b7] at q;cases q;exact⟨⟨oe6,vs6,he6,hcl6,hd6,hn6⟩,⟨oe6,he6⟩,fun h1 h2 ⟨o1,v1,e1,c1⟩ k=>⟨o1,v1,k o1 e1,c1⟩⟩
    .rw[i9 hbx] at q;exact (hok6 b o q).stay (fun _ _ _ z=>z) (fun c' z=>by rw[i9 (n8 z hHx)];exact z) fun c' ys z=>by rw[i9 (n8 z hHx)];exact z
  refine dz (X:=jI X x) (uM I6 x) hN hi (.inl hx) (v:=.ref x) rfl (fun s7 I7=>?_) (.inr hx);refine a08 (hs x c2t s7 _ _ _ I7 cat.2) (fun f s8 h8=>?_) fun _ _ hf=>hf.elim;have hcls:(X.env.scope.kind == .class || (X.env.scope.kind == .module && X.env.locals != X.env.globals))=false:=by rw[I.ok.kind];rfl
  cases f with
  | ret v=>
    obtain⟨v',σ8,H8,J8,rv,q8⟩:=h8;obtain⟨m,hn,_⟩:=J8.loc;refine wpAny_nameGoes hx hn hcls fun h' m' hn' hsb=>?_;exact⟨v',_,H8,tN (U3 I.ok.hd J8) hn' hsb,rv,q8⟩
  | next=>obtain⟨_,_,_,q8⟩:=h8;exact q8.elim
  | brk=>obtain⟨_,_,_,q8⟩:=h8;exact q8.elim
  | cont=>obtain⟨_,_,_,q8⟩:=h8;exact q8.elim
 refine a08 (hb _ _ Ex hp c2t s σ H D (a6v I _) hbd) (fun f s1 h1=>?_) fun _ _ h=>h;cases f with
 | next=>obtain⟨σ',H',J,d⟩:=h1;exact a59 ⟨σ',H',oz J,d⟩
 | brk=>obtain⟨σ',H',J,d⟩:=h1;exact⟨σ',H',oz J,d⟩
 | cont=>obtain⟨σ',H',J,d⟩:=h1;exact⟨σ',H',oz J,d⟩
 | ret v=>obtain⟨v',σ',H',J,r,d⟩:=h1;exact⟨v',σ',H',oz J,r,d⟩
end
structure L5(K:a8z)(C:Addr):Prop where
 hg:b0i K (.ref C) "__getattribute__" = some (some (.builtin "BaseException.__getattribute__"))
 hk:b0i K (.ref C) "__getattr__" = some none
 hd:(b5g K C).isSome=true
 ha:b0i K (.ref C) "__class__" = some (some (.builtin "object.__class__"))
 hn:b7t K (.builtin "object.__class__") "__get__" = some (some (.builtin "getset_descriptor.__get__"))
 ht:b9a K (.builtin "object.__class__")=some true
 hm:b6f K C (.type "object")=some true
 hb:b6f K C (.type "BaseException")=some true
theorem Y5{K:a8z}{x C:Addr}{prog:a15}{w:a20}{A:a19}{E:Value->a01->Prop}{s:a01}{o:Obj}{Q:Option Value->a01->Prop}(n:L5 K C)(KX:K.In s.heap)(I:b9p s.heap x o C none)(hf:b9c K C none "__class__" = some (.bind (.builtin "getset_descriptor.__get__") (.builtin "object.__class__")))(h:Q (some (.ref C)) { s with toks:=s.toks+1 }):a07 (a05 prog w) A (getAttr? (.ref x) "__class__") Q E s:=by
 obtain⟨hh,g,d,t,os⟩:=s;have L0:=I.type (M:=a05 prog w);have L1:=b6k (M:=a05 prog w) KX n.hg;have L2:=b6k (M:=a05 prog w) KX n.hk;have L3:=PySem.W.looks_find (M:=a05 prog w) KX I hf;have L4:=PySem.W.looks_mroIn (M:=a05 prog w) KX n.hb;have hx2:(Value.builtin "BaseException.__getattribute__" == Value.builtin "object.__getattribute__")=false:=by decide
 have hx1:(onTheHeap (Value.ref C) && Value.builtin "BaseException.__getattribute__" == Value.builtin "object.__getattribute__")=false:=by rw[hx2];rfl
 have hb:=F.excAttr_ValueError.ga.bind (.ref x);unfold getAttr? getAttrBy? getAttrBy;refine a00 (wpAny_mkText (a00 (b05 (a16 (a00 (L0.at (a00 (L1.at ?_))))))));dsimp only;rw[hx1,if_neg b0a];unfold getAttrByItsOwn hookBefore;refine a00 (L2.at ?_);refine a00 (b05 (a16 ?_));unfold callGetattribute boundAndCalled;rw[b9o,if_neg b0a,hb];refine a00 (a02 ?_);refine a96 (codeAny_call_builtin F.excAttr_ValueError.ga.plain F.entry_bexc_ga ?_);have hk:builtinKind "BaseException.__getattribute__" = some .slot:=by decide
 have hsp:splitId "BaseException.__getattribute__" = some ("BaseException","__getattribute__"):=by decide
 have hz:=F.args_bexc_ga (.ref x) (.str "__class__" t);simp only[checkBuiltinCall,hk,hsp];refine a00 ?_;unfold isInstance;refine a00 (L0.at (L4.at ?_));repeat wp_step
 refine a95 I.at_ (a02 ?_);rw[I.cls];refine a00 (L3.at ?_);unfold Builtin.ObjectAttr.bindTo;dsimp only;refine a00 (a16 (a96 (PySem.W.class_get (s:={ heap:=hh,gens:=g,drawn:=d,toks:=t+1,os:=os }) (ox:=o) (od:=none) KX I n.hm ?_)));refine a02 ?_;exact PySem.W.handed_on rfl (a02 h)
noncomputable def XAt(x C:Addr)(h:Heap):Prop:=∃ o vs,h.get? x=some o/\o.cls=.ref C/\o.data=.fields vs/\vs[2]?=some .none/\o.dict=none
theorem XAt.inst{x C:Addr}{h:Heap}(p:XAt x C h):∃ o,b9p h x o C none:=by
 obtain⟨o,vs,a,b,c,_,d⟩:=p;exact⟨o,a,b,by unfold PySem.W.notCls;rw[c],by rw[d];exact True.intro⟩
theorem mY{K:a8z}{C:Addr}(h:(b5g K C).isSome=true):∃ c d cd sl,K.lookup C=some ⟨c,d,.cls cd,sl⟩:=by
 obtain⟨cd,hc⟩:=b7w.mp h;unfold b5g at hc;split at hc
 .exact⟨_,_,_,_,by assumption⟩
 .cases hc
theorem C3{K:a8z}{x C:Addr}(n:L5 K C):PySem.W.KitX K (.ref x) (.ref C) (XAt x C) where
 ty:=fun _ _ _ p=>by obtain⟨o,I⟩:=p.inst;exact I.type
 it:=fun _ _ KX _=>by
  obtain⟨c,d,cd,sl,hk⟩:=mY n.hd;intro A' Q' E' s' kk q;unfold isType loadHead;exact a00 (a95 (kk _ _ (KX _ _ hk)) (a02 q))
 ne:=fun h tp dd its m sl KX e=>by
  obtain⟨c,d,cd,sl',hk⟩:=mY n.hd;refine Bool.eq_false_iff.mpr fun q=>?_;cases Value.ref.inj (beq_iff_eq.mp q);cases (KX _ _ hk).symm.trans e
 ca:=fun {_ _ _ _ _ s} KX p q=>by
  obtain⟨o,I⟩:=p.inst;obtain⟨c,d,cd,sl',hk⟩:=mY n.hd;have hf:b9c K C none "__class__" = some (.bind (.builtin "getset_descriptor.__get__") (.builtin "object.__class__")):=by
   have hc:b5g K C=some cd:=by unfold b5g;rw[hk]
   unfold b9c;rw[hc,c0x,n.ha,c0x];simp[n.hn,n.ht]
  exact Y5 n KX I hf q
section
variable {X:Cx}
noncomputable def K0:V->Option Value
 | .ref a=>some (.ref a)
 | .ty n=>some (.type n)
 | _=>none
theorem xA{y:V}{c v:Value}(e:K0 y=some c)(r:am y v):v=c:=by
 cases y with
 | ref a=>cases e;exact r
 | ty n=>cases e;exact r
 | _=>cases e
theorem K1:bP X (.builtin "isinstance") (fun xs H Q=>∃ x C y c b,xs=[.ref x,y]/\H x=some (sk x (.ref C))/\K0 y=some c/\L5 X.K C/\b1i X.K (.ref C) c=some b/\Q (.bl b) H):=by
 intro c2t s σ H xs us Q I r h;obtain⟨x,C,y,c,b,rfl,hx,ry,n,e,q⟩:=h;obtain⟨u,v,rfl,ru,rv⟩:=iN r;cases ru;cases xA ry rv;have hO:XAt x C s.heap:=(I.hok x _ hx).1;exact b1t (C3 n) I.kIn hO e (fun z=>nomatch z) fun tk=>⟨.bl b,H,I.tok tk,rfl,q⟩
end
theorem C4(K:a8z)(a:Addr):b1i K (.ref a) (.ref a)=some true:=by
 unfold b1i;rw[if_pos (beq_self_eq_true _)]
abbrev j9(X:Cx)(scope:Scope)(cl:List (Str×Addr))(Nc:List Str)(C:Addr)(s0:a01)(H0:Hp)(fp:List Addr):Cx where
 prog:=X.prog
 w:=X.w
 K:=X.K
 mg:=X.mg
 base:=X.base
 A:=X.A
 N:=Nc
 s₀:=s0
 H₀:=H0
 env:=a41 scope cl C X.env
 outer:=X.stack
 stack:=X.stack
 ex:=fp
 fn:=fun _=>false
 calm:=X.calm
 pn:=[]
 xe:=fun _ _=>False
noncomputable def nP(σ:L2.St)(ix:List Nat):L2.St:=ix.map fun j=>(σ[j]?).getD none
theorem iD{env:Env}:∀ (names:List (Str×a62)) (acc:List (Str×Addr)),(∀ y∈names,y.2=.free->∃ c,env.cells.lookup y.1=some c)->
 ∃ cl,(forIn names acc fun (x:Str×a62) (r:List (Str×Addr))=>if (x.2 == NameKind.free)=true then (do let c <- cellOf env x.1;pure (ForInStep.yield ((x.1,c)::r))) else pure (ForInStep.yield r):Sem (List (Str×Addr)))=pure cl/\
  ((∀ y c,acc.lookup y=some c->env.cells.lookup y=some c)->∀ y c,cl.lookup y=some c->env.cells.lookup y=some c)/\
  (∀ y,(∃ c,acc.lookup y=some c)->∃ c,cl.lookup y=some c)/\∀ y∈names,y.2=.free->∃ c,cl.lookup y.1=some c
 | [],acc,_=>⟨acc,by simp,fun h=>h,fun _ h=>h,fun _ h=>nomatch h⟩
 | (n,k)::r,acc,h=>by
  rw[List.forIn_cons];by_cases hk:k=.free
  .subst hk;obtain⟨c,hc⟩:=h (n,.free) (.head _) rfl;obtain⟨cl,e,h1,h2,h3⟩:=iD (env:=env) r ((n,c)::acc) fun y hy=>h y (.tail _ hy);refine⟨cl,?_,fun ha=>h1 fun y d hd=>?_,fun y hy=>h2 y ?_,fun y hy hf=>?_⟩
   .have ec:cellOf env n=pure c:=by
     unfold cellOf;have hc':env.cells.lookup n=some c:=hc;rw[hc']
    simp only[ec];exact e
   .rw[b1u] at hd;by_cases hy:y == n
    .rw[hy] at hd;cases hd;rw[eq_of_beq hy];exact hc
    .rw[b6e] at hy;rw[hy] at hd;exact ha y d hd
   .rw[b1u];by_cases hyn:y == n
    .rw[hyn];exact⟨_,rfl⟩
    .rw[b6e] at hyn;rw[hyn];exact hy
   .rcases a9g.mp hy with rfl | hy
    .exact h2 n ⟨c,by rw[b1u];simp⟩
    .exact h3 y hy hf
  .obtain⟨cl,e,h1,h2,h3⟩:=iD (env:=env) r acc fun y hy=>h y (.tail _ hy);refine⟨cl,?_,h1,h2,fun y hy hf=>?_⟩
   .have hk':(k == NameKind.free)=false:=by
     cases k<;>first | rfl | exact absurd rfl hk
    simp only[hk'];exact e
   .rcases a9g.mp hy with rfl | hy
    .exact absurd hf hk
    .exact h3 y hy hf
theorem um{scope:Scope}{env:Env}(h:∀ y∈scope.names,y.2=.free->∃ c,env.cells.lookup y.1=some c) :
 ∃ cl,closureFor scope env=pure cl/\(∀ y c,cl.lookup y=some c->env.cells.lookup y=some c)/\∀ y∈scope.names,y.2=.free->∃ c,cl.lookup y.1=some c:=by
 obtain⟨cl,e,h1,_,h3⟩:=iD (env:=env) scope.names [] h;refine⟨cl,?_,h1 (fun _ _ z=>nomatch z),h3⟩;unfold closureFor;have:=congrArg (fun (m:Sem (List (Str×Addr)))=>m >>= fun r=>pure r) e;first
  | exact e
  | simpa using e
  | (simp only[bind_pure] at this ⊢;exact this)
theorem dE{env:Env}:∀ {names:List (Str×a62)} {y:Str} {k:a62},(∀ z∈names,z.2≠.cell)->
 (names.map fun (n,k)=>if (k == NameKind.free && env.scope.kind == .function && env.kindOf n == some .cell) then (n,NameKind.cell) else (n,k)).lookup y=some k->(k=.cell\/k=.free)->(y,NameKind.free)∈names
 | [],_,_,_,h,_=>by simp at h
 | (n,q)::r,y,k,hc,h,hk=>by
  rw[b1q] at h;by_cases hy:y == n
  .have e:y=n:=eq_of_beq hy;subst e;by_cases ht:(q == NameKind.free && env.scope.kind == .function && env.kindOf y == some .cell)=true
   .have:q=.free:=by
     simp only[b1g] at ht;exact eq_of_beq ht.1.1
    rw[this];exact .head _
   .simp only[ht] at h;rw[b1u] at h;simp at h;subst h;rcases hk with rfl | rfl
    .exact absurd rfl (hc _ (.head _))
    .exact .head _
  .rw[b6e] at hy;refine .tail _ (dE (env:=env) (fun z hz=>hc z (.tail _ hz)) ?_ hk);by_cases ht:(q == NameKind.free && env.scope.kind == .function && env.kindOf n == some .cell)=true
   .simp only[ht] at h;rw[b1u] at h;have h':=h
    (simp[hy] at h';simpa using h')
   .simp only[ht] at h;rw[b1u] at h;have h':=h
    (simp[hy] at h';simpa using h')
section
variable {prog:a15} {w:a20} {A:a19} {R:a75->a01->Prop} {s:a01}
theorem mU{elt target iter:a13}{scope:Scope}{pos:Pos}{it acc:Value}{env:Env}(I:Nat->a01->Prop)(turn:∀ n s,I n s->a07 (a05 prog w) A (a52 it) (fun r s₁=>match r with
 | none=>R (.ok .next) s₁
 | some v=>a07 (a05 prog w) A (a18 target it v) (fun _ s₁'=>a07 (a05 prog w) A (a29 target env v) (fun _ s₂=>a07 (a05 prog w) A (eval elt env) (fun x s₃=>
    a07 (a05 prog w) A (call (.builtin "list.append") [acc,x]) (fun _ s₄=>∃ m,m<n/\I m s₄) (a21 (a05 prog w) A env fun e s'=>R (.error e) s') s₃)
    (a21 (a05 prog w) A env fun e s'=>R (.error e) s') s₂) (a21 (a05 prog w) A env fun e s'=>R (.error e) s') s₁') (a21 (a05 prog w) A env fun e s'=>R (.error e) s') s₁) (a21 (a05 prog w) A env fun e s'=>R (.error e) s') s)(n:Nat)(h:I n s) :
 a25 (a05 prog w) A (.compLoop (.ListComp elt [⟨target,iter,[],0⟩] scope pos) 0 it acc env) R s:=by
 refine a61 rfl I (fun n s hI=>?_) n h;show a07 _ _ ((a48 (.ListComp elt [⟨target,iter,[],0⟩] scope pos) 0 it acc env).onRaise (fun x=>do a31 x env;a44 x)) _ _ s;refine a63 ?_;rw[compTurn_list1];refine a00 (a17 (a00 (a08 (turn n s hI) (fun r s₁ h₁=>?_) fun _ _ h'=>h')));cases r with
 | none=>exact a02 h₁
 | some v=>
   refine a00 (a08 h₁ (fun _ s₁' h₁'=>?_) fun _ _ h'=>h');exact a00 (a08 h₁' (fun _ s₂ h₂=>a00 (a00 (a08 h₂ (fun x s₃ h₃=>a00 (a08 h₃
    (fun _ s₄ h₄=>a02 (a02 ⟨rfl,h₄⟩)) fun _ _ h'=>h')) fun _ _ h'=>h'))) fun _ _ h'=>h')
end
noncomputable def de(k:Nat)(J:It)(H1:Hp)(g:TG)(te:TE)(cs:L2.St)(Q:VK):Prop:=∀ D,H1 D=none->∃ W:Nat->Nat->List V->Hp->Prop,(∃ m,W 0 m [] (upd H1 D (.lst [])))/\
 ∀ i m ys H2,W i m ys H2->(J.stop i H2/\Q (.ref D) H2)\/(J.go i H2/\∀ x H',J.yld i H2 x H'->∀ own:L2.St,own.length=k->g x (own++cs) H' fun σ2 H4=>(∃ own':L2.St,own'.length=k/\σ2=own'++cs)/\
  te σ2 H4 fun v H3=>H3 D=some (.lst ys)/\ys.length<sizeLine/\∃ m',m' < m/\W (i+1) m' (ys++[v]) (upd H3 D (.lst (ys++[v]))))
noncomputable def eU(k:Nat)(wi:TI)(g:TG)(te:TE)(ix:List Nat):TE:=fun σ H Q=>wi σ H fun J H1=>de k J H1 g te (nP σ ix) Q
section
variable {X:Cx}
theorem mR{tg elt iter:a13}{ifs:List a13}{rest:List Comprehension}{os:List Str}{pos ipos:Pos}{scope:Scope}{wi:TI}{G:It->Hp->Addr->Prop}{caps:List (Nat×Str)}{c2t:List (Addr×Obj)}{s:a01}{σ:L2.St}{H:Hp}{Q:VK}{use:Option (Value->Sem Unit)}{R:Value->a01->Prop}(hi:PI X tg iter wi)(hfree:∀ y∈scope.names,y.2=.free->X.env.kindOf y.1=some .cell)(hcap:∀ p∈caps,X.N[p.1]?=some p.2/\X.env.kindOf p.2=some .cell/\((a35 scope X.env).names.lookup p.2=some .cell\/(a35 scope X.env).names.lookup p.2=some .free))(hkind:scope.kind=.function)(hcell:∀ y∈scope.names,y.2≠.cell)(hnames:∀ y∈scope.names,y.2=.local->scope.names.lookup y.1=some .local)(hc:X.calm=true)(hfs:∀ v,a04 iter X.env v=pure v)(hfin:∀ D C H5 s6 m6,n9 X c2t σ H5 s6->s6.heap.Ns C m6->eu X c2t H5 C->Q (.ref D) H5->a74 (a05 X.prog X.w) X.A X.xe use R (.ref D) C (.ok .next) s6)(I:n9 X c2t σ H s)(h:wi σ H fun J H1=>∀ D,H1 D=none->G J H1 D)(hloop:∀ cl C s3 fp it tn J H1 D s4,G J H1 D->nR X.prog X.w X.K tg J fp it tn->n9 (j9 X scope cl (os++caps.map (·.2)) C s3 (upd H1 D (.lst [])) fp) [] (a9s os.length none++nP σ (caps.map (·.1))) (upd H1 D (.lst [])) s4->tn 0 s4.heap->(∀ b∈fp,(upd H1 D (.lst [])) b=none)->
 (∀ H',(∀ b∈fp,H' b=none)->∀ b∈fp,eu (j9 X scope cl (os++caps.map (·.2)) C s3 (upd H1 D (.lst [])) fp) [] H' b)->(∀ σ' H5 s6,n9 (j9 X scope cl (os++caps.map (·.2)) C s3 (upd H1 D (.lst [])) fp) [] σ' H5 s6->Q (.ref D) H5->a74 (a05 X.prog X.w) X.A X.xe use R (.ref D) C (.ok .next) s6)->
 a25 (a05 X.prog X.w) X.A (.compLoop (.ListComp elt (⟨tg,iter,ifs,0⟩ :: rest) scope pos) 0 (.ref it) (.ref D) (a41 scope cl C X.env)) (a74 (a05 X.prog X.w) X.A X.xe use R (.ref D) C) s4) :
 a07 (a05 X.prog X.w) X.A (a66 (.ListComp elt (⟨tg,iter,ifs,0⟩ :: rest) scope pos) scope X.env ipos (b20 []) false (eval iter X.env) use) R X.xe s:=by
 obtain⟨cl,hclos,hcl,hin⟩:=um (scope:=scope) (env:=X.env) fun y hy hf=>I.ok.has y.1 (.inl (hfree y hy hf));have hhas:∀ y,((a35 scope X.env).names.lookup y=some .cell\/(a35 scope X.env).names.lookup y=some .free)->∃ c,cl.lookup y=some c:=fun y hy=>by
  rcases hy with hy | hy
  .exact hin (y,.free) (dE (env:=X.env) hcell hy (.inl rfl)) rfl
  .exact hin (y,.free) (dE (env:=X.env) hcell hy (.inr rfl)) rfl
 refine wpAny_comprehension_free (use:=use) rfl hfs hclos hkind hnames ?_;refine bA (hi c2t s σ H _ I h) fun v s1 h1=>bA h1 fun itv s2 h2=>?_;obtain⟨it,fp,tn,J,H1,rfl,I2,T,st2,f2,rd⟩:=h2;refine a33 ?_ (by show 0<=sizeLine;decide);have hD:H1 s2.heap.objs.size=none:=I2.hok.fresh (a9j _);have hG:=rd s2.heap.objs.size hD;generalize eD:s2.heap.objs.size=D at hD hG;have I3:n9 X c2t σ (upd H1 D (.lst [])) { s2 with heap:=s2.heap.push { cls:=.type "list",data:=.seq ([]:List Value).toArray } }:=by
  subst eD;exact I2.laid (t':=s2.toks) (fun b u e=>Heap.get?_push_of_some _ e) (a9j _) ⟨b1m _,[],0,.nil,Heap.get?_push_size _ rfl⟩
 generalize e3:({ s2 with heap:=s2.heap.push { cls:=.type "list",data:=.seq ([]:List Value).toArray } }:a01)=s3 at I3;have hs3:s3.heap.objs.size=D+1:=by rw[<- e3,<- eD];simp
 have k23:∀ b o,s2.heap.get? b=some o->s3.heap.get? b=some o:=fun b o e=>by rw[<- e3];exact Heap.get?_push_of_some _ e
 refine wpAny_newFunctionEnv hcell (by intro y hy;simp at hy) (fun h4 hn4 hs4=>?_) hkind;have k34:∀ b o,s3.heap.get? b=some o->h4.get? b=some o:=fun b o e=>(hs4.2 b (b0s (Heap.lt_size e))).trans (Heap.get?_push_of_some _ e);generalize eC:s3.heap.objs.size=C at hn4 hs4;have hfpC:∀ b∈fp,b≠C:=fun b hb z=>by
  obtain⟨o,e,_⟩:=T.obj 0 _ st2 b hb;have h1:=Heap.lt_size e;rw[z,<- eC,hs3,eD] at h1;exact absurd h1 (Nat.not_lt.mpr (c0u D))
 have hfps:∀ b∈fp,b∉jC X.stack:=fun b hb z=>by
  rcases a9g.mp (I2.stkSub b z) with q | q
  .exact (f2 b hb).2.1 q
  .exact (f2 b hb).2.2.1 q
 have hfpD:∀ b∈fp,b≠D:=fun b hb z=>by
  obtain⟨o,e,_⟩:=T.obj 0 _ st2 b hb;have h1:=Heap.lt_size e;rw[z,eD] at h1;exact b3m _ h1
 have okc:(j9 X scope cl (os++caps.map (·.2)) C s3 (upd H1 D (.lst [])) fp).Ok:=by
  refine⟨I3.ok.mod,hkind,I3.ok.glob,I3.ok.blt,b8j eC,fun y z c h1 h2=>I3.ok.inj y z c (hcl y c h1) (hcl z c h2),fun y hy=>hhas y hy,fun y c hf=>absurd hf b0a,I3.ok.hd,I3.ok.frames,.inl rfl,
   fun b hb=>⟨hfpC b hb,fun y c e=>(f2 b hb).2.2.2.2.1 y c (hcl y c e)⟩,I3.bs,b0n I3.ok.bsz I3.sz,fun b o e hb=>?_,fun b hb=>hfps b hb,I3.stack,I3.stkFree⟩
  rcases (f2 b hb).2.2.2.1 with z | z
  .exact I3.ok.noex b o e z
  .exact b3m _ (b0k (Heap.lt_size (I3.ok.bs b o e).1) z)
 have capS:(nP σ (caps.map (·.1))).length=caps.length:=by unfold nP;rw[a9a,a9a]
 have Ic:n9 (j9 X scope cl (os++caps.map (·.2)) C s3 (upd H1 D (.lst [])) fp) [] (a9s os.length none++nP σ (caps.map (·.1))) (upd H1 D (.lst [])) { s3 with heap:=h4,toks:=s3.toks+([]:List (Str×Value)).length }:=by
  refine⟨okc,rfl,I3.bare,Un.kept k34,⟨_,hn4,fun i y v e1 e2 e3'=>?_⟩,fun y c e=>?_,I3.hok.fresh (b8j eC),fun y c e=>I3.freeC y c (hcl y c e),fun p hp=>absurd hp (by simp),I3.hok.kept k34,?_⟩
  .by_cases hik:i<os.length
   .rw[a9i (by rw[b0z];exact hik),b5o] at e2;split at e2<;>cases e2
   .have e1':(caps.map (·.2))[i - os.length]?=some y:=by
     have z:(os++caps.map (·.2))[i]?=some y:=e1;rw[a9l (by lia)] at z;exact z
    have e2':(nP σ (caps.map (·.1)))[i - os.length]?=some (some v):=by
     rw[a9l (by rw[b0z];lia),b0z] at e2;exact e2
    generalize i - os.length=i at e1' e2';rw[a9h] at e1';unfold nP at e2';rw[a9h,a9h] at e2';cases q:caps[i]? with
    | none=>rw[q] at e1';cases e1'
    | some p=>
      rw[q] at e1' e2';have ey:p.2=y:=a9t.inj e1';have ev:(σ[p.1]?).getD none=some v:=a9t.inj e2';have es:σ[p.1]?=some (some v):=by
       cases z:σ[p.1]? with
       | none=>rw[z] at ev;cases ev
       | some w'=>rw[z] at ev;exact congrArg some ev
      obtain⟨hN,hk,hv⟩:=hcap p (a9f q);obtain⟨m,_,hl⟩:=I3.loc;obtain⟨u,r,lk⟩:=hl p.1 p.2 v hN es (.inr (.inl hk));rw[ey] at hk hv lk;refine⟨u,r,.inr ⟨hv,?_⟩⟩;obtain⟨c,hc'⟩:=hhas y hv;rcases lk with⟨z,_⟩ | ⟨_,c2,z,ic⟩
      .rw[hk] at z;cases z
      .have ec:=(hcl y c hc').symm.trans z;cases ec;obtain⟨o,ho,hd⟩:=ic;exact⟨c,hc',o,k34 _ _ ho,hd⟩
  .obtain⟨v,o,ho,hd⟩:=I3.cell y c (hcl y c e);exact⟨v,o,k34 _ _ ho,hd⟩
  .show (a9s os.length (none:Option V)++nP σ (caps.map fun p=>p.1)).length=(os++caps.map fun p=>p.2).length;rw[a9b,a9b,b0z,capS,a9a]
 have fpc:∀ H',(∀ b∈fp,H' b=none)->∀ b∈fp,eu (j9 X scope cl (os++caps.map (·.2)) C s3 (upd H1 D (.lst [])) fp) [] H' b:=fun H' hn b hb=>
  ⟨hn b hb,hfpC b hb,hfps b hb,.inl hb,fun y c e=>(f2 b hb).2.2.2.2.1 y c (hcl y c e),fun p hp=>absurd hp (by simp)⟩
 have dQ:tn 0 h4:=T.keep _ _ _ (T.keep _ _ _ st2 fun b _ o e=>k23 b o e) fun b _ o e=>k34 b o e;have fp0:∀ b∈fp,(upd H1 D (.lst [])) b=none:=fun b hb=>by rw[i9 (hfpD b hb)];exact (f2 b hb).1
 have fin:∀ σ' H5 s6,n9 (j9 X scope cl (os++caps.map (·.2)) C s3 (upd H1 D (.lst [])) fp) [] σ' H5 s6->Q (.ref D) H5->a74 (a05 X.prog X.w) X.A X.xe use R (.ref D) C (.ok .next) s6:=fun σ' H5 s6 I6 qn=>by
  obtain⟨m6,hn6,_⟩:=I6.loc;have hs':Heap.SameBut C s6.heap s6.heap:=⟨rfl,fun _ _=>rfl⟩
  generalize eh':s6.heap=h' at hs';have hs':Heap.SameBut C s6.heap h':=by rw[eh'];exact hs'
  have neC:∀ b o,s3.heap.get? b=some o->b≠C:=fun b o e=>b0s (eC ▸ Heap.lt_size e);have ns:∀ b o,s2.heap.get? b=some o->b≠D:=fun b o e=>b0s (eD ▸ Heap.lt_size e);have B:=I6.base;have uu:Un (jC X.stack) fp H1 H5 s2.heap h':=by
   refine⟨fun b o e nn hb hf=>?_,fun b o e nn hb hf=>?_,fun b o e nn hf=>?_,fun b o e hf=>?_,fun b xs e=>?_,fun b o u' e=>?_,fun b ps e=>?_⟩
   .exact (hs'.2 b (neC b o (k23 b o e))).trans (B.keep b o (k23 b o e) (by show (upd H1 D _) b=none;rw[i9 (ns b o e)];exact nn) hb hf)
   .obtain⟨sl,z⟩:=B.slot b o (k23 b o e) (by show (upd H1 D _) b=none;rw[i9 (ns b o e)];exact nn) hb hf;exact⟨sl,(hs'.2 b (neC b o (k23 b o e))).trans z⟩
   .exact B.free b o (k23 b o e) (by show (upd H1 D _) b=none;rw[i9 (ns b o e)];exact nn) hf
   .obtain⟨o',z⟩:=B.there b o (k23 b o e) hf;exact⟨o',(hs'.2 b (neC b o (k23 b o e))).trans z⟩
   .exact B.tups b xs (by show (upd H1 D _) b=_;rw[i9 (n8 e hD)];exact e)
   .exact B.frzs b o u' (by show (upd H1 D _) b=_;rw[i9 (n8 e hD)];exact e)
   .exact B.tbls b ps (by show (upd H1 D _) b=_;rw[i9 (n8 e hD)];exact e)
  have hok':jD X.prog X.w H5 h':=fun b o e=>by
   refine (I6.hok b o e).stay (fun c' u' hc' z=>(hs'.2 c' fun zz=>?_).trans z) (fun _ z=>z) fun _ _ z=>z;have fr:H5 C=none:=I6.free;rcases hc' with hc' | hc'
   .rw[<- zz,hc',e] at fr;cases fr
   .rw[<- zz,hc'] at fr;cases fr
  have ho6:s6.os=s2.os:=I6.os.trans (by show s3.os=s2.os;rw[<- e3]);subst eh';have hC2:s2.heap.objs.size<=C:=by rw[<- eC,hs3,eD];exact c0u D
  exact hfin D C H5 s6 m6 (I2.call' (s':=s6) (ch:=fp) ho6 uu hok' I6.bare (fun b hb=>⟨(f2 b hb).2.2.2.1,(f2 b hb).2.1,(f2 b hb).2.2.2.2.1,(f2 b hb).2.2.2.2.2⟩)) hn6 (I2.fpOk hC2 I6.free) qn
 have loop:=hloop cl C s3 fp it tn J H1 D _ hG T Ic dQ fp0 fpc fin;exact codeAny_compStart_list loop (T.self _ 0 _ _ _ dQ loop)
theorem a6k{Z:Cx}{tg:a13}{g:TG}{i:Nat}{σ:L2.St}{fp:List Addr}{it:Addr}{tn:Nat->Heap->Prop}{J:It}{pn:List (Addr×Obj)}{H:Hp}{s:a01}{E:Value->a01->Prop}{N B:a01->Prop}{Kt:L2.St->Hp->Prop}(hg:PG Z tg g)(hc:Z.calm=true)(hE:∀ v s,Z.xe v s->False)(T:nR Z.prog Z.w Z.K tg J fp it tn)(fpc:∀ H',(∀ b∈fp,H' b=none)->∀ b∈fp,eu Z pn H' b)(I:n9 Z pn σ H s)(st:tn i s.heap)(fr:∀ b∈fp,H b=none)(h:(J.stop i H/\∀ s',n9 Z pn σ H s'->N s')\/(J.go i H/\∀ x H',J.yld i H x H'->g x σ H' Kt))(k:∀ σ2 H4 h7 s',Kt σ2 H4->n9 Z (pn++cf fp h7) σ2 H4 s'->(∀ {σ H5 s5},n9 Z (pn++cf fp h7) σ H5 s5->n9 Z pn σ H5 s5/\tn (i+1) s5.heap/\∀ b∈fp,H5 b=none)->B s') :
 a07 (a05 Z.prog Z.w) Z.A (a52 (.ref it)) (fun r s1=>match r with
  | none=>N s1
  | some v=>a07 (a05 Z.prog Z.w) Z.A (a18 tg (.ref it) v) (fun _ s2=>a07 (a05 Z.prog Z.w) Z.A (a29 tg Z.env v) (fun _ s3=>B s3) E s2) E s1) E s:=by
 rcases h with⟨stop,q⟩ | ⟨go,step⟩
 .refine bA (T.done Z rfl rfl rfl hc i _ s _ H _ I (fpc H fr) st stop) fun r s6 ⟨hr,I6⟩=>?_;subst hr;exact q _ I6
 .refine bA (T.item Z rfl rfl rfl hc i _ s _ H _ I (fpc H fr) st go) fun r s6 ⟨u,hr,h6⟩=>?_;subst hr;refine (bA h6 fun _ s7 ⟨y,H7,I7,r7,y7,st7,fr7⟩=>?_);refine a08 (hg _ s7 _ H7 y u _ (I7.pinned (fpc H7 fr7) (T.obj _ _ st7)) r7 (step y H7 y7)) (fun _ s8 ⟨σ8,H8,I8,q8⟩=>?_) fun _ _ z=>(hE _ _ z).elim;refine k σ8 H8 s7.heap s8 q8 I8 fun {σ H5 s5} I5=>⟨I5.unpinned,T.keep _ _ _ st7 fun b hb o e=>(I5.pin (b,o) (b0j _ (b0j _ (fu hb e)))).1,fun b hb=>?_⟩
  obtain⟨o,e,_⟩:=T.obj _ _ st7 b hb;exact (I5.pin (b,o) (b0j _ (b0j _ (fu hb e)))).2.1
theorem pS{Z:Cx}{elt:a13}{te:TE}{cp own:L2.St}{D:Addr}{ys:List V}{pn:List (Addr×Obj)}{H:Hp}{s:a01}{E:Value->a01->Prop}{F:a01->Prop}{U:V->Hp->Prop}(he:PE Z elt te)(hE:∀ v s,Z.xe v s->False)(I:n9 Z pn (own++cp) H s)(q:te (own++cp) H fun v H3=>H3 D=some (.lst ys)/\ys.length<sizeLine/\U v H3)(k:∀ v H3 s',U v H3->n9 Z pn (own++cp) (upd H3 D (.lst (ys++[v]))) s'->F s') :
 a07 (a05 Z.prog Z.w) Z.A (eval elt Z.env) (fun x s3=>a07 (a05 Z.prog Z.w) Z.A (call (.builtin "list.append") [.ref D,x]) (fun _ s4=>F s4) E s3) E s:=by
 refine a08 (he _ s _ H _ I q) (fun xv s9 ⟨v9,H9,I9,r9,d9,l9,u9⟩=>?_) fun _ _ z=>(hE _ _ z).elim;refine a08 (aO (X:=Z) _ s9 _ H9 (.ref D) [v9] (.ref D) [xv] (fun _ H10=>H10=upd H9 D (.lst (ys++[v9]))) I9 rfl (.cons r9 .nil) ⟨D,ys,v9,rfl,rfl,d9,l9,rfl⟩) (fun _ s10 ⟨_,H10,I10,_,e10⟩=>?_) fun _ _ z=>(hE _ _ z).elim;subst e10;exact k v9 H9 s10 u9 I10
theorem xy{Z:Cx}{tg elt iter:a13}{pos:Pos}{scope:Scope}{g:TG}{te:TE}{no:Nat}{cp:L2.St}{fp:List Addr}{it D:Addr}{tn:Nat->Heap->Prop}{J:It}{H1:Hp}{s4:a01}{Q:VK}{R0:a75->a01->Prop}(hg:PG Z tg g)(he:PE Z elt te)(hc:Z.calm=true)(hE:∀ v s,Z.xe v s->False)(hG:∃ W:Nat->Nat->List V->Hp->Prop,(∃ m,W 0 m [] (upd H1 D (.lst [])))/\
 ∀ i m ys H2,W i m ys H2->(J.stop i H2/\Q (.ref D) H2)\/(J.go i H2/\∀ x H',J.yld i H2 x H'->∀ own:L2.St,own.length=no->g x (own++cp) H' fun σ2 H4=>(∃ own':L2.St,own'.length=no/\σ2=own'++cp)/\
  te σ2 H4 fun v H3=>H3 D=some (.lst ys)/\ys.length<sizeLine/\∃ m',m' < m/\W (i+1) m' (ys++[v]) (upd H3 D (.lst (ys++[v])))))(T:nR Z.prog Z.w Z.K tg J fp it tn)(Ic:n9 Z [] (a9s no none++cp) (upd H1 D (.lst [])) s4)(dQ:tn 0 s4.heap)(fp0:∀ b∈fp,(upd H1 D (.lst [])) b=none)(fpc:∀ H',(∀ b∈fp,H' b=none)->∀ b∈fp,eu Z [] H' b)(fin:∀ σ' H5 s6,n9 Z [] σ' H5 s6->Q (.ref D) H5->R0 (.ok .next) s6) :
  a25 (a05 Z.prog Z.w) Z.A (.compLoop (.ListComp elt [⟨tg,iter,[],0⟩] scope pos) 0 (.ref it) (.ref D) Z.env) R0 s4:=by
 obtain⟨W,⟨m0,w0⟩,turn⟩:=hG;refine mU (fun n s'=>∃ i ys own H',own.length=no/\n9 Z [] (own++cp) H' s'/\tn i s'.heap/\(∀ b∈fp,H' b=none)/\W i n ys H') ?_ m0 ⟨0,[],a9s no none,_,b0z,Ic,dQ,fp0,w0⟩;rintro n s5 ⟨i,ys,own,H5,ho5,I5,st5,fr5,w5⟩;refine a6k hg hc hE T fpc I5 st5 fr5 ((turn i n ys H5 w5).imp (fun z=>⟨z.1,fun s' I6=>fin _ _ _ I6 z.2⟩) fun z=>⟨z.1,fun x H' y=>z.2 x H' y own ho5⟩) fun σ2 H4 h7 s' q8 I8 back=>?_;obtain⟨⟨own1,ho8,rfl⟩,q8⟩:=q8;refine pS he hE I8 q8 fun v H3 s9 ⟨m9,lt9,w9⟩ I10=>?_;exact⟨m9,lt9,i+1,ys++[v],own1,_,ho8,(back I10).1,(back I10).2.1,(back I10).2.2,w9⟩
theorem oN{tg elt iter:a13}{os:List Str}{pos ipos:Pos}{scope:Scope}{wi:TI}{g:TG}{te:TE}{caps:List (Nat×Str)}{c2t:List (Addr×Obj)}{s:a01}{σ:L2.St}{H:Hp}{Q:VK}{use:Option (Value->Sem Unit)}{R:Value->a01->Prop}(hi:PI X tg iter wi)(hg:∀ cl C s0 H0 fp,PG (j9 X scope cl (os++caps.map (·.2)) C s0 H0 fp) tg g)(he:∀ cl C s0 H0 fp,PE (j9 X scope cl (os++caps.map (·.2)) C s0 H0 fp) elt te)(hfree:∀ y∈scope.names,y.2=.free->X.env.kindOf y.1=some .cell)(hcap:∀ p∈caps,X.N[p.1]?=some p.2/\X.env.kindOf p.2=some .cell/\((a35 scope X.env).names.lookup p.2=some .cell\/(a35 scope X.env).names.lookup p.2=some .free))(hkind:scope.kind=.function)(hcell:∀ y∈scope.names,y.2≠.cell)(hnames:∀ y∈scope.names,y.2=.local->scope.names.lookup y.1=some .local)(hc:X.calm=true)(hfs:∀ v,a04 iter X.env v=pure v)(hfin:∀ D C H5 s6 m6,n9 X c2t σ H5 s6->s6.heap.Ns C m6->eu X c2t H5 C->Q (.ref D) H5->a74 (a05 X.prog X.w) X.A X.xe use R (.ref D) C (.ok .next) s6)(I:n9 X c2t σ H s)(h:eU os.length wi g te (caps.map (·.1)) σ H Q) :
 a07 (a05 X.prog X.w) X.A (a66 (.ListComp elt [⟨tg,iter,[],0⟩] scope pos) scope X.env ipos (b20 []) false (eval iter X.env) use) R X.xe s:=by
 refine mR (os:=os) (caps:=caps) hi hfree hcap hkind hcell hnames hc hfs hfin I h (fun cl C s3 fp it tn J H1 D s4 hG T Ic dQ fp0 fpc fin=>?_);exact xy (Z:=(j9 X scope cl (os++caps.map (·.2)) C s3 (upd H1 D (.lst [])) fp)) (hg _ _ _ _ _) (he _ _ _ _ _) hc (fun _ _ z=>z) hG T Ic dQ fp0 fpc fin
theorem yZ{tg elt iter:a13}{os:List Str}{pos:Pos}{scope:Scope}{wi:TI}{g:TG}{te:TE}{caps:List (Nat×Str)}(hi:PI X tg iter wi)(hg:∀ cl C s0 H0 fp,PG (j9 X scope cl (os++caps.map (·.2)) C s0 H0 fp) tg g)(he:∀ cl C s0 H0 fp,PE (j9 X scope cl (os++caps.map (·.2)) C s0 H0 fp) elt te)(hfree:∀ y∈scope.names,y.2=.free->X.env.kindOf y.1=some .cell)(hcap:∀ p∈caps,X.N[p.1]?=some p.2/\X.env.kindOf p.2=some .cell/\((a35 scope X.env).names.lookup p.2=some .cell\/(a35 scope X.env).names.lookup p.2=some .free))(hkind:scope.kind=.function)(hcell:∀ y∈scope.names,y.2≠.cell)(hnames:∀ y∈scope.names,y.2=.local->scope.names.lookup y.1=some .local)(hc:X.calm=true)(hfs:∀ v,a04 iter X.env v=pure v) :
 PE X (.ListComp elt [⟨tg,iter,[],0⟩] scope pos) (eU os.length wi g te (caps.map (·.1))):=by
 intro c2t s σ H Q I h;rw[b07];refine oN (Q:=Q) (use:=none) (R:=EP X c2t σ Q) hi hg he hfree hcap hkind hcell hnames hc hfs (fun D C H5 s6 m6 I6 n6 f6 q6=>?_) I h;refine⟨m6,n6,fun h' hs'=>⟨.ref D,H5,?_,rfl,q6⟩⟩;exact I6.turned (t':=s6.toks) (fun b o hb e=>(hs'.2 b hb).trans e) f6.1 f6.2.1 f6.2.2.2.1 f6.2.2.2.2.1 f6.2.2.2.2.2
theorem yI{tg elt iter:a13}{os:List Str}{i:Nat}{y:Str}{py pos spos:Pos}{scope:Scope}{wi:TI}{g:TG}{te:TE}{caps:List (Nat×Str)}(hN:X.N.Nodup)(hy:X.N[i]?=some y)(hl:X.env.kindOf y=some .local)(hi:PI X tg iter wi)(hg:∀ cl C s0 H0 fp,PG (j9 X scope cl (os++caps.map (·.2)) C s0 H0 fp) tg g)(he:∀ cl C s0 H0 fp,PE (j9 X scope cl (os++caps.map (·.2)) C s0 H0 fp) elt te)(hfree:∀ y∈scope.names,y.2=.free->X.env.kindOf y.1=some .cell)(hcap:∀ p∈caps,X.N[p.1]?=some p.2/\X.env.kindOf p.2=some .cell/\((a35 scope X.env).names.lookup p.2=some .cell\/(a35 scope X.env).names.lookup p.2=some .free))(hkind:scope.kind=.function)(hcell:∀ y∈scope.names,y.2≠.cell)(hnames:∀ y∈scope.names,y.2=.local->scope.names.lookup y.1=some .local)(hc:X.calm=true)(hfs:∀ v,a04 iter X.env v=pure v)(hsw:a51 (.ListComp elt [⟨tg,iter,[],0⟩] scope pos) (some (.Name y py)) spos.line X.env=pure true) :
 PS X (.Assign [.Name y py] (.ListComp elt [⟨tg,iter,[],0⟩] scope pos) spos) (qG (eU os.length wi g te (caps.map (·.1))) (aU i)):=by
 intro c2t s σ H D I h;rw[exec_Assign_Name_used _ _ _ _ hsw];refine a00 (a17 (a00 ?_));show a07 _ X.A (do let _ <- a66 (.ListComp elt [⟨tg,iter,[],0⟩] scope pos) scope X.env _ (b20 []) false (eval iter X.env) (some (a29 (.Name y py) X.env))) _ _ s;refine a00 (a08 (oN (Q:=fun x H1=>aU i x σ H1 D.nx) (use:=some (a29 (.Name y py) X.env)) (R:=fun _ s'=>SP X c2t D .next s') hi hg he hfree hcap hkind hcell hnames hc hfs (fun D' C H5 s6 m6 I6 n6 f6 q6=>?_) I h) (fun _ s' hq=>a02 (a02 hq)) fun _ _ e=>e);show a07 _ X.A (a29 (.Name y py) X.env (.ref D')) _ _ s6;obtain⟨oC,es,ep,hoC,rC⟩:=n6;have dC:∀ v,oC.data≠.cell v:=fun v z=>by
  first
   | (rw[rC.2.1] at z;cases z)
   | (obtain⟨_,hd,_⟩:=rC;rw[hd] at z;cases z)
   | (obtain⟨hd,_⟩:=rC;rw[hd] at z;cases z)
 have Ip:n9 X (c2t++[(C,oC)]) σ H5 s6:=I6.pins_of fun p hp=>(a9k.mp hp).elim (fun z=>I6.pin p (b0j _ z)) fun z=>by
  have e:p=(C,oC):=by simpa using z
  subst e;exact⟨hoC,f6.1,f6.2.1,f6.2.2.1,dC⟩
 refine wpAny_assign_Name (dz Ip hN hy (.inl hl) (v:=.ref D') rfl (fun s7 I7=>?_) (.inr hl));have h7:=(I7.pin (C,oC) (b0j _ (b0j _ (by simp)))).1;refine⟨m6,⟨oC,es,ep,h7,rC⟩,fun h' hs'=>⟨_,H5,?_,q6⟩⟩;have I8:=I7.unpinned;exact I8.turned (t':=s7.toks) (fun b o hb e=>(hs'.2 b hb).trans e) f6.1 f6.2.1 f6.2.2.2.1 f6.2.2.2.2.1 f6.2.2.2.2.2
end
noncomputable def cG(N:List Str)(sc scope:Scope)(caps:List (Nat×Str)):Bool:=
 decide (scope.kind=.function) && scope.names.all (fun y=>decide (y.2≠.cell) && (!decide (y.2=.free) || decide (sc.names.lookup y.1=some .cell)) && (!decide (y.2=.local) || decide (scope.names.lookup y.1=some .local))) &&
  caps.all fun p=>decide (N[p.1]?=some p.2) && decide (sc.names.lookup p.2=some .cell) && decide (scope.names.lookup p.2=some .free)
theorem cA{env:Env}:∀ {names:List (Str×a62)} {y:Str},names.lookup y=some .free->
 (names.map fun (n,k)=>if (k == NameKind.free && env.scope.kind == .function && env.kindOf n == some .cell) then (n,NameKind.cell) else (n,k)).lookup y=some .cell\/
 (names.map fun (n,k)=>if (k == NameKind.free && env.scope.kind == .function && env.kindOf n == some .cell) then (n,NameKind.cell) else (n,k)).lookup y=some .free
 | [],_,h=>by simp at h
 | (n,q)::r,y,h=>by
  rw[b1u] at h;rw[b1q];by_cases hy:y == n
  .rw[hy] at h;cases h;by_cases ht:(NameKind.free == NameKind.free && env.scope.kind == .function && env.kindOf n == some .cell)=true
   .left;simp only[ht];rw[b1u];simp[eq_of_beq hy]
   .right;simp only[ht];rw[b1u];simp[eq_of_beq hy]
  .rw[b6e] at hy;rw[hy] at h;have ih:=cA (env:=env) h;by_cases ht:(q == NameKind.free && env.scope.kind == .function && env.kindOf n == some .cell)=true
   .simp only[ht];rw[b1u];simpa [hy] using ih
   .simp only[ht];rw[b1u];simpa [hy] using ih
section
variable {X:Cx}
theorem rc{tg elt iter:a13}{os:List Str}{pos:Pos}{scope:Scope}{wi:TI}{g:TG}{te:TE}{caps:List (Nat×Str)}(N:List Str)(sc:Scope)(hi:PI X tg iter wi)(hg:∀ cl C s0 H0 fp,PG (j9 X scope cl (os++caps.map (·.2)) C s0 H0 fp) tg g)(he:∀ cl C s0 H0 fp,PE (j9 X scope cl (os++caps.map (·.2)) C s0 H0 fp) elt te)(ok:cG N sc scope caps=true)(hN:X.N=N:=by rfl)(hsc:X.env.scope=sc:=by rfl)(hc:X.calm=true:=by rfl)(hfs:∀ v,a04 iter X.env v=pure v:=by intro _;rfl) :
 PE X (.ListComp elt [⟨tg,iter,[],0⟩] scope pos) (eU os.length wi g te (caps.map (·.1))):=by
 subst hN hsc;unfold cG at ok;simp only[b1g,b2o,decide_eq_true_eq,b6r,b5x,decide_eq_false_iff_not] at ok;obtain⟨⟨h1,h2⟩,h3⟩:=ok;refine yZ hi hg he (fun y hy hf=>?_) (fun p hp=>?_) h1 (fun y hy=>(h2 y hy).1.1) (fun y hy hl=>?_) hc hfs
 .rcases (h2 y hy).1.2 with z | z
  .exact absurd hf z
  .exact z
 .obtain⟨⟨a,b⟩,c⟩:=h3 p hp;exact⟨a,b,cA c⟩
 .rcases (h2 y hy).2 with z | z
  .exact absurd hl z
  .exact z
theorem yH{tg elt iter:a13}{os:List Str}{i:Nat}{y:Str}{py pos spos:Pos}{scope:Scope}{wi:TI}{g:TG}{te:TE}{caps:List (Nat×Str)}(N:List Str)(sc:Scope)(hNd:X.N.Nodup)(hy:X.N[i]?=some y)(hl:X.env.kindOf y=some .local)(hi:PI X tg iter wi)(hg:∀ cl C s0 H0 fp,PG (j9 X scope cl (os++caps.map (·.2)) C s0 H0 fp) tg g)(he:∀ cl C s0 H0 fp,PE (j9 X scope cl (os++caps.map (·.2)) C s0 H0 fp) elt te)(ok:cG N sc scope caps=true)(hN:X.N=N:=by rfl)(hsc:X.env.scope=sc:=by rfl)(hc:X.calm=true:=by rfl)(hfs:∀ v,a04 iter X.env v=pure v:=by intro _;rfl)(hsw:a51 (.ListComp elt [⟨tg,iter,[],0⟩] scope pos) (some (.Name y py)) spos.line X.env=pure true:=by rfl) :
 PS X (.Assign [.Name y py] (.ListComp elt [⟨tg,iter,[],0⟩] scope pos) spos) (qG (eU os.length wi g te (caps.map (·.1))) (aU i)):=by
 subst hN hsc;unfold cG at ok;simp only[b1g,b2o,decide_eq_true_eq,b6r,b5x,decide_eq_false_iff_not] at ok;obtain⟨⟨h1,h2⟩,h3⟩:=ok;refine yI hNd hy hl hi hg he (fun y hy hf=>?_) (fun p hp=>?_) h1 (fun y hy=>(h2 y hy).1.1) (fun y hy hl=>?_) hc hfs hsw
 .rcases (h2 y hy).1.2 with z | z
  .exact absurd hf z
  .exact z
 .obtain⟨⟨a,b⟩,c⟩:=h3 p hp;exact⟨a,b,cA c⟩
 .rcases (h2 y hy).2 with z | z
  .exact absurd hl z
  .exact z
end
noncomputable def bR(H H':Hp):Prop:=∀ b xs,H b=some (.tup xs)->H' b=some (.tup xs)
theorem _root_.L2.b9.tup{H H':Hp}(h:b9 H H'):bR H H':=fun b xs e=>h b _ e
theorem bR.trans{H H1 H2:Hp}(a:bR H H1)(b:bR H1 H2):bR H H2:=fun c xs e=>b c xs (a c xs e)
theorem bR.lst{H:Hp}{D:Addr}{ys:List V}{o:HO}(h:H D=some (.lst ys)):bR H (upd H D o):=fun b xs e=>by
 rw[i9 (fun z=>by rw[z,h] at e;cases e)];exact e
theorem bh.tup{H H':Hp}{v:V}{q:Rat}(h:bh H v q)(e:bR H H'):bh H' v q:=by
 obtain⟨a,rfl,h⟩:=h;exact⟨a,rfl,e _ _ h⟩
noncomputable def fv(J:It)(H1:Hp)(n:Nat)(f:Nat->V):Prop:=∀ H2,b9 H1 H2->∀ i,(i<n->J.go i H2/\∀ x H',J.yld i H2 x H'->H'=H2/\x=f i)/\(i=n->J.stop i H2)
noncomputable def gm(K:a8z)(J:It)(H1:Hp)(n:Nat)(f g:Nat->V):Prop:=∀ H2,b9 H1 H2->∀ i,(i<n->J.go i H2/\∀ x H',J.yld i H2 x H'->b9 H2 H'/\∃ a,x=.ref a/\aj K H' a [f i,g i])/\(i=n->J.stop i H2)
theorem fR(lo:Int)(n:Nat)(H1:Hp):fv (a2a lo n) H1 n fun i=>.int (lo+i):=fun H2 _ i=>
 ⟨fun hi=>⟨hi,fun x H' y=>⟨y.1,y.2⟩⟩,fun e=>by subst e;exact a9j _⟩
theorem ae{K:a8z}{a:Addr}{xs:List V}{H1:Hp}(h:o7 K H1 a xs):fv (M4 K a) H1 xs.length fun i=>(xs[i]?).getD .non:=fun H2 s i=>
 ⟨fun hi=>⟨⟨xs,xs[i],s.seq h,by simp[hi]⟩,fun x H' y=>⟨y.1,by show x=(xs[i]?).getD .non;rw[y.2 xs (s.seq h)];rfl⟩⟩,fun e=>by subst e;exact⟨xs,s.seq h,a9j _⟩⟩
theorem j8{n:Nat}(h:n<=100000):n<sizeLine:=b2s h (by rw[a89];decide)
section
variable {K:a8z} {J:It} {H1:Hp} {te:TE} {cs:L2.St} {Q:VK} {n:Nat}
theorem en{f:Nat->V}(hJ:fv J H1 n f)(hn:n<=100000)(R:Nat->V->Hp->Prop)(hR:∀ i v H H',bR H H'->R i v H->R i v H')(he:∀ i H2 (k:VK),i<n->b9 H1 H2->(∀ v H3,b9 H2 H3->R i v H3->k v H3)->te (some (f i)::cs) H2 k)(hq:∀ D ys H2,H1 D=none->b9 H1 H2->H2 D=some (.lst ys)->ys.length=n->(∀ i v,ys[i]?=some v->R i v H2)->Q (.ref D) H2) :
 de 1 J H1 (aU 0) te cs Q:=by
 intro D hD;refine⟨fun i m ys H2=>m=n - i/\i<=n/\ys.length=i/\b9 H1 H2/\H2 D=some (.lst ys)/\∀ j v,ys[j]?=some v->R j v H2,⟨n,by simp,b1m _,rfl,b9.new hD,b7,fun j v e=>by simp at e⟩,?_⟩;rintro i m ys H2 ⟨rfl,hi,hl,s2,d2,r2⟩;by_cases hlt:i<n
 .refine .inr ⟨((hJ H2 s2 i).1 hlt).1,fun x H' y own ho=>?_⟩;obtain⟨rfl,rfl⟩:=((hJ H2 s2 i).1 hlt).2 x H' y;cases own with
  | nil=>cases ho
  | cons o1 r=>
    cases r with
    | cons _ _=>cases ho
    | nil=>
      refine⟨⟨[some (f i)],rfl,rfl⟩,he i _ _ hlt s2 fun v H3 s3 r3=>⟨s3 _ _ d2,j8 (by lia),n - (i+1),by lia,rfl,hlt,by rw[a9b,hl];rfl,fun b o e=>?_,b7,fun j w e=>?_⟩⟩
      .rw[i9 (n8 e hD)];exact s3 _ _ (s2 _ _ e)
      .have t3:bR H3 (upd H3 D (.lst (ys++[v]))):=bR.lst (s3 _ _ d2);by_cases hj:j<ys.length
       .rw[a9i hj] at e;exact hR _ _ _ _ (s3.tup.trans t3) (r2 j w e)
       .rw[a9l (by lia)] at e;have hj0:j - ys.length=0:=by
         cases q:j - ys.length with
         | zero=>rfl
         | succ k=>rw[q] at e;simp at e
        rw[hj0] at e;have e':v=w:=by simpa using e
        have hji:j=i:=by lia
        rw[<- e',hji];exact hR _ _ _ _ t3 r3
 .have e:i=n:=by lia
  subst e;exact .inl ⟨(hJ H2 s2 i).2 rfl,hq D ys H2 hD s2 d2 hl r2⟩
theorem mV{f g:Nat->V}(hJ:gm K J H1 n f g)(hn:n<=100000)(R:Nat->V->Hp->Prop)(hR:∀ i v H H',bR H H'->R i v H->R i v H')(he:∀ i H2 (k:VK),i<n->b9 H1 H2->(∀ v H3,b9 H2 H3->R i v H3->k v H3)->te (some (f i)::some (g i)::cs) H2 k)(hq:∀ D ys H2,H1 D=none->b9 H1 H2->H2 D=some (.lst ys)->ys.length=n->(∀ i v,ys[i]?=some v->R i v H2)->Q (.ref D) H2) :
 de 2 J H1 (mM K 2 (cu (aU 0) (cu (aU 1) nK))) te cs Q:=by
 intro D hD;refine⟨fun i m ys H2=>m=n - i/\i<=n/\ys.length=i/\b9 H1 H2/\H2 D=some (.lst ys)/\∀ j v,ys[j]?=some v->R j v H2,⟨n,by simp,b1m _,rfl,b9.new hD,b7,fun j v e=>by simp at e⟩,?_⟩;rintro i m ys H2 ⟨rfl,hi,hl,s2,d2,r2⟩;by_cases hlt:i<n
 .refine .inr ⟨((hJ H2 s2 i).1 hlt).1,fun x H' y own ho=>?_⟩;obtain⟨s2',a,rfl,ht⟩:=((hJ H2 s2 i).1 hlt).2 x H' y;cases own with
  | nil=>cases ho
  | cons o1 r=>
    cases r with
    | nil=>cases ho
    | cons o2 r=>
      cases r with
      | cons _ _=>cases ho
      | nil=>
        refine⟨a,_,rfl,ht,rfl,_,_,rfl,_,_,rfl,rfl,⟨[some (f i),some (g i)],rfl,rfl⟩,he i _ _ hlt (s2.trans s2') fun v H3 s3 r3=>⟨s3 _ _ (s2' _ _ d2),j8 (by lia),n - (i+1),by lia,rfl,hlt,by rw[a9b,hl];rfl,fun b o e=>?_,b7,fun j w e=>?_⟩⟩
        .rw[i9 (n8 e hD)];exact s3 _ _ (s2' _ _ (s2 _ _ e))
        .have t3:bR H3 (upd H3 D (.lst (ys++[v]))):=bR.lst (s3 _ _ (s2' _ _ d2));by_cases hj:j<ys.length
         .rw[a9i hj] at e;exact hR _ _ _ _ ((s2'.trans s3).tup.trans t3) (r2 j w e)
         .rw[a9l (by lia)] at e;have hj0:j - ys.length=0:=by
           cases q:j - ys.length with
           | zero=>rfl
           | succ k=>rw[q] at e;simp at e
          rw[hj0] at e;have e':v=w:=by simpa using e
          have hji:j=i:=by lia
          rw[<- e',hji];exact hR _ _ _ _ t3 r3
 .have e:i=n:=by lia
  subst e;exact .inl ⟨(hJ H2 s2 i).2 rfl,hq D ys H2 hD s2 d2 hl r2⟩
end
section
variable {X:Cx}
theorem j3(K:a8z)(h:X.K=K:=by rfl):a6n X (a7n K):=by subst h;exact V8
theorem i4(K:a8z)(h:X.K=K:=by rfl):a6n X (a7m K):=by subst h;exact a5b
theorem fJ(K:a8z)(h:X.K=K:=by rfl):a6m X (a7j K):=by subst h;exact N8
theorem pA(K:a8z)(h:X.K=K:=by rfl):a6m X (a7i K):=by subst h;exact a2r
theorem lm(K:a8z)(hu:X.A.units+64<cLine)(h:X.K=K:=by rfl):iH X (a32 .Eq) (a7o K):=by subst h;exact a4f hu
theorem pK(K:a8z)(hu:X.A.units+64<cLine)(h:X.K=K:=by rfl):iH X (a32 .NotEq) (a7l K):=by subst h;exact a4d hu
theorem bz(K:a8z)(h:X.K=K:=by rfl):bP X (.builtin "len") (fun xs H Q=>∃ p ys,xs=[.ref p]/\(o7 K H p ys\/aj K H p ys)/\Q (.int ys.length) H):=by subst h;exact qf
theorem dr(K:a8z)(h:X.K=K:=by rfl):bP X (.builtin "isinstance") (fun xs H Q=>∃ x T t b,xs=[x,.ty T]/\fD K H x t/\b1i K t (.type T)=some b/\Q (.bl b) H):=by subst h;exact K2
theorem fV(K:a8z)(h:X.K=K:=by rfl):iH X (a36 .Add) (a0y K):=by subst h;exact T7
theorem R6(K:a8z){es:List a13}{k:Nat}{t:wb}{n:Nat}{pos:Pos}(hc:X.calm=true)(h:a5z X es t)(hK:X.K=K:=by rfl)(hn:(a24 es X.env).length=n:=by rfl)(hst:(a24 es X.env).findIdx? (·.1)=none:=by rfl):PG X (.Tuple es k pos) (mM K n t):=by subst hK;exact a3n hc h hn hst
noncomputable def a0t(K:a8z)(te:TE)(ts:TO):TE:=fun σ H Q=>te σ H fun x H1=>ts σ H1 fun o H2=>o=some (-1)/\∃ (a:Addr) (xs:List V),x=.ref a/\o7 K H2 a xs/\∀ l,H2 l=none->Q (.ref l) (upd H2 l (.lst xs.reverse))
theorem re(K:a8z){e:a13}{st:a13}{te:TE}{ts:TO}{p2 pos:Pos}(he:PE X e te)(hs:PO X (some st) ts)(hK:X.K=K:=by rfl):PE X (.Subscript e (.Slice none none (some st) p2) pos) (a0t K te ts):=by
 subst hK;intro c2t s σ H Q I h;refine Subscript_ (bA (he c2t s σ H _ I h) fun v s1 ⟨x,H1,I1,r1,q1⟩=>?_);refine wpAny_Slice ?_;rw[b08];refine a02 ?_;refine a02 ?_;refine bA (hs c2t s1 σ H1 _ I1 q1) fun vs s3 ⟨o,H3,I3,pu,q3⟩=>?_;obtain⟨rfl,a,xs,rfl,hq,q⟩:=q3;cases r1;have I4:n9 X c2t σ H3 { s3 with heap:=s3.heap.push { cls:=.type "slice",data:=.fields #[.none,.none,vs] } }:=I3.kept (t':=s3.toks) fun b ob q=>Heap.get?_push_of_some _ q;obtain⟨its,r,ht,hz⟩:=I4.list hq;have hlen:=r.length;have hg:a07 (a05 X.prog X.w) X.A (a92 (.ref a) (.ref s3.heap.objs.size)) (EP X c2t σ Q) X.xe { s3 with heap:=s3.heap.push { cls:=.type "slice",data:=.fields #[.none,.none,vs] } }:=by
  refine b04 ht.isList (Heap.IsSliceOf.new ..) .none .none pu (by decide) ?_ (by rw[a9p]<;>lia);rw[PySem.W.krv_pick];refine⟨.ref _,_,I4.laid (t':=s3.toks) (o:=.lst xs.reverse) (fun b ob q=>Heap.get?_push_of_some _ q) (a9j _) ?_,rfl,q _ (I4.hok.fresh (a9j _))⟩;exact⟨by rw[b0x];exact hz,_,0,r.reverse,Heap.get?_push_size _ rfl⟩
 show a07 (a05 X.prog X.w) X.A (b06 e (.Slice none none (some st) p2) (.ref a) (.ref s3.heap.objs.size)) (EP X c2t σ Q) X.xe { s3 with heap:=s3.heap.push { cls:=.type "slice",data:=.fields #[.none,.none,vs] } };exact tail_any (ops:=[.ref a,.ref s3.heap.objs.size]) ht.isList.typeIs slot_list_getitem.lookup hg (by with_unfolding_all rfl)
end
section
variable {X:Cx} {c2t:List (Addr×Obj)} {σ:L2.St} {H:Hp} {s:a01} {h':Heap}
theorem wn{t':Nat}{ch:List Addr}{a:Addr}{o:HO}(I:n9 X c2t σ H s)(hf:∀ b∈ch,eu X c2t H b)(k:∀ b o,b∉ch->s.heap.get? b=some o->h'.get? b=some o)(ha:s.heap.objs.size<=a)(new:bK X.prog X.w (upd H a o) h' a o):n9 X c2t σ (upd H a o) { s with heap:=h',toks:=t' }:=by
 have hna:H a=none:=I.hok.fresh ha;have nit:∀ b u,H b=some u->b∉ch:=fun b u e z=>by rw[(hf b z).1] at e;cases e
 have up:∀ b u,H b=some u->upd H a o b=some u:=fun b u e=>by rw[i9 (n8 e hna)];exact e
 refine I.step (g':=s.gens) (d':=s.drawn) (ch:=ch) (fun b hb=>⟨(hf b hb).2.2.2.1,(hf b hb).2.1,(hf b hb).2.2.2.2.1,(hf b hb).2.2.2.2.2⟩) (fun b o _ _ hc e _=>k b o hc e) (fun b o _ _ hc e _=>⟨o.slots,k b o hc e⟩) (fun b o _ e n=>?_)
  (fun b o hc e=>⟨o,k b o hc e⟩) (fun _ _ e=>up _ _ e) (fun _ _ _ e=>up _ _ e) (fun b ps e=>⟨#[],by rw[up _ _ e];simp⟩) (fun m hm=>?_) (fun b u e=>?_) I.bare
 .rw[i9 (fun z=>by rw[z] at e;exact absurd (Heap.lt_size e) (Nat.not_lt.mpr ha))];exact n
 .obtain⟨o,es,ep,ho,r⟩:=hm;exact⟨o,es,ep,k _ o (fun z=>(hf _ z).2.1 rfl) ho,r⟩
 .by_cases hb:b=a
  .subst hb;rw[b7] at e;cases e;exact new
  .rw[i9 hb] at e;refine (I.hok b u e).stay (fun c v hc q=>k c v ?_ q) (fun _ q=>up _ _ q) fun _ _ q=>up _ _ q;rcases hc with z | z
   .rw[z];exact nit b u e
   .exact nit c _ z
theorem N5{t':Nat}{ch:List Addr}(I:n9 X c2t σ H s)(hf:∀ b∈ch,eu X c2t H b)(k:∀ b o,b∉ch->s.heap.get? b=some o->h'.get? b=some o):n9 X c2t σ H { s with heap:=h',toks:=t' }:=by
 have nit:∀ b u,H b=some u->b∉ch:=fun b u e z=>by rw[(hf b z).1] at e;cases e
 refine I.step (g':=s.gens) (d':=s.drawn) (ch:=ch) (fun b hb=>⟨(hf b hb).2.2.2.1,(hf b hb).2.1,(hf b hb).2.2.2.2.1,(hf b hb).2.2.2.2.2⟩) (fun b o _ _ hc e _=>k b o hc e) (fun b o _ _ hc e _=>⟨o.slots,k b o hc e⟩) (fun _ _ _ _ n=>n)
  (fun b o hc e=>⟨o,k b o hc e⟩) (fun _ _ e=>e) (fun _ _ _ e=>e) (fun b ps e=>⟨#[],by rw[e];simp⟩) (fun m hm=>?_) (fun b u e=>?_) I.bare
 .obtain⟨o,es,ep,ho,r⟩:=hm;exact⟨o,es,ep,k _ o (fun z=>(hf _ z).2.1 rfl) ho,r⟩
 .refine (I.hok b u e).stay (fun c v hc q=>k c v ?_ q) (fun _ q=>q) fun _ _ q=>q;rcases hc with z | z
  .rw[z];exact nit b u e
  .exact nit c _ z
end
noncomputable def Itz(K:a8z)(l1 l2:Addr):It:=
 ⟨fun i H=>∃ xs ys x y,o7 K H l1 xs/\o7 K H l2 ys/\xs[i]?=some x/\ys[i]?=some y,
  fun i H v H'=>∃ T a b,v=.ref T/\H T=none/\H'=upd H T (.tup [a,b])/\(∀ xs,o7 K H l1 xs->xs[i]?=some a)/\∀ ys,o7 K H l2 ys->ys[i]?=some b,
  fun i H=>∃ xs ys,o7 K H l1 xs/\o7 K H l2 ys/\(xs[i]?=none\/ys[i]?=none)⟩
theorem ya{P:a15}{w:a20}{K:a8z}{elts:List a13}{k0:Nat}{pos:Pos}{z TI TO i1 i2 l1 l2:Addr}(D:ZipApart z TI TO i1 i2 l1 l2):nR P w K (.Tuple elts k0 pos) (Itz K l1 l2) [z,TI,TO,i1,i2] z
 (fun i h=>IsZip h z TI TO .none/\IsPair h TI (.ref i1) (.ref i2)/\(∃ a b,IsPair h TO a b)/\h.IsListIter i1 l1 i/\h.IsListIter i2 l2 i) where
 mem:=by simp
 obj:=fun i h st b hb=>by
  obtain⟨hz,hTI,⟨a,b',hTO⟩,⟨o1,e1,c1,d1⟩,⟨o2,e2,c2,d2⟩⟩:=st;simp only[a9g,a9w,or_false] at hb;rcases hb with rfl | rfl | rfl | rfl | rfl
  .exact⟨_,hz,fun v q=>by have q':Data.fields _=Data.cell v:=q;cases q'⟩
  .exact⟨_,hTI,fun v q=>by have q':Data.seq _ _=Data.cell v:=q;cases q'⟩
  .exact⟨_,hTO,fun v q=>by have q':Data.seq _ _=Data.cell v:=q;cases q'⟩
  .exact⟨_,e1,fun v q=>by rw[d1] at q;cases q⟩
  .exact⟨_,e2,fun v q=>by rw[d2] at q;cases q⟩
 keep:=fun i h h' st k=>by
  obtain⟨hz,hTI,⟨a,b,hTO⟩,h1,h2⟩:=st;exact⟨k z (by simp) _ hz,k TI (by simp) _ hTI,⟨a,b,k TO (by simp) _ hTO⟩,h1.at fun o e=>k i1 (by simp) o e,h2.at fun o e=>k i2 (by simp) o e⟩
 item:=by
  intro X hP hw hK hc i c2t s σ H E I hf st hg;subst hP hw hK;obtain⟨xs,ys,x,y,hq1,hq2,hx,hy⟩:=hg;obtain⟨hz,hTI,⟨a,b,hTO⟩,h1,h2⟩:=st;obtain⟨its1,rv1,p1,hz1⟩:=I.list hq1;obtain⟨its2,rv2,p2,hz2⟩:=I.list hq2;obtain⟨u1,hu1,ru1⟩:=rv1.get hx;obtain⟨u2,hu2,ru2⟩:=rv2.get hy;refine wpAny_pyNext_zip_item D hz hTI hTO h1 h2 p1.isList p2.isList (x:=u1) (y:=u2) (by simpa using hu1) (by simpa using hu2) fun h' a1 a2 a3 a4 a5 a6 a7=>?_;refine⟨_,rfl,wpAny_letOwnedTupleGo_zip a1 fun h'' b1 b2=>?_⟩;have hT:H s.heap.objs.size=none:=I.hok.fresh (a9j _);have neT:∀ {c o},s.heap.get? c=some o->c≠s.heap.objs.size:=fun e=>b0s (Heap.lt_size e);have kk:∀ b o,b∉[z,TI,TO,i1,i2]->s.heap.get? b=some o->h''.get? b=some o:=fun b o hb e=>by
   simp only[a9g,a9w,or_false,not_or] at hb;exact b2.extBut b o hb.1 (a7 b o hb.1 hb.2.2.1 hb.2.2.2.1 hb.2.2.2.2 e)
  have tT:h''.get? s.heap.objs.size=some { cls:=.type "tuple",data:=.seq #[u1,u2] }:=b2.extBut _ _ (Ne.symm (neT hz)) a5;have I1:=wn (t':=s.toks) (a:=s.heap.objs.size) (o:=.tup [x,y]) (h':=h'') I hf kk (a9j _) ⟨by show 2<=sizeLine;decide,[u1,u2],.cons ru1 (.cons ru2 .nil),⟨_,tT,rfl,_,rfl⟩⟩;refine⟨.ref s.heap.objs.size,_,I1,rfl,⟨s.heap.objs.size,x,y,rfl,hT,rfl,fun xs' hx'=>by rw[I.list_inj hx' hq1];exact hx,fun ys' hy'=>by rw[I.list_inj hy' hq2];exact hy⟩,?_,fun c hc=>?_⟩
  .exact⟨b1,b2.extBut _ _ D.TIz (a7 _ _ D.TIz D.TITO D.TIi1 D.TIi2 hTI),⟨_,_,b2.extBut _ _ D.TOz a2⟩,a3.extBut b2.extBut D.i1z,a4.extBut b2.extBut D.i2z⟩
  .have e0:=(hf c hc).1;rw[i9 ?_]
   .exact e0
   .intro q;obtain⟨o1,e1,_⟩:=h1;obtain⟨o2,e2,_⟩:=h2;simp only[a9g,a9w,or_false] at hc;rcases hc with rfl | rfl | rfl | rfl | rfl
    .exact neT hz q
    .exact neT hTI q
    .exact neT hTO q
    .exact neT e1 q
    .exact neT e2 q
 done:=by
  intro X hP hw hK hc i c2t s σ H E I hf st hg;subst hP hw hK;obtain⟨xs,ys,hq1,hq2,hend⟩:=hg;obtain⟨hz,hTI,⟨a,b,hTO⟩,h1,h2⟩:=st;obtain⟨its1,rv1,p1,hz1⟩:=I.list hq1;obtain⟨its2,rv2,p2,hz2⟩:=I.list hq2;refine wpAny_pyNext_zip_end (I.ok.hd hc) D hz hTI hTO h1 h2 p1.isList p2.isList (hend.imp (fun e=>by simpa using rv1.none_of e) fun e=>by simpa using rv2.none_of e) fun h' kk=>⟨rfl,N5 (t':=s.toks) I hf fun b o hb e=>?_⟩
  simp only[a9g,a9w,or_false,not_or] at hb;exact kk b o hb.1 hb.2.2.1 hb.2.2.2.1 hb.2.2.2.2 e
 self:=fun _ _ _ _ _ st h=>wpAny_pyIter_zip st.1 h
section
variable {X:Cx}
noncomputable def W9(K:a8z)(ta:TA):TI:=fun σ H R=>ta σ H fun vs H1=>∃ l1 l2,vs=[.ref l1,.ref l2]/\(∃ xs,o7 K H1 l1 xs)/\(∃ ys,o7 K H1 l2 ys)/\R (Itz K l1 l2) H1
theorem a3l{a b:a13}{ta:TA}{p pos ppos:Pos}{elts:List a13}{k0:Nat}(hg:Gl X "zip")(hm:X.mg "zip" = none)(ha:PA X [a,b] ta)(he:a11 [a,b] X.env=(false,eval a X.env)::a11 [b] X.env:=by rfl)(hpl:(a37 pos (a11 [b] X.env)).any (·.1)=false:=by rfl):PI X (.Tuple elts k0 ppos) (.Call (.Name "zip" p) [a,b] [] pos) (W9 X.K ta):=by
 intro c2t s σ H R I h;refine a45 (jV I hg hm boot_zip ?_ (by decide) (by decide));refine b3f (bA (ha pos c2t s σ H _ I h) fun us s1 ⟨vs,H1,I1,r1,q1⟩=>?_) he hpl;obtain⟨l1,l2,rfl,⟨xs,hq1⟩,⟨ys,hq2⟩,q⟩:=q1;obtain⟨u1,u2,rfl,e1,e2⟩:=iN r1;cases e1;cases e2;obtain⟨its1,rv1,p1,hz1⟩:=I1.list hq1;obtain⟨its2,rv2,p2,hz2⟩:=I1.list hq2;have a1:l1<s1.heap.objs.size:=by obtain⟨_,e,_⟩:=p1.isList;exact Heap.lt_size e
 have a2:l2<s1.heap.objs.size:=by obtain⟨_,e,_⟩:=p2.isList;exact Heap.lt_size e
 refine call_zip_2 p1.isList p2.isList fun h' hz hTI hTO hi1 hi2 _ hk=>?_;refine wpAny_pyIter_zip hz ?_;refine⟨_,[s1.heap.objs.size+4,s1.heap.objs.size+2,s1.heap.objs.size+3,s1.heap.objs.size,s1.heap.objs.size+1],_,_,H1,rfl,I1.kept (t':=s1.toks) hk,ya (zipApart_new a1 a2),⟨hz,hTI,⟨_,_,hTO⟩,hi1,hi2⟩,fun c hc=>?_,q⟩;have hge:s1.heap.objs.size<=c:=by
  simp only[a9g,a9w,or_false] at hc;rcases hc with rfl | rfl | rfl | rfl | rfl<;>lia
 exact I1.fpOk hge (I1.hok.fresh hge)
theorem oy{K:a8z}{l1 l2:Addr}{xs ys:List V}{H1:Hp}(h1:o7 K H1 l1 xs)(h2:o7 K H1 l2 ys):gm K (Itz K l1 l2) H1 (min xs.length ys.length) (fun i=>(xs[i]?).getD .non) (fun i=>(ys[i]?).getD .non):=fun H2 s i=>by
 refine⟨fun hi=>⟨⟨xs,ys,xs[i]'(by omega (config:={})),ys[i]'(by omega (config:={})),s.seq h1,s.seq h2,by simp[show i<xs.length by lia],by simp[show i<ys.length by lia]⟩,fun x H' y=>?_⟩,fun e=>⟨xs,ys,s.seq h1,s.seq h2,?_⟩⟩
 .obtain⟨T,a,b,rfl,hT,rfl,e1,e2⟩:=y;refine⟨b9.new hT,T,rfl,?_⟩;show aj K _ T [(xs[i]?).getD .non,(ys[i]?).getD .non];rw[e1 xs (s.seq h1),e2 ys (s.seq h2)];exact aj.of b7
 .rcases Nat.le_total xs.length ys.length with h | h
  .exact .inl (a9v (by lia))
  .exact .inr (a9v (by lia))
theorem xH(bs:List Bool):(b0y bs.length).all (fun i=>(bs[i]?).getD false)=bs.all id:=by
 rw[b5j,b2o,b2o];constructor
 .intro h b hb;obtain⟨i,hi,rfl⟩:=a9o hb;have:=h i (b1c.mpr hi);simpa [hi] using this
 .intro h i hi;have hi':=b1c.mp hi;have:=h bs[i] (a9n hi');simpa [hi'] using this
theorem wD{bs:List Bool}{us:List Value}(r:x9 (bs.map V.bl) us):us=bs.map Value.bool:=by
 induction bs generalizing us with
 | nil=>cases r;rfl
 | cons b r' ih=>
   cases r with
   | cons p q=>rw[b1q,<- ih q];cases p;rfl
theorem xD(hc:X.calm=true):bP X (.builtin "all") (fun xs H Q=>∃ (p:Addr) (bs:List Bool),xs=[.ref p]/\o7 X.K H p (bs.map V.bl)/\Q (.bl (bs.all id)) H):=by
 intro c2t s σ H xs us Q I r h;obtain⟨p,bs,rfl,hq,q⟩:=h;obtain⟨u,rfl,ru⟩:=fG r;cases ru;obtain⟨its,rv,pl,hz⟩:=I.list hq;have e:=wD rv;subst e;have a1:p<s.heap.objs.size:=by obtain⟨_,e,_⟩:=pl.isList;exact Heap.lt_size e
 have hne:p≠s.heap.objs.size:=b0s a1;refine call_all_walk (a82 pl.isList ⟨_,_,_,_,_,_,fun i=>(bs[i]?).getD false,rfl,Walks.list (A:=X.A.in1) (show X.A.in1.handled=none from I.ok.hd hc) _ p hne _,⟨⟨_,Heap.get?_push_size _ rfl,rfl,rfl⟩,Heap.IsList.push pl.isList _⟩,fun i v s' Q' E' hv hQ=>?_,fun h' tk hk=>?_⟩)
 .have hv':(bs.map Value.bool)[i]?=some v:=by simpa using hv
  have hQ:Q' ((bs[i]?).getD false) s':=hQ;rw[a9h] at hv';cases eb:bs[i]? with
  | none=>rw[eb] at hv';cases hv'
  | some b=>
    rw[eb] at hv' hQ;cases hv';exact a42 hQ
 .have ea:(b0y (bs.map Value.bool).toArray.size).all (fun i=>(bs[i]?).getD false)=bs.all id:=by
   rw[<- xH bs];simp
  rw[ea];exact⟨.bl _,H,I.kept (h':=h') (t':=tk) (fun b o eb=>hk b o (by
   intro hm;have:b=s.heap.objs.size:=by simpa using hm
   rw[this] at eb;exact absurd (Heap.lt_size eb) (b3m _)) (Heap.get?_push_of_some _ eb)),rfl,q⟩
end
section
set_option autoImplicit true
@[irreducible] def ao(X:Cx)(e:a13)(t:TE):Prop:=PE X e t
@[irreducible] def uC(X:Cx)(e:List a13)(t:TA):Prop:=PA X e t
@[irreducible] def xK(X:Cx)(e:a13)(t:TT):Prop:=PT X e t
@[irreducible] def a5x(X:Cx)(e:a13)(t:TT):Prop:=PW X e t
@[irreducible] def qv(X:Cx)(e:Stmt)(t:TS):Prop:=PS X e t
@[irreducible] def fE(X:Cx)(e:List Stmt)(t:TS):Prop:=qu X e t
@[irreducible] def qx(X:Cx)(e:a13)(t:TG):Prop:=PG X e t
@[irreducible] def L8(X:Cx)(e:List a13)(t:wb):Prop:=a5z X e t
@[irreducible] def qw(X:Cx)(tg e:a13)(t:TI):Prop:=PI X tg e t
@[irreducible] def a8s(X:Cx)(e:Option a13)(t:TO):Prop:=PO X e t
theorem f8(i:Nat){x:Str}{pos:Pos}(hN:X.N[i]?=some x:=by rfl)(hv:a8p X.env.scope x:=by first | exact Or.inl rfl | exact Or.inr (Or.inl rfl) | exact Or.inr (Or.inr rfl))(hd:(x == ("__debug__" : Str))=false:=by decide)(hcd:(x == ("__classdict__" : Str))=false:=by decide):ao X (.Name x pos) (a2j i):=by with_unfolding_all exact pv (i:=i) (hN:=hN) (hv:=hv) (hd:=hd) (hcd:=hcd)
theorem b6{i j pos}:ao X (.Constant (.int i) j pos) (tC (.int i)):=by with_unfolding_all exact a3y
theorem iw{b j pos}:ao X (.Constant (.bool b) j pos) (tC (.bl b)):=by with_unfolding_all exact a7z
theorem pJ{j pos}:ao X (.Constant .none j pos) (tC .non):=by with_unfolding_all exact a3w
theorem vq{x j pos}:ao X (.Constant (.str x) j pos) (tC (.str x)):=by with_unfolding_all exact a3s
theorem fT{x:Str}{v:V}{u:Value}{pos:Pos}(hg:Gl X x)(hm:X.mg x=some u)(r:am v u)(hd:(x == ("__debug__" : Str))=false:=by decide):ao X (.Name x pos) (tC v):=by with_unfolding_all exact S5 (hg:=hg) (hm:=hm) (r:=r) (hd:=hd)
theorem dG{x:Str}{v:V}{u:Value}{pos:Pos}(hg:Gl X x)(hm:X.mg x=none)(hv:a39 x=some u)(r:am v u)(hn:x ≠ "__name__":=by decide)(hd:(x == ("__debug__" : Str))=false:=by decide):ao X (.Name x pos) (tC v):=by with_unfolding_all exact S8 (hg:=hg) (hm:=hm) (hv:=hv) (r:=r) (hn:=hn) (hd:=hd)
theorem d8{op:b01}{r:R2}(ho:iH X (a36 op) r)(ha:ao X a ta)(hb:ao X b tb):ao X (.BinOp a op b pos) (a0m r ta tb):=by with_unfolding_all exact a7u (ho:=ho) (ha:=ha) (hb:=hb)
theorem dF{op:UnaryOp}{r:V->Hp->VK->Prop}(ho:UnR X (unaryOp op) r)(ha:ao X a ta):ao X (.UnaryOp op a pos) (tUn r ta):=by with_unfolding_all exact a7s (ho:=ho) (ha:=ha)
theorem cC{op:CmpOp}{r:R2}(ho:iH X (a32 op) r)(ha:ao X a ta)(hb:ao X b tb)(hm:a56 op b=false):ao X (.Compare a [op] [b] pos) (a0m r ta tb):=by with_unfolding_all exact S6 (ho:=ho) (ha:=ha) (hb:=hb) (hm:=hm)
theorem lj{rest:List a13}(ha:ao X a ta)(hb:ao X (.BoolOp .And (b::rest) pos) tb):ao X (.BoolOp .And (a::b::rest) pos) (a0v ta tb):=by with_unfolding_all exact a4a (ha:=ha) (hb:=hb)
theorem a3t{rest:List a13}(ha:ao X a ta)(hb:ao X (.BoolOp .Or (b::rest) pos) tb):ao X (.BoolOp .Or (a::b::rest) pos) (a7b ta tb):=by with_unfolding_all exact a7t (ha:=ha) (hb:=hb)
theorem jl{op}{t:TE}(h:ao X a t):ao X (.BoolOp op [a] pos) t:=by with_unfolding_all exact a3u (h:=h)
theorem S0(ha:ao X a ta):ao X (.UnaryOp .Not a pos) (a0n ta):=by with_unfolding_all exact a3v (ha:=ha)
theorem jN{c:a13}(hc:xK X c tA)(ha:ao X a ta)(hb:ao X b tb):ao X (.IfExp c a b pos) (tIf tA ta tb):=by with_unfolding_all exact yX (hc:=hc) (ha:=ha) (hb:=hb)
theorem i6(D:i7 X.prog X.w X.K X.mg X.base CX k x ps sp)(hr:bI j X.A)(hx:bJ CX X E)(ha:uC X (e::es) t)(hk:k<=j:=by decide)(hg:Gl X x:=by rfl)(hdb:(x == ("__debug__" : Str))=false:=by decide)(he:a11 (e::es) X.env=(false,eval e X.env)::a11 es X.env:=by rfl)(hpl:(a37 pos (a11 es X.env)).any (·.1)=false:=by rfl):ao X (.Call (.Name x p) (e::es) [] pos) (tFn sp E t):=by with_unfolding_all exact a7x (D:=D) (hr:=hr) (hx:=hx) (ha:=ha) (hk:=hk) (hg:=hg) (hdb:=hdb) (he:=he) (hpl:=hpl)
theorem o9{id:String}(hc:bP X (.builtin id) r)(hg:Gl X x)(hm:X.mg x=none)(hv:a39 x=some (.builtin id))(ha:uC X (e::es) t)(hn:x ≠ "__name__":=by decide)(hdb:(x == ("__debug__" : Str))=false:=by decide)(he:a11 (e::es) X.env=(false,eval e X.env)::a11 es X.env:=by rfl)(hpl:(a37 pos (a11 es X.env)).any (·.1)=false:=by rfl):ao X (.Call (.Name x p) (e::es) [] pos) (tCB r t):=by with_unfolding_all exact ze (hc:=hc) (hg:=hg) (hm:=hm) (hv:=hv) (ha:=ha) (hn:=hn) (hdb:=hdb) (he:=he) (hpl:=hpl)
theorem az(hc:bP X (.type T) r)(hg:Gl X x)(hm:X.mg x=none)(hv:a39 x=some (.type T))(ha:uC X (e::es) t)(hn:x ≠ "__name__":=by decide)(hdb:(x == ("__debug__" : Str))=false:=by decide)(he:a11 (e::es) X.env=(false,eval e X.env)::a11 es X.env:=by rfl)(hpl:(a37 pos (a11 es X.env)).any (·.1)=false:=by rfl):ao X (.Call (.Name x p) (e::es) [] pos) (tCB r t):=by with_unfolding_all exact wO (hc:=hc) (hg:=hg) (hm:=hm) (hv:=hv) (ha:=ha) (hn:=hn) (hdb:=hdb) (he:=he) (hpl:=hpl)
theorem bQ{id:String}(pa:PlainAttrs T)(slot:Slot T name id)(hty:typeOf (.builtin id)=pure (.type "method_descriptor"))(hm:MtR X id r)(ho:ao X o to)(ha:uC X (e::es) t)(hbase:a67 o name X.env (eval o X.env)=eval o X.env:=by rfl)(hfew:((a37 cpos (a11 (e::es) X.env)).all (fun x=>!x.1) && (b00 cpos (a73 [] X.env)).all (fun x=>x.1.isSome)
 && decide ((e::es).length+([]:List Keyword).length+(if ([]:List Keyword).isEmpty then 0 else 1)<30))=true:=by rfl)(hline:(apos.endLine == cpos.line)=true:=by rfl)(hs:a11 (e::es) X.env=(false,eval e X.env)::a11 es X.env:=by rfl)(hplain:(a37 cpos (a11 es X.env)).any (·.1)=false:=by rfl):ao X (.Call (.Attribute o name apos) (e::es) [] cpos) (qp X.K T r to t):=by with_unfolding_all exact a7y (pa:=pa) (slot:=slot) (hty:=hty) (hm:=hm) (ho:=ho) (ha:=ha) (hbase:=hbase) (hfew:=hfew) (hline:=hline) (hs:=hs) (hplain:=hplain)
theorem g6{r:R2}(hr:a6n X r)(ha:ao X a ta)(hb:ao X b tb)(hs:wk b):ao X (.Subscript a b pos) (a0m r ta tb):=by with_unfolding_all exact a7w (hr:=hr) (ha:=ha) (hb:=hb) (hs:=hs)
theorem cq{lo hi:Option a13}{r:V->Option Int->Option Int->Hp->VK->Prop}(hr:a6m X r)(he:ao X e te)(hl:a8s X lo tl)(hu:a8s X hi th):ao X (.Subscript e (.Slice lo hi none p2) pos) (tSl r te tl th):=by with_unfolding_all exact yU (hr:=hr) (he:=he) (hl:=hl) (hu:=hu)
theorem n4{x1}(h:uC X es t):ao X (.Tuple es x1 pos) (a6w t):=by with_unfolding_all exact a3r (h:=h)
theorem u0(h:uC X es t):ao X (.List es pos) (a7d t):=by with_unfolding_all exact a3x (h:=h)
theorem ag{tg elt iter:a13}{os:List Str}{pos:Pos}{scope:Scope}{wi:TI}{g:TG}{te:TE}{caps:List (Nat×Str)}(N:List Str)(sc:Scope)(hi:qw X tg iter wi)(hg:∀ cl C s0 H0 fp,qx (j9 X scope cl (os++caps.map (·.2)) C s0 H0 fp) tg g)(he:∀ cl C s0 H0 fp,ao (j9 X scope cl (os++caps.map (·.2)) C s0 H0 fp) elt te)(ok:cG N sc scope caps=true)(hN:X.N=N:=by rfl)(hsc:X.env.scope=sc:=by rfl)(hc:X.calm=true:=by rfl)(hfs:∀ v,a04 iter X.env v=pure v:=by intro _;rfl):ao X (.ListComp elt [⟨tg,iter,[],0⟩] scope pos) (eU os.length wi g te (caps.map (·.1))):=by with_unfolding_all exact rc (N:=N) (sc:=sc) (hi:=hi) (hg:=hg) (he:=he) (ok:=ok) (hN:=hN) (hsc:=hsc) (hc:=hc) (hfs:=hfs)
theorem fm(K:a8z){e:a13}{st:a13}{te:TE}{ts:TO}{p2 pos:Pos}(he:ao X e te)(hs:a8s X (some st) ts)(hK:X.K=K:=by rfl):ao X (.Subscript e (.Slice none none (some st) p2) pos) (a0t K te ts):=by with_unfolding_all exact re (K:=K) (he:=he) (hs:=hs) (hK:=hK)
theorem a9   : uC X [] q9:=by with_unfolding_all exact a4b
theorem a8(ha:ao X e te)(hr:uC X es t)(hs:a11 (e::es) X.env=(false,eval e X.env)::a11 es X.env:=by rfl):uC X (e::es) (a0r te t):=by with_unfolding_all exact S9 (ha:=ha) (hr:=hr) (hs:=hs)
theorem p9{op:CmpOp}{r:R2}(ho:iH X (a32 op) r)(ha:ao X a ta)(hb:ao X b tb)(hm:a56 op b=false):xK X (.Compare a [op] [b] pos) (a0k (a0m r ta tb)):=by with_unfolding_all exact O8 (ho:=ho) (ha:=ha) (hb:=hb) (hm:=hm)
theorem fj(ha:xK X a tA):xK X (.UnaryOp .Not a pos) (a7c tA):=by with_unfolding_all exact a3b (ha:=ha)
theorem br{e:a13}{t:TE}(h:ao X e t)(he:∀ whole,b22 e X.env whole=(do let v <- whole;a28 e.pos;a43 [v] (truthy v)):=by intro _;rfl):xK X e (tB t):=by with_unfolding_all exact a2z (h:=h) (he:=he)
theorem gr{X:Cx}{e:a13}{t:TT}(h:a5x X e t):xK X e t:=by with_unfolding_all exact L2.PW.pt (h:=h)
theorem mn(ha:xK X a tA):a5x X (.BoolOp .And [a] pos) tA:=by with_unfolding_all exact O6 (ha:=ha)
theorem jk(ha:xK X a tA):a5x X (.BoolOp .Or [a] pos) tA:=by with_unfolding_all exact a2w (ha:=ha)
theorem pG{rest:List a13}(ha:xK X a tA)(hb:a5x X (.BoolOp .And (b::rest) pos) tB'):a5x X (.BoolOp .And (a::b::rest) pos) (a2n tA tB'):=by with_unfolding_all exact a2x (ha:=ha) (hb:=hb)
theorem fP{rest:List a13}(ha:xK X a tA)(hb:a5x X (.BoolOp .Or (b::rest) pos) tB'):a5x X (.BoolOp .Or (a::b::rest) pos) (tOr tA tB'):=by with_unfolding_all exact a7p (ha:=ha) (hb:=hb)
theorem w8   : fE X [] a0o:=by with_unfolding_all exact P6
theorem b8{st:Stmt}{rest:List Stmt}(h1:qv X st t)(h2:fE X rest u):fE X (st::rest) (a2k t u):=by with_unfolding_all exact yC (h1:=h1) (h2:=h2)
theorem e9{st:Stmt}(h1:qv X st t):fE X [st] t:=by with_unfolding_all exact P4 (h1:=h1)
theorem aC(he:ao X e te)(hs:a51 e none pos.line X.env=pure false:=by rfl):qv X (.Expr e pos) (yj te):=by with_unfolding_all exact P9 (he:=he) (hs:=hs)
theorem j5(he:ao X e te):qv X (.Return (some e) pos) (a6z te):=by with_unfolding_all exact a3e (he:=he)
theorem aw{c:a13}{a b:List Stmt}{tc:TT}(hc:xK X c tc)(ha:fE X a t)(hb:fE X b u):qv X (.If c a b pos) (a2m tc t u):=by with_unfolding_all exact a7q (hc:=hc) (ha:=ha) (hb:=hb)
theorem wE{st:Stmt}  : qv X st yi:=by with_unfolding_all exact yG
theorem aX{tg e:a13}{te:TE}{g:TG}(he:ao X e te)(hg:qx X tg g)(hs:a53 [tg] e pos.line X.env=pure false:=by rfl)(hw:a54 [tg] e X.env=pure none:=by rfl)(h1:(a24 [tg] X.env).map (·.2)=[a29 tg X.env]:=by rfl):qv X (.Assign [tg] e pos) (qG te g):=by with_unfolding_all exact a3j (he:=he) (hg:=hg) (hs:=hs) (hw:=hw) (h1:=h1)
theorem i5{i:Nat}{x:Str}{e:a13}{te:TE}{pos':Pos}(hN:X.N.Nodup)(hi:X.N[i]?=some x)(hx:a1z X.env.scope x)(he:ao X e te)(hs:a51 e (some (.Name x pos')) pos.line X.env=pure false:=by rfl)(hf:X.fn x=true\/X.env.scope.names.lookup x=some .local:=by first | exact .inl rfl | exact .inr rfl | assumption):qv X (.Assign [.Name x pos'] e pos) (qG te (aU i)):=by with_unfolding_all exact a3d (hN:=hN) (hi:=hi) (hx:=hx) (he:=he) (hs:=hs) (hf:=hf)
theorem cB{i j:Nat}{x y:Str}{a b:a13}{ta:TA}{px py pt:Pos}{kt k2 pt2}(hc:X.calm=true)(hN:X.N.Nodup)(hi:X.N[i]?=some x)(hj:X.N[j]?=some y)(hij:i≠j)(hx:X.env.scope.names.lookup x=some .local)(hy:X.env.scope.names.lookup y=some .local)(ha:uC X [a,b] ta)(hw:a54 [.Tuple [.Name x px,.Name y py] kt pt] (.Tuple [a,b] k2 pt2) X.env=pure (some [x,y]))(hs:a53 [.Tuple [.Name x px,.Name y py] kt pt] (.Tuple [a,b] k2 pt2) pos.line X.env=pure false:=by rfl):qv X (.Assign [.Tuple [.Name x px,.Name y py] kt pt] (.Tuple [a,b] k2 pt2) pos) (a7a i j ta):=by with_unfolding_all exact a3f (hc:=hc) (hN:=hN) (hi:=hi) (hj:=hj) (hij:=hij) (hx:=hx) (hy:=hy) (ha:=ha) (hw:=hw) (hs:=hs)
theorem dk{c:a13}{body:List Stmt}{tc:TT}{tb:TS}(hp:b15 (a05 X.prog X.w) X.A X.env X.xe)(hc:xK X c tc)(hb:fE X body tb):qv X (.While c body [] pos) (pd tc tb):=by with_unfolding_all exact yD (hp:=hp) (hc:=hc) (hb:=hb)
theorem aP{iter:a13}{body:List Stmt}{wi:TI}{g:TG}{tb:TS}{pos:Pos}(hp:b15 (a05 X.prog X.w) X.A X.env X.xe)(hc:X.calm=true)(hi:qw X tg iter wi)(hg:qx X tg g)(hb:fE X body tb)(hs:∀ x,a04 iter X.env x=pure x:=by intro _;rfl):qv X (.For tg iter body [] pos) (a7e wi g tb):=by with_unfolding_all exact a3g (hp:=hp) (hc:=hc) (hi:=hi) (hg:=hg) (hb:=hb) (hs:=hs)
theorem cK{tg elt iter:a13}{os:List Str}{i:Nat}{y:Str}{py pos spos:Pos}{scope:Scope}{wi:TI}{g:TG}{te:TE}{caps:List (Nat×Str)}(N:List Str)(sc:Scope)(hNd:X.N.Nodup)(hy:X.N[i]?=some y)(hl:X.env.kindOf y=some .local)(hi:qw X tg iter wi)(hg:∀ cl C s0 H0 fp,qx (j9 X scope cl (os++caps.map (·.2)) C s0 H0 fp) tg g)(he:∀ cl C s0 H0 fp,ao (j9 X scope cl (os++caps.map (·.2)) C s0 H0 fp) elt te)(ok:cG N sc scope caps=true)(hN:X.N=N:=by rfl)(hsc:X.env.scope=sc:=by rfl)(hc:X.calm=true:=by rfl)(hfs:∀ v,a04 iter X.env v=pure v:=by intro _;rfl)(hsw:a51 (.ListComp elt [⟨tg,iter,[],0⟩] scope pos) (some (.Name y py)) spos.line X.env=pure true:=by rfl):qv X (.Assign [.Name y py] (.ListComp elt [⟨tg,iter,[],0⟩] scope pos) spos) (qG (eU os.length wi g te (caps.map (·.1))) (aU i)):=by with_unfolding_all exact yH (N:=N) (sc:=sc) (hNd:=hNd) (hy:=hy) (hl:=hl) (hi:=hi) (hg:=hg) (he:=he) (ok:=ok) (hN:=hN) (hsc:=hsc) (hc:=hc) (hfs:=hfs) (hsw:=hsw)
theorem ou(th:uz X E)(c:L6 X.K X.mg x C)(ha:uC X [e₀] ta)(hc:X.calm=true:=by rfl)(hg:Gl X x:=by rfl)(he:a11 [e₀] X.env=[(false,eval e₀ X.env)]:=by rfl)(hd:(x == ("__debug__" : Str))=false:=by decide):qv X (.Raise (some (.Call (.Name x np) [e₀] [] cpos)) none pos) (yh E C ta):=by with_unfolding_all exact yF (th:=th) (c:=c) (ha:=ha) (hc:=hc) (hg:=hg) (he:=he) (hd:=hd)
theorem yE{n:Nat}{nm c:Str}{SC:Addr}{body:List Stmt}{b0:Stmt}{suite:List Stmt}{np hpos pos:Pos}{tb:XK->TS}{ts:Addr->TS}(cb:X.mg c=some (.ref SC))(hN:X.N.Nodup)(hb:∀ xe pn Ex,bJ (jE X.prog X.w) (sF X xe pn) Ex->fE (sF X xe pn) body (tb Ex))(hs:∀ x,fE (jI X x) (b0::suite) (ts x))(hi:X.N[n]?=some nm:=by rfl)(hx:X.env.scope.names.lookup nm=some .local:=by rfl)(hg:Gl X c:=by rfl)(hst:X.stack=X.env::X.outer:=by rfl)(hfr:X.env.frame=some X.env.locals:=by rfl)(hd:(c == ("__debug__" : Str))=false:=by decide):qv X (.Try body [.ExceptHandler (some (.Name c np)) (some nm) (b0::suite) hpos] [] [] pos) (a6x X.K n SC tb ts):=by with_unfolding_all exact P7 (cb:=cb) (hN:=hN) (hb:=hb) (hs:=hs) (hi:=hi) (hx:=hx) (hg:=hg) (hst:=hst) (hfr:=hfr) (hd:=hd)
theorem g8{i:Nat}{x:Str}(hN:X.N.Nodup)(hi:X.N[i]?=some x)(hx:a1z X.env.scope x)(hf:X.fn x=true\/X.env.scope.names.lookup x=some .local:=by first | exact .inl rfl | exact .inr rfl | assumption):qx X (.Name x pos) (aU i):=by with_unfolding_all exact R8 (hN:=hN) (hi:=hi) (hx:=hx) (hf:=hf)
theorem u5   : L8 X [] nK:=by with_unfolding_all exact R5
theorem g9{e:a13}{es:List a13}{t:TG}{u:wb}(h1:qx X e t)(h2:L8 X es u)(hs:(a24 (e::es) X.env).map (·.2)=a29 e X.env::(a24 es X.env).map (·.2):=by rfl):L8 X (e::es) (cu t u):=by with_unfolding_all exact yQ (h1:=h1) (h2:=h2) (hs:=hs)
theorem u8(K:a8z){es:List a13}{k:Nat}{t:wb}{n:Nat}{pos:Pos}(hc:X.calm=true)(h:L8 X es t)(hK:X.K=K:=by rfl)(hn:(a24 es X.env).length=n:=by rfl)(hst:(a24 es X.env).findIdx? (·.1)=none:=by rfl):qx X (.Tuple es k pos) (mM K n t):=by with_unfolding_all exact R6 (K:=K) (hc:=hc) (h:=h) (hK:=hK) (hn:=hn) (hst:=hst)
theorem R7{o i:a13}{to ti:TE}{t:a0d}(ho:ao X o to)(hi:ao X i ti)(hs:a5y X t)(ha:∀ v,a29 (.Subscript o i pos) X.env v=(do
 let ov <- a43 [v] (eval o X.env);let iv <- a43 [v,ov] (eval i X.env)
 a28 pos
 a43 [v,ov,iv] (setItem ov iv v)
 release [v,ov,iv] []):=by intro _;rfl):qx X (.Subscript o i pos) (a8j to ti t):=by with_unfolding_all exact a3o (ho:=ho) (hi:=hi) (hs:=hs) (ha:=ha)
theorem yP{l:a13}{tl:TE}(hl:ao X l tl):qw X tg l (C9 X.K tl):=by with_unfolding_all exact Q9 (hl:=hl)
theorem Q8{l:a13}{tl:TE}(hl:ao X l tl):qw X tg l (a5d X.K tl):=by with_unfolding_all exact a3m (hl:=hl)
theorem bG{a:a13}{ta:TA}{p pos:Pos}(hg:Gl X "range")(hm:X.mg "range" = none)(ha:uC X [a] ta)(hs:a11 [a] X.env=[(false,eval a X.env)]:=by rfl):qw X tg (.Call (.Name "range" p) [a] [] pos) (a1l ta):=by with_unfolding_all exact wH (hg:=hg) (hm:=hm) (ha:=ha) (hs:=hs)
theorem my{a b:a13}{ta:TA}{p pos:Pos}(hg:Gl X "range")(hm:X.mg "range" = none)(ha:uC X [a,b] ta)(hs:a11 [a,b] X.env=[(false,eval a X.env),(false,eval b X.env)]:=by rfl)(hs2:a11 [b] X.env=[(false,eval b X.env)]:=by rfl):qw X tg (.Call (.Name "range" p) [a,b] [] pos) (a1k ta):=by with_unfolding_all exact wG (hg:=hg) (hm:=hm) (ha:=ha) (hs:=hs) (hs2:=hs2)
theorem vp{a b:a13}{ta:TA}{p pos ppos:Pos}{elts:List a13}{k0:Nat}(hg:Gl X "zip")(hm:X.mg "zip" = none)(ha:uC X [a,b] ta)(he:a11 [a,b] X.env=(false,eval a X.env)::a11 [b] X.env:=by rfl)(hpl:(a37 pos (a11 [b] X.env)).any (·.1)=false:=by rfl):qw X (.Tuple elts k0 ppos) (.Call (.Name "zip" p) [a,b] [] pos) (W9 X.K ta):=by with_unfolding_all exact a3l (hg:=hg) (hm:=hm) (ha:=ha) (he:=he) (hpl:=hpl)
theorem cY   : a8s X none uN:=by with_unfolding_all exact Q6
theorem bF(h:ao X e te):a8s X (some e) (a0l te):=by with_unfolding_all exact Q5 (h:=h)
theorem o5{P:a15}{w:a20}{K:a8z}{mg:Str->Option Value}{base:Heap}{x:Str}{st:Stmt}{N ps:List Str}{k:Nat}{sp:Sp}(F:j4 K mg x st ps)(S:j6 N ps (d4 st))(len:∀ vs H Q E,sp vs H Q E->vs.length=ps.length)(hbody:∀ (f:Addr) (cdv:Value) (A:a19) (outer:List Env) (s:a01) (H:Hp) (vs:List V) (Q:VK) (E:XK),bI k (A.deeper (a60 x (d4 st) s.heap.objs.size f cdv))->sp vs H Q E->
 ∃ t,fE (dM z8 P w K mg base N x (d4 st) f cdv A outer s H E).nox (x8 st) t/\t { nx:=fun _ H'=>Q .non H',rt:=Q } (eF N vs) H):i7 P w K mg base z8 (k+1) x ps sp:=by with_unfolding_all exact a5m (F:=F) (S:=S) (len:=len) (hbody:=hbody)
theorem mP{P:a15}{w:a20}{K:a8z}{mg:Str->Option Value}{base:Heap}{x:Str}{st:Stmt}{N ps:List Str}{k:Nat}{sp:Sp}(F:j4 K mg x st ps)(S:j6 N ps (d4 st))(len:∀ vs H Q E,sp vs H Q E->vs.length=ps.length)(hbody:∀ (f:Addr) (cdv:Value) (A:a19) (outer:List Env) (s:a01) (H:Hp) (vs:List V) (Q:VK) (E:XK),bI k (A.deeper (a60 x (d4 st) s.heap.objs.size f cdv))->sp vs H Q E->
 ∃ t,fE (dM (jE P w) P w K mg base N x (d4 st) f cdv A outer s H E) (x8 st) t/\t { nx:=fun _ H'=>Q .non H',rt:=Q } (eF N vs) H):i7 P w K mg base (jE P w) (k+1) x ps sp:=by with_unfolding_all exact Z0 (F:=F) (S:=S) (len:=len) (hbody:=hbody)
end
theorem dQ{l:L2.St}(h:l.length=4):∃ a b c d,l=[a,b,c,d]:=by
 match l,h with
 | [a,b,c,d],_=>exact⟨a,b,c,d,rfl⟩
theorem C8{A B:Prop}(h:if false=true then A else B):B:=by rw[if_neg b0a] at h;exact h
theorem rX{X:Cx}{body:List Stmt}{D:kl}{σ:L2.St}{H:Hp}(rest:List Stmt){t2:TS}(h2:fE X rest t2)(h1:∀ R,fE X rest R->R=t2->∃ t,fE X body t/\t D σ H):∃ t,fE X body t/\t D σ H:=h1 t2 h2 rfl
theorem N4{α:Type}{P:List α->Prop}(h:P []):∀ us:List α,us.length=0->P us
 | [],_=>h
theorem nz{α:Type}{n:Nat}{P:List α->Prop}(h:∀ a,∀ us:List α,us.length=n->P (a::us)):∀ us:List α,us.length=n+1->P us
 | [],e=>nomatch e
 | a::us,e=>h a us (Nat.succ.inj e)
@[elab_as_elim] theorem fH{α:Type}{P:List α->Prop}(h:∀ a,P [a])(us:List α)(hl:us.length=1):P us:=(nz fun a=>N4 (h a)) us hl
@[elab_as_elim] theorem dJ{α:Type}{P:List α->Prop}(h:∀ a b,P [a,b])(us:List α)(hl:us.length=2):P us:=(nz fun a=>nz fun b=>N4 (h a b)) us hl
@[elab_as_elim] theorem qD{α:Type}{P:List α->Prop}(h:∀ a b c,P [a,b,c])(us:List α)(hl:us.length=3):P us:=(nz fun a=>nz fun b=>nz fun c=>N4 (h a b c)) us hl
@[elab_as_elim] theorem N3{α:Type}{P:List α->Prop}(h:∀ a b c d,P [a,b,c,d])(us:List α)(hl:us.length=4):P us:=(nz fun a=>nz fun b=>nz fun c=>nz fun d=>N4 (h a b c d)) us hl
section
variable {X:Cx}
noncomputable def a6y(t:TE):TT:=fun σ H Q=>t σ H fun x H1=>∃ (a:Addr) (xs:List V),x=.ref a/\H1 a=some (.lst xs)/\Q (!xs.isEmpty) H1
theorem a3c{e:a13}{t:TE}(h:PE X e t)(he:∀ whole,b22 e X.env whole=(do let v <- whole;a28 e.pos;a43 [v] (truthy v)):=by intro _;rfl):PT X e (a6y t):=by
 intro c2t s σ H Q I hw;refine isTrue_plain (bA (h c2t s σ H _ I hw) fun v s1 ⟨x,H1,I1,r1,q1⟩=>?_) (he _);obtain⟨a,xs,rfl,hH,q⟩:=q1;cases r1;obtain⟨z,its,n,r,hl,e⟩:=I1.lstM hH;have hz:sizeLine<2^63:=by rw[a89];decide
 refine wpAny_truthy_list (items:=its.toArray) ⟨_,e,rfl,n,rfl⟩ (by rw[a9p];lia) ?_;have eb:its.toArray.isEmpty=xs.isEmpty:=by
  rw[List.isEmpty_toArray];cases its with
  | nil=>cases xs with
    | nil=>rfl
    | cons _ _=>simp at hl
  | cons _ _=>cases xs with
    | nil=>simp at hl
    | cons _ _=>rfl
 rw[eb];exact⟨H1,I1.tok _,q⟩
theorem O7{e:a13}{t:TE}(h:ao X e t)(he:∀ whole,b22 e X.env whole=(do let v <- whole;a28 e.pos;a43 [v] (truthy v)):=by intro _;rfl):xK X e (a6y t):=by with_unfolding_all exact a3c (h:=h) (he:=he)
end
section
variable {K:a8z} {J:It} {H1:Hp} {te:TE} {cs:L2.St} {Q:VK} {n:Nat}
theorem a5o{fa ga:Nat->Addr}{x y u v:Nat->V}(hJ:gm K J H1 n (fun i=>.ref (fa i)) (fun i=>.ref (ga i)))(hf:∀ i,i<n->aj K H1 (fa i) [x i,y i])(hg:∀ i,i<n->aj K H1 (ga i) [u i,v i])(hn:n<=100000)(R:Nat->V->Hp->Prop)(hR:∀ i v H H',bR H H'->R i v H->R i v H')(he:∀ i H2 (k:VK),i<n->b9 H1 H2->(∀ v H3,b9 H2 H3->R i v H3->k v H3)->te (some (x i)::some (y i)::some (u i)::some (v i)::cs) H2 k)(hq:∀ D ys H2,H1 D=none->b9 H1 H2->H2 D=some (.lst ys)->ys.length=n->(∀ i v,ys[i]?=some v->R i v H2)->Q (.ref D) H2) :
 de 4 J H1 (mM K 2 (cu (mM K 2 (cu (aU 0) (cu (aU 1) nK))) (cu (mM K 2 (cu (aU 2) (cu (aU 3) nK))) nK))) te cs Q:=by
 intro D hD;refine⟨fun i m ys H2=>m=n - i/\i<=n/\ys.length=i/\b9 H1 H2/\H2 D=some (.lst ys)/\∀ j v,ys[j]?=some v->R j v H2,⟨n,by simp,b1m _,rfl,b9.new hD,b7,fun j v e=>by simp at e⟩,?_⟩;rintro i m ys H2 ⟨rfl,hi,hl,s2,d2,r2⟩;by_cases hlt:i<n
 .refine .inr ⟨((hJ H2 s2 i).1 hlt).1,fun x' H' y' own ho=>?_⟩;obtain⟨s2',a,rfl,ht⟩:=((hJ H2 s2 i).1 hlt).2 x' H' y';obtain⟨o1,o2,o3,o4,rfl⟩ : ∃ o1 o2 o3 o4,own=[o1,o2,o3,o4]:=by
   match own,ho with
   | [o1,o2,o3,o4],_=>exact⟨o1,o2,o3,o4,rfl⟩
  refine⟨a,_,rfl,ht,rfl,_,_,rfl,fa i,_,rfl,aj.same (s2.trans s2') (hf i hlt),rfl,_,_,rfl,_,_,rfl,rfl,_,_,rfl,ga i,_,rfl,aj.same (s2.trans s2') (hg i hlt),rfl,_,_,rfl,_,_,rfl,rfl,rfl,⟨[some (x i),some (y i),some (u i),some (v i)],rfl,rfl⟩,he i _ _ hlt (s2.trans s2') fun v H3 s3 r3=>⟨s3 _ _ (s2' _ _ d2),j8 (by lia),n - (i+1),by lia,rfl,hlt,by rw[a9b,hl];rfl,fun b o e=>?_,b7,fun j w e=>?_⟩⟩
  .rw[i9 (n8 e hD)];exact s3 _ _ (s2' _ _ (s2 _ _ e))
  .have t3:bR H3 (upd H3 D (.lst (ys++[v]))):=bR.lst (s3 _ _ (s2' _ _ d2));by_cases hj:j<ys.length
   .rw[a9i hj] at e;exact hR _ _ _ _ ((s2'.trans s3).tup.trans t3) (r2 j w e)
   .rw[a9l (by lia)] at e;have hj0:j - ys.length=0:=by
     cases q:j - ys.length with
     | zero=>rfl
     | succ k=>rw[q] at e;simp at e
    rw[hj0] at e;have e':v=w:=by simpa using e
    have hji:j=i:=by lia
    rw[<- e',hji];exact hR _ _ _ _ t3 r3
 .have e:i=n:=by lia
  subst e;exact .inl ⟨(hJ H2 s2 i).2 rfl,hq D ys H2 hD s2 d2 hl r2⟩
end
theorem nM(elt t1 i1 t2 i2:a13)(scope:Scope)(pos:Pos)(it acc:Value)(env:Env) :
 a48 (.ListComp elt [⟨t1,i1,[],0⟩,⟨t2,i2,[],0⟩] scope pos) 0 it acc env=(a28 i1.pos >>= fun _=>a52 it >>= fun r=>match r with
  | none=>pure (.done .next)
  | some v=>a18 t1 it v >>= fun _=>a29 t1 env v >>= fun _=>
    eval i2 env >>= fun x=>a28 i2.pos >>= fun _=>a04 i2 env x >>= fun x=>a43 [x] (a65 x) >>= fun it2=>
     runOwn (.compStart (.ListComp elt [⟨t1,i1,[],0⟩,⟨t2,i2,[],0⟩] scope pos) 1 it2 acc env) env >>= fun _=>
     b12 (.compLoop (.ListComp elt [⟨t1,i1,[],0⟩,⟨t2,i2,[],0⟩] scope pos) 0 it acc env)):=by rfl
theorem nL(elt t1 i1 t2 i2:a13)(scope:Scope)(pos:Pos)(it acc:Value)(env:Env) :
 a48 (.ListComp elt [⟨t1,i1,[],0⟩,⟨t2,i2,[],0⟩] scope pos) 1 it acc env=(a28 i2.pos >>= fun _=>a52 it >>= fun r=>match r with
  | none=>pure (.done .next)
  | some v=>a18 t2 it v >>= fun _=>a29 t2 env v >>= fun _=>
    (eval elt env >>= fun x=>call (.builtin "list.append") [acc,x] >>= fun _=>pure ()) >>= fun _=>
      b12 (.compLoop (.ListComp elt [⟨t1,i1,[],0⟩,⟨t2,i2,[],0⟩] scope pos) 1 it acc env)):=by rfl
section
variable {prog:a15} {w:a20} {A:a19} {R:a75->a01->Prop} {s:a01}
theorem mT{elt t1 i1 t2 i2:a13}{scope:Scope}{pos:Pos}{it acc:Value}{env:Env}(h0:a25 (a05 prog w) A (.compLoop (.ListComp elt [⟨t1,i1,[],0⟩,⟨t2,i2,[],0⟩] scope pos) 1 it acc env) R s)(h:a07 (a05 prog w) A (a65 it) (fun it' s'=>a25 (a05 prog w) A (.compLoop (.ListComp elt [⟨t1,i1,[],0⟩,⟨t2,i2,[],0⟩] scope pos) 1 it' acc env) R s')
 (a21 (a05 prog w) A env fun x s'=>R (.error x) s') s) :
 a25 (a05 prog w) A (.compStart (.ListComp elt [⟨t1,i1,[],0⟩,⟨t2,i2,[],0⟩] scope pos) 1 it acc env) R s:=by
 refine a91 ?_;show a07 _ _ ((a76 (.ListComp elt [⟨t1,i1,[],0⟩,⟨t2,i2,[],0⟩] scope pos) 1 it acc env).onRaise (fun x=>do a31 x env;a28 a90)) _ _ s;refine b02 ?_;unfold a76;show a07 _ _ (ask >>= _) _ _ s;refine a00 (a86 (wpAny_ite ?_));split
 .first
   | exact a00 (a02 (a02 (And.intro rfl h0)))
   | exact a02 (And.intro rfl h0)
 .first
   | exact a00 (a30 (a00 (a17 (a00 (a08 h (fun it' s' h'=>a02 (And.intro rfl h')) fun _ _ x=>x)))))
   | (refine a00 (a30 ?_);show a07 _ _ (a28 i2.pos >>= _) _ _ s;exact a00 (a17 (a00 (a08 h (fun it' s' h'=>a02 (And.intro rfl h')) fun _ _ x=>x))))
theorem nN{elt t1 i1 t2 i2:a13}{scope:Scope}{pos:Pos}{it acc:Value}{env:Env}(I:Nat->a01->Prop)(turn:∀ n s,I n s->a07 (a05 prog w) A (a52 it) (fun r s₁=>match r with
 | none=>R (.ok .next) s₁
 | some v=>a07 (a05 prog w) A (a18 t2 it v) (fun _ s₁'=>a07 (a05 prog w) A (a29 t2 env v) (fun _ s₂=>a07 (a05 prog w) A (eval elt env) (fun x s₃=>
    a07 (a05 prog w) A (call (.builtin "list.append") [acc,x]) (fun _ s₄=>∃ m,m<n/\I m s₄) (a21 (a05 prog w) A env fun e s'=>R (.error e) s') s₃)
    (a21 (a05 prog w) A env fun e s'=>R (.error e) s') s₂) (a21 (a05 prog w) A env fun e s'=>R (.error e) s') s₁') (a21 (a05 prog w) A env fun e s'=>R (.error e) s') s₁) (a21 (a05 prog w) A env fun e s'=>R (.error e) s') s)(n:Nat)(h:I n s) :
 a25 (a05 prog w) A (.compLoop (.ListComp elt [⟨t1,i1,[],0⟩,⟨t2,i2,[],0⟩] scope pos) 1 it acc env) R s:=by
 refine a61 rfl I (fun n s hI=>?_) n h;show a07 _ _ ((a48 (.ListComp elt [⟨t1,i1,[],0⟩,⟨t2,i2,[],0⟩] scope pos) 1 it acc env).onRaise (fun x=>do a31 x env;a44 x)) _ _ s;refine a63 ?_;rw[nL];refine a00 (a17 (a00 (a08 (turn n s hI) (fun r s₁ h₁=>?_) fun _ _ h'=>h')));cases r with
 | none=>exact a02 h₁
 | some v=>
   refine a00 (a08 h₁ (fun _ s₁' h₁'=>?_) fun _ _ h'=>h');exact a00 (a08 h₁' (fun _ s₂ h₂=>a00 (a00 (a08 h₂ (fun x s₃ h₃=>a00 (a08 h₃
    (fun _ s₄ h₄=>a02 (a02 ⟨rfl,h₄⟩)) fun _ _ h'=>h')) fun _ _ h'=>h'))) fun _ _ h'=>h')
theorem nO{elt t1 i1 t2 i2:a13}{scope:Scope}{pos:Pos}{it acc:Value}{env:Env}(I:Nat->a01->Prop)(hfs:∀ v,a04 i2 env v=pure v)(turn:∀ n s,I n s->a07 (a05 prog w) A (a52 it) (fun r s₁=>match r with
 | none=>R (.ok .next) s₁
 | some v=>a07 (a05 prog w) A (a18 t1 it v) (fun _ s₁'=>a07 (a05 prog w) A (a29 t1 env v) (fun _ s₂=>a07 (a05 prog w) A (eval i2 env) (fun x s₃=>
    a07 (a05 prog w) A (a65 x) (fun it2 s₄=>a25 (a05 prog w) A (.compStart (.ListComp elt [⟨t1,i1,[],0⟩,⟨t2,i2,[],0⟩] scope pos) 1 it2 acc env) (fun r s'=>match r with | .ok _=>∃ m,m<n/\I m s' | .error e=>cameBackBy (a05 prog w) A env (a21 (a05 prog w) A env fun e s'=>R (.error e) s') e s') s₄) (a21 (a05 prog w) A env fun e s'=>R (.error e) s') s₃)
    (a21 (a05 prog w) A env fun e s'=>R (.error e) s') s₂) (a21 (a05 prog w) A env fun e s'=>R (.error e) s') s₁') (a21 (a05 prog w) A env fun e s'=>R (.error e) s') s₁) (a21 (a05 prog w) A env fun e s'=>R (.error e) s') s)(n:Nat)(h:I n s) :
 a25 (a05 prog w) A (.compLoop (.ListComp elt [⟨t1,i1,[],0⟩,⟨t2,i2,[],0⟩] scope pos) 0 it acc env) R s:=by
 refine a61 rfl I (fun n s hI=>?_) n h;show a07 _ _ ((a48 (.ListComp elt [⟨t1,i1,[],0⟩,⟨t2,i2,[],0⟩] scope pos) 0 it acc env).onRaise (fun x=>do a31 x env;a44 x)) _ _ s;refine a63 ?_;rw[nM];refine a00 (a17 (a00 (a08 (turn n s hI) (fun r s₁ h₁=>?_) fun _ _ h'=>h')));cases r with
 | none=>exact a02 h₁
 | some v=>
   refine a00 (a08 h₁ (fun _ s₁' h₁'=>?_) fun _ _ h'=>h');refine a00 (a08 h₁' (fun _ s₂ h₂=>?_) fun _ _ h'=>h');refine a00 (a08 h₂ (fun x s₃ h₃=>?_) fun _ _ h'=>h');refine a00 (a17 (a00 (b24 (hfs x) (a00 (a16 (a08 h₃ (fun it2 s₄ h₄=>?_) fun _ _ h'=>h'))))));refine a00 (b16 (a49 h₄ fun r s' h'=>?_));cases r with
   | ok f=>exact a02 ⟨rfl,h'⟩
   | error e=>exact h'
end
noncomputable def oY(k:Nat)(J:It)(H1:Hp)(g:TG)(wi2:TI)(g2:TG)(te:TE)(cs:L2.St)(Q:VK):Prop:=∀ D,H1 D=none->∃ W:Nat->Nat->List V->Hp->Prop,(∃ m,W 0 m [] (upd H1 D (.lst [])))/\
 ∀ i m ys H2,W i m ys H2->(J.stop i H2/\Q (.ref D) H2)\/(J.go i H2/\∀ x H',J.yld i H2 x H'->∀ own:L2.St,own.length=k->g x (own++cs) H' fun σ2 H4=>∃ own1:L2.St,own1.length=k/\σ2=own1++cs/\
  wi2 σ2 H4 fun J2 H5=>∃ W2:Nat->Nat->List V->L2.St->Hp->Prop,(∃ m2,W2 0 m2 ys own1 H5)/\
   ∀ j m2 ys2 own2 H6,W2 j m2 ys2 own2 H6->(J2.stop j H6/\∃ m',m' < m/\W (i+1) m' ys2 H6)\/(J2.go j H6/\∀ x2 H7,J2.yld j H6 x2 H7->own2.length=k->g2 x2 (own2++cs) H7 fun σ2 H4=>∃ own3:L2.St,own3.length=k/\σ2=own3++cs/\
    te σ2 H4 fun v H3=>H3 D=some (.lst ys2)/\ys2.length<sizeLine/\∃ m',m' < m2/\W2 (j+1) m' (ys2++[v]) own3 (upd H3 D (.lst (ys2++[v])))))
noncomputable def pf(k:Nat)(wi:TI)(g:TG)(wi2:TI)(g2:TG)(te:TE)(ix:List Nat):TE:=fun σ H Q=>wi σ H fun J H1=>oY k J H1 g wi2 g2 te (nP σ ix) Q
theorem a5h{M:a83}{A:a19}{c:Code}{R:a75->a01->Prop}{s:a01}(P:a01->Prop)(h:∀ f s',P s'->R (.ok f) s')(k:∀ R1:a75->a01->Prop,(∀ f s',P s'->R1 (.ok f) s')->a25 M A c R1 s):a25 M A c R s:=k R h
theorem uk{Z:Cx}{tg elt iter tg2 iter2:a13}{pos:Pos}{scope:Scope}{wi2:TI}{g g2:TG}{te:TE}{no:Nat}{cp:L2.St}{fp:List Addr}{it D:Addr}{tn:Nat->Heap->Prop}{J:It}{H1:Hp}{s4:a01}{Q:VK}{R0:a75->a01->Prop}(hg:PG Z tg g)(hi2:PI Z tg2 iter2 wi2)(hg2:PG Z tg2 g2)(he:PE Z elt te)(hc:Z.calm=true)(hE:∀ v s,Z.xe v s->False)(hfs2:∀ v,a04 iter2 Z.env v=pure v)(hG:∃ W:Nat->Nat->List V->Hp->Prop,(∃ m,W 0 m [] (upd H1 D (.lst [])))/\
 ∀ i m ys H2,W i m ys H2->(J.stop i H2/\Q (.ref D) H2)\/(J.go i H2/\∀ x H',J.yld i H2 x H'->∀ own:L2.St,own.length=no->g x (own++cp) H' fun σ2 H4=>∃ own1:L2.St,own1.length=no/\σ2=own1++cp/\
  wi2 σ2 H4 fun J2 H5=>∃ W2:Nat->Nat->List V->L2.St->Hp->Prop,(∃ m2,W2 0 m2 ys own1 H5)/\
   ∀ j m2 ys2 own2 H6,W2 j m2 ys2 own2 H6->(J2.stop j H6/\∃ m',m' < m/\W (i+1) m' ys2 H6)\/(J2.go j H6/\∀ x2 H7,J2.yld j H6 x2 H7->own2.length=no->g2 x2 (own2++cp) H7 fun σ2 H4=>∃ own3:L2.St,own3.length=no/\σ2=own3++cp/\
    te σ2 H4 fun v H3=>H3 D=some (.lst ys2)/\ys2.length<sizeLine/\∃ m',m' < m2/\W2 (j+1) m' (ys2++[v]) own3 (upd H3 D (.lst (ys2++[v]))))))(T:nR Z.prog Z.w Z.K tg J fp it tn)(Ic:n9 Z [] (a9s no none++cp) (upd H1 D (.lst [])) s4)(dQ:tn 0 s4.heap)(fp0:∀ b∈fp,(upd H1 D (.lst [])) b=none)(fpc:∀ H',(∀ b∈fp,H' b=none)->∀ b∈fp,eu Z [] H' b)(fin:∀ σ' H5 s6,n9 Z [] σ' H5 s6->Q (.ref D) H5->R0 (.ok .next) s6) :
  a25 (a05 Z.prog Z.w) Z.A (.compLoop (.ListComp elt [⟨tg,iter,[],0⟩,⟨tg2,iter2,[],0⟩] scope pos) 0 (.ref it) (.ref D) Z.env) R0 s4:=by
 obtain⟨W,⟨m0,w0⟩,turn⟩:=hG;refine nO (fun n s'=>∃ i ys own H',own.length=no/\n9 Z [] (own++cp) H' s'/\tn i s'.heap/\(∀ b∈fp,H' b=none)/\W i n ys H') hfs2 ?_ m0 ⟨0,[],a9s no none,_,b0z,Ic,dQ,fp0,w0⟩;rintro n s5 ⟨i,ys,own,H5,ho5,I5,st5,fr5,w5⟩;refine a6k hg hc hE T fpc I5 st5 fr5 ((turn i n ys H5 w5).imp (fun z=>⟨z.1,fun s' I6=>fin _ _ _ I6 z.2⟩) fun z=>⟨z.1,fun x H' y=>z.2 x H' y own ho5⟩) fun σ2 H4 h7 s' q8 I8 back=>?_;obtain⟨own1,ho8,rfl,q8⟩:=q8;refine a08 (hi2 _ s' _ H4 _ I8 q8) (fun v2 s9 h9=>?_) fun _ _ z=>(hE _ _ z).elim;refine a08 h9 (fun itv2 s10 h10=>?_) fun _ _ z=>(hE _ _ z).elim;obtain⟨it2,fp2,tn2,J2,H10,rfl,I10,T2,st10,f10,W2,⟨m2,w2⟩,turn2⟩:=h10;have stat:∀ H':Hp,(∀ b∈fp2,H' b=none)->∀ b∈fp2,eu Z ([]++cf fp h7) H' b:=fun _ hn b hb=>⟨hn b hb,(f10 b hb).2⟩
 refine (fun L=>mT L (T2.self _ 0 _ _ _ st10 L)) ?_;refine a5h (fun s'=>∃ m,m<n/\∃ i ys own H',own.length=no/\n9 Z [] (own++cp) H' s'/\tn i s'.heap/\(∀ b∈fp,H' b=none)/\W i m ys H') (fun f s' z=>z) fun R1 hR1=>?_;refine nN (fun n2 s'=>∃ j ys2 own2 H',own2.length=no/\n9 Z ([]++cf fp h7) (own2++cp) H' s'/\tn2 j s'.heap/\(∀ b∈fp2,H' b=none)/\W2 j n2 ys2 own2 H') ?_ m2 ⟨0,ys,own1,H10,ho8,I10,st10,fun b hb=>(f10 b hb).1,w2⟩;rintro n2 s11 ⟨j,ys2,own2,H11,ho11,I11,st11,fr11,w11⟩;refine a6k hg2 hc hE T2 stat I11 st11 fr11 ((turn2 j n2 ys2 own2 H11 w11).imp (fun⟨z,m',hm',w'⟩=>⟨z,fun s' I12=>hR1 _ _ ⟨m',hm',i+1,ys2,own2,H11,ho11,(back I12).1,(back I12).2.1,(back I12).2.2,w'⟩⟩) fun z=>⟨z.1,fun x H' y=>z.2 x H' y ho11⟩) fun σ2 H4 h7 s' q8 I8 back2=>?_;obtain⟨own3,ho14,rfl,q14⟩:=q8;refine pS he hE I8 q14 fun v H3 s9 ⟨m9,lt9,w9⟩ I10=>?_;exact⟨m9,lt9,j+1,ys2++[v],own3,_,ho14,(back2 I10).1,(back2 I10).2.1,(back2 I10).2.2,w9⟩
section
variable {X:Cx}
theorem ul{tg elt iter tg2 iter2:a13}{os:List Str}{pos ipos:Pos}{scope:Scope}{wi wi2:TI}{g g2:TG}{te:TE}{caps:List (Nat×Str)}{c2t:List (Addr×Obj)}{s:a01}{σ:L2.St}{H:Hp}{Q:VK}{use:Option (Value->Sem Unit)}{R:Value->a01->Prop}(hi:PI X tg iter wi)(hg:∀ cl C s0 H0 fp,PG (j9 X scope cl (os++caps.map (·.2)) C s0 H0 fp) tg g)(hi2:∀ cl C s0 H0 fp,PI (j9 X scope cl (os++caps.map (·.2)) C s0 H0 fp) tg2 iter2 wi2)(hg2:∀ cl C s0 H0 fp,PG (j9 X scope cl (os++caps.map (·.2)) C s0 H0 fp) tg2 g2)(he:∀ cl C s0 H0 fp,PE (j9 X scope cl (os++caps.map (·.2)) C s0 H0 fp) elt te)(hfree:∀ y∈scope.names,y.2=.free->X.env.kindOf y.1=some .cell)(hcap:∀ p∈caps,X.N[p.1]?=some p.2/\X.env.kindOf p.2=some .cell/\((a35 scope X.env).names.lookup p.2=some .cell\/(a35 scope X.env).names.lookup p.2=some .free))(hkind:scope.kind=.function)(hcell:∀ y∈scope.names,y.2≠.cell)(hnames:∀ y∈scope.names,y.2=.local->scope.names.lookup y.1=some .local)(hc:X.calm=true)(hfs:∀ v,a04 iter X.env v=pure v)(hfs2:∀ cl C v,a04 iter2 (a41 scope cl C X.env) v=pure v)(hfin:∀ D C H5 s6 m6,n9 X c2t σ H5 s6->s6.heap.Ns C m6->eu X c2t H5 C->Q (.ref D) H5->a74 (a05 X.prog X.w) X.A X.xe use R (.ref D) C (.ok .next) s6)(I:n9 X c2t σ H s)(h:pf os.length wi g wi2 g2 te (caps.map (·.1)) σ H Q) :
 a07 (a05 X.prog X.w) X.A (a66 (.ListComp elt [⟨tg,iter,[],0⟩,⟨tg2,iter2,[],0⟩] scope pos) scope X.env ipos (b20 []) false (eval iter X.env) use) R X.xe s:=by
 refine mR (os:=os) (caps:=caps) hi hfree hcap hkind hcell hnames hc hfs hfin I h (fun cl C s3 fp it tn J H1 D s4 hG T Ic dQ fp0 fpc fin=>?_);exact uk (Z:=(j9 X scope cl (os++caps.map (·.2)) C s3 (upd H1 D (.lst [])) fp)) (hg _ _ _ _ _) (hi2 _ _ _ _ _) (hg2 _ _ _ _ _) (he _ _ _ _ _) hc (fun _ _ z=>z) (hfs2 _ _) hG T Ic dQ fp0 fpc fin
theorem wN{tg elt iter tg2 iter2:a13}{os:List Str}{pos:Pos}{scope:Scope}{wi wi2:TI}{g g2:TG}{te:TE}{caps:List (Nat×Str)}(hi:PI X tg iter wi)(hg:∀ cl C s0 H0 fp,PG (j9 X scope cl (os++caps.map (·.2)) C s0 H0 fp) tg g)(hi2:∀ cl C s0 H0 fp,PI (j9 X scope cl (os++caps.map (·.2)) C s0 H0 fp) tg2 iter2 wi2)(hg2:∀ cl C s0 H0 fp,PG (j9 X scope cl (os++caps.map (·.2)) C s0 H0 fp) tg2 g2)(he:∀ cl C s0 H0 fp,PE (j9 X scope cl (os++caps.map (·.2)) C s0 H0 fp) elt te)(hfree:∀ y∈scope.names,y.2=.free->X.env.kindOf y.1=some .cell)(hcap:∀ p∈caps,X.N[p.1]?=some p.2/\X.env.kindOf p.2=some .cell/\((a35 scope X.env).names.lookup p.2=some .cell\/(a35 scope X.env).names.lookup p.2=some .free))(hkind:scope.kind=.function)(hcell:∀ y∈scope.names,y.2≠.cell)(hnames:∀ y∈scope.names,y.2=.local->scope.names.lookup y.1=some .local)(hc:X.calm=true)(hfs:∀ v,a04 iter X.env v=pure v)(hfs2:∀ cl C v,a04 iter2 (a41 scope cl C X.env) v=pure v) :
 PE X (.ListComp elt [⟨tg,iter,[],0⟩,⟨tg2,iter2,[],0⟩] scope pos) (pf os.length wi g wi2 g2 te (caps.map (·.1))):=by
 intro c2t s σ H Q I h;rw[b07];refine ul (Q:=Q) (use:=none) (R:=EP X c2t σ Q) hi hg hi2 hg2 he hfree hcap hkind hcell hnames hc hfs hfs2 (fun D C H5 s6 m6 I6 n6 f6 q6=>?_) I h;refine⟨m6,n6,fun h' hs'=>⟨.ref D,H5,?_,rfl,q6⟩⟩;exact I6.turned (t':=s6.toks) (fun b o hb e=>(hs'.2 b hb).trans e) f6.1 f6.2.1 f6.2.2.2.1 f6.2.2.2.2.1 f6.2.2.2.2.2
theorem wM{tg elt iter tg2 iter2:a13}{os:List Str}{pos:Pos}{scope:Scope}{wi wi2:TI}{g g2:TG}{te:TE}{caps:List (Nat×Str)}(N:List Str)(sc:Scope)(hi:PI X tg iter wi)(hg:∀ cl C s0 H0 fp,PG (j9 X scope cl (os++caps.map (·.2)) C s0 H0 fp) tg g)(hi2:∀ cl C s0 H0 fp,PI (j9 X scope cl (os++caps.map (·.2)) C s0 H0 fp) tg2 iter2 wi2)(hg2:∀ cl C s0 H0 fp,PG (j9 X scope cl (os++caps.map (·.2)) C s0 H0 fp) tg2 g2)(he:∀ cl C s0 H0 fp,PE (j9 X scope cl (os++caps.map (·.2)) C s0 H0 fp) elt te)(ok:cG N sc scope caps=true)(hN:X.N=N:=by rfl)(hsc:X.env.scope=sc:=by rfl)(hc:X.calm=true:=by rfl)(hfs:∀ v,a04 iter X.env v=pure v:=by intro _;rfl)(hfs2:∀ cl C v,a04 iter2 (a41 scope cl C X.env) v=pure v:=by intro _ _ _;rfl) :
 PE X (.ListComp elt [⟨tg,iter,[],0⟩,⟨tg2,iter2,[],0⟩] scope pos) (pf os.length wi g wi2 g2 te (caps.map (·.1))):=by
 subst hN hsc;unfold cG at ok;simp only[b1g,b2o,decide_eq_true_eq,b6r,b5x,decide_eq_false_iff_not] at ok;obtain⟨⟨h1,h2⟩,h3⟩:=ok;refine wN hi hg hi2 hg2 he (fun y hy hf=>?_) (fun p hp=>?_) h1 (fun y hy=>(h2 y hy).1.1) (fun y hy hl=>?_) hc hfs hfs2
 .rcases (h2 y hy).1.2 with z | z
  .exact absurd hf z
  .exact z
 .obtain⟨⟨a,b⟩,c⟩:=h3 p hp;exact⟨a,b,cA c⟩
 .rcases (h2 y hy).2 with z | z
  .exact absurd hl z
  .exact z
end
structure LsV(H1 H2:Hp)(D:Addr)(ys:List V)(R:Nat->List V->Hp->Prop):Prop where
 get:∀ (i:Nat) (v:V),ys[i]?=some v->∃ (l:Addr) (xs:List V),v=V.ref l/\H1 l=none/\l≠D/\H2 l=some (HO.lst xs)/\R i xs H2
 one:∀ (i j:Nat) (v:V),ys[i]?=some v->ys[j]?=some v->i=j
section
variable {K:a8z} {J:It} {H1:Hp} {te:TE} {cs:L2.St} {Q:VK} {n:Nat}
theorem a8m{f:Nat->V}(hJ:fv J H1 n f)(hn:n<=100000)(R:Nat->List V->Hp->Prop)(hR:∀ i v H H',bR H H'->R i v H->R i v H')(he:∀ i H2 (k:VK),i<n->b9 H1 H2->(∀ l xs H3,b9 H2 H3->H2 l=none->H3 l=some (.lst xs)->R i xs H3->k (.ref l) H3)->te (some (f i)::cs) H2 k)(hq:∀ D ys H2,H1 D=none->b9 H1 H2->H2 D=some (.lst ys)->ys.length=n->LsV H1 H2 D ys R->Q (.ref D) H2) :
 de 1 J H1 (aU 0) te cs Q:=by
 intro D hD;refine⟨fun i m ys H2=>m=n - i/\i<=n/\ys.length=i/\b9 H1 H2/\H2 D=some (.lst ys)/\LsV H1 H2 D ys R,⟨n,by simp,b1m _,rfl,b9.new hD,b7,⟨fun j v e=>by simp at e,fun i j v e=>by simp at e⟩⟩,?_⟩;rintro i m ys H2 ⟨rfl,hi,hl,s2,d2,r2⟩;by_cases hlt:i<n
 .refine .inr ⟨((hJ H2 s2 i).1 hlt).1,fun x H' y own ho=>?_⟩;obtain⟨rfl,rfl⟩:=((hJ H2 s2 i).1 hlt).2 x H' y;cases own with
  | nil=>cases ho
  | cons o1 r=>
    cases r with
    | cons _ _=>cases ho
    | nil=>
      refine⟨⟨[some (f i)],rfl,rfl⟩,he i _ _ hlt s2 fun l xs H3 s3 hl0 hl3 r3=>⟨s3 _ _ d2,j8 (by lia),n - (i+1),by lia,rfl,hlt,by rw[a9b,hl];rfl,fun b o e=>?_,b7,?_⟩⟩
      .rw[i9 (n8 e hD)];exact s3 _ _ (s2 _ _ e)
      .have t3:bR H3 (upd H3 D (.lst (ys++[V.ref l]))):=bR.lst (s3 _ _ d2);have nD:l≠D:=fun e=>by rw[e,d2] at hl0;cases hl0
       have snocc:∀ j w,(ys++[V.ref l])[j]?=some w->(ys[j]?=some w/\j<i)\/(j=i/\w=V.ref l):=fun j w e=>by
        by_cases hj:j<ys.length
        .rw[a9i hj] at e;exact .inl ⟨e,by lia⟩
        .rw[a9l (by lia)] at e;have hj0:j - ys.length=0:=by
          cases q:j - ys.length with
          | zero=>rfl
          | succ k=>rw[q] at e;simp at e
         rw[hj0] at e;exact .inr ⟨by lia,by simpa using e.symm⟩
       refine⟨fun j w e=>?_,fun j1 j2 w e1 e2=>?_⟩
       .rcases snocc j w e with⟨e,_⟩ | ⟨rfl,rfl⟩
        .obtain⟨l',xs',rfl,a1,a2,a3,a4⟩:=r2.get j w e;exact⟨l',xs',rfl,a1,a2,by rw[i9 a2];exact s3 _ _ a3,hR _ _ _ _ (s3.tup.trans t3) a4⟩
        .exact⟨l,xs,rfl,s2.free hl0,nD,by rw[i9 nD];exact hl3,hR _ _ _ _ t3 r3⟩
       .rcases snocc j1 w e1 with⟨f1,g1⟩ | ⟨rfl,rfl⟩
        .rcases snocc j2 w e2 with⟨f2,g2⟩ | ⟨rfl,rfl⟩
         .exact r2.one j1 j2 w f1 f2
         .obtain⟨l',xs',e',a1,a2,a3,a4⟩:=r2.get j1 _ f1;cases e';rw[a3] at hl0;cases hl0
        .rcases snocc j2 _ e2 with⟨f2,g2⟩ | ⟨rfl,_⟩
         .obtain⟨l',xs',e',a1,a2,a3,a4⟩:=r2.get j2 _ f2;cases e';rw[a3] at hl0;cases hl0
         .rfl
 .have e:i=n:=by lia
  subst e;exact .inl ⟨(hJ H2 s2 i).2 rfl,hq D ys H2 hD s2 d2 hl r2⟩
end
section
variable {X:Cx}
theorem fS(K:a8z){tg l:a13}{tl:TE}(hl:ao X l tl)(hK:X.K=K:=by rfl):qw X tg l (a5d K tl):=by subst hK;exact Q8 hl
theorem o8(K:a8z){tg l:a13}{tl:TE}(hl:ao X l tl)(hK:X.K=K:=by rfl):qw X tg l (C9 K tl):=by subst hK;exact yP hl
theorem sT{tg elt iter tg2 iter2:a13}{os:List Str}{pos:Pos}{scope:Scope}{wi wi2:TI}{g g2:TG}{te:TE}{caps:List (Nat×Str)}(N:List Str)(sc:Scope)(hi:qw X tg iter wi)(hg:∀ cl C s0 H0 fp,qx (j9 X scope cl (os++caps.map (·.2)) C s0 H0 fp) tg g)(hi2:∀ cl C s0 H0 fp,qw (j9 X scope cl (os++caps.map (·.2)) C s0 H0 fp) tg2 iter2 wi2)(hg2:∀ cl C s0 H0 fp,qx (j9 X scope cl (os++caps.map (·.2)) C s0 H0 fp) tg2 g2)(he:∀ cl C s0 H0 fp,ao (j9 X scope cl (os++caps.map (·.2)) C s0 H0 fp) elt te)(ok:cG N sc scope caps=true)(hN:X.N=N:=by rfl)(hsc:X.env.scope=sc:=by rfl)(hc:X.calm=true:=by rfl)(hfs:∀ v,a04 iter X.env v=pure v:=by intro _;rfl)(hfs2:∀ cl C v,a04 iter2 (a41 scope cl C X.env) v=pure v:=by intro _ _ _;rfl) :
 ao X (.ListComp elt [⟨tg,iter,[],0⟩,⟨tg2,iter2,[],0⟩] scope pos) (pf os.length wi g wi2 g2 te (caps.map (·.1))):=by with_unfolding_all exact wM (N:=N) (sc:=sc) (hi:=hi) (hg:=hg) (hi2:=hi2) (hg2:=hg2) (he:=he) (ok:=ok) (hN:=hN) (hsc:=hsc) (hc:=hc) (hfs:=hfs) (hfs2:=hfs2)
end
theorem kQ(elt t1 i1 t2 i2 t3 i3:a13)(scope:Scope)(pos:Pos)(it acc:Value)(env:Env) :
 a48 (.ListComp elt [⟨t1,i1,[],0⟩,⟨t2,i2,[],0⟩,⟨t3,i3,[],0⟩] scope pos) 0 it acc env=(a28 i1.pos >>= fun _=>a52 it >>= fun r=>match r with
  | none=>pure (.done .next)
  | some v=>a18 t1 it v >>= fun _=>a29 t1 env v >>= fun _=>
    eval i2 env >>= fun x=>a28 i2.pos >>= fun _=>a04 i2 env x >>= fun x=>a43 [x] (a65 x) >>= fun it2=>
     runOwn (.compStart (.ListComp elt [⟨t1,i1,[],0⟩,⟨t2,i2,[],0⟩,⟨t3,i3,[],0⟩] scope pos) 1 it2 acc env) env >>= fun _=>
     b12 (.compLoop (.ListComp elt [⟨t1,i1,[],0⟩,⟨t2,i2,[],0⟩,⟨t3,i3,[],0⟩] scope pos) 0 it acc env)):=by rfl
theorem kP(elt t1 i1 t2 i2 t3 i3:a13)(scope:Scope)(pos:Pos)(it acc:Value)(env:Env) :
 a48 (.ListComp elt [⟨t1,i1,[],0⟩,⟨t2,i2,[],0⟩,⟨t3,i3,[],0⟩] scope pos) 1 it acc env=(a28 i2.pos >>= fun _=>a52 it >>= fun r=>match r with
  | none=>pure (.done .next)
  | some v=>a18 t2 it v >>= fun _=>a29 t2 env v >>= fun _=>
    eval i3 env >>= fun x=>a28 i3.pos >>= fun _=>a04 i3 env x >>= fun x=>a43 [x] (a65 x) >>= fun it2=>
     runOwn (.compStart (.ListComp elt [⟨t1,i1,[],0⟩,⟨t2,i2,[],0⟩,⟨t3,i3,[],0⟩] scope pos) 2 it2 acc env) env >>= fun _=>
     b12 (.compLoop (.ListComp elt [⟨t1,i1,[],0⟩,⟨t2,i2,[],0⟩,⟨t3,i3,[],0⟩] scope pos) 1 it acc env)):=by rfl
theorem kO(elt t1 i1 t2 i2 t3 i3:a13)(scope:Scope)(pos:Pos)(it acc:Value)(env:Env) :
 a48 (.ListComp elt [⟨t1,i1,[],0⟩,⟨t2,i2,[],0⟩,⟨t3,i3,[],0⟩] scope pos) 2 it acc env=(a28 i3.pos >>= fun _=>a52 it >>= fun r=>match r with
  | none=>pure (.done .next)
  | some v=>a18 t3 it v >>= fun _=>a29 t3 env v >>= fun _=>
    (eval elt env >>= fun x=>call (.builtin "list.append") [acc,x] >>= fun _=>pure ()) >>= fun _=>
      b12 (.compLoop (.ListComp elt [⟨t1,i1,[],0⟩,⟨t2,i2,[],0⟩,⟨t3,i3,[],0⟩] scope pos) 2 it acc env)):=by rfl
section
variable {prog:a15} {w:a20} {A:a19} {R:a75->a01->Prop} {s:a01}
theorem kd{elt t1 i1 t2 i2 t3 i3:a13}{scope:Scope}{pos:Pos}{it acc:Value}{env:Env}(h0:a25 (a05 prog w) A (.compLoop (.ListComp elt [⟨t1,i1,[],0⟩,⟨t2,i2,[],0⟩,⟨t3,i3,[],0⟩] scope pos) 1 it acc env) R s)(h:a07 (a05 prog w) A (a65 it) (fun it' s'=>a25 (a05 prog w) A (.compLoop (.ListComp elt [⟨t1,i1,[],0⟩,⟨t2,i2,[],0⟩,⟨t3,i3,[],0⟩] scope pos) 1 it' acc env) R s')
 (a21 (a05 prog w) A env fun x s'=>R (.error x) s') s) :
 a25 (a05 prog w) A (.compStart (.ListComp elt [⟨t1,i1,[],0⟩,⟨t2,i2,[],0⟩,⟨t3,i3,[],0⟩] scope pos) 1 it acc env) R s:=by
 refine a91 ?_;show a07 _ _ ((a76 (.ListComp elt [⟨t1,i1,[],0⟩,⟨t2,i2,[],0⟩,⟨t3,i3,[],0⟩] scope pos) 1 it acc env).onRaise (fun x=>do a31 x env;a28 a90)) _ _ s;refine b02 ?_;unfold a76;show a07 _ _ (ask >>= _) _ _ s;refine a00 (a86 (wpAny_ite ?_));split
 .first
   | exact a00 (a02 (a02 (And.intro rfl h0)))
   | exact a02 (And.intro rfl h0)
 .first
   | exact a00 (a30 (a00 (a17 (a00 (a08 h (fun it' s' h'=>a02 (And.intro rfl h')) fun _ _ x=>x)))))
   | (refine a00 (a30 ?_);show a07 _ _ (a28 i2.pos >>= _) _ _ s;exact a00 (a17 (a00 (a08 h (fun it' s' h'=>a02 (And.intro rfl h')) fun _ _ x=>x))))
theorem kc{elt t1 i1 t2 i2 t3 i3:a13}{scope:Scope}{pos:Pos}{it acc:Value}{env:Env}(h0:a25 (a05 prog w) A (.compLoop (.ListComp elt [⟨t1,i1,[],0⟩,⟨t2,i2,[],0⟩,⟨t3,i3,[],0⟩] scope pos) 2 it acc env) R s)(h:a07 (a05 prog w) A (a65 it) (fun it' s'=>a25 (a05 prog w) A (.compLoop (.ListComp elt [⟨t1,i1,[],0⟩,⟨t2,i2,[],0⟩,⟨t3,i3,[],0⟩] scope pos) 2 it' acc env) R s')
 (a21 (a05 prog w) A env fun x s'=>R (.error x) s') s) :
 a25 (a05 prog w) A (.compStart (.ListComp elt [⟨t1,i1,[],0⟩,⟨t2,i2,[],0⟩,⟨t3,i3,[],0⟩] scope pos) 2 it acc env) R s:=by
 refine a91 ?_;show a07 _ _ ((a76 (.ListComp elt [⟨t1,i1,[],0⟩,⟨t2,i2,[],0⟩,⟨t3,i3,[],0⟩] scope pos) 2 it acc env).onRaise (fun x=>do a31 x env;a28 a90)) _ _ s;refine b02 ?_;unfold a76;show a07 _ _ (ask >>= _) _ _ s;refine a00 (a86 (wpAny_ite ?_));split
 .first
   | exact a00 (a02 (a02 (And.intro rfl h0)))
   | exact a02 (And.intro rfl h0)
 .first
   | exact a00 (a30 (a00 (a17 (a00 (a08 h (fun it' s' h'=>a02 (And.intro rfl h')) fun _ _ x=>x)))))
   | (refine a00 (a30 ?_);show a07 _ _ (a28 i3.pos >>= _) _ _ s;exact a00 (a17 (a00 (a08 h (fun it' s' h'=>a02 (And.intro rfl h')) fun _ _ x=>x))))
theorem kR{elt t1 i1 t2 i2 t3 i3:a13}{scope:Scope}{pos:Pos}{it acc:Value}{env:Env}(I:Nat->a01->Prop)(turn:∀ n s,I n s->a07 (a05 prog w) A (a52 it) (fun r s₁=>match r with
 | none=>R (.ok .next) s₁
 | some v=>a07 (a05 prog w) A (a18 t3 it v) (fun _ s₁'=>a07 (a05 prog w) A (a29 t3 env v) (fun _ s₂=>a07 (a05 prog w) A (eval elt env) (fun x s₃=>
    a07 (a05 prog w) A (call (.builtin "list.append") [acc,x]) (fun _ s₄=>∃ m,m<n/\I m s₄) (a21 (a05 prog w) A env fun e s'=>R (.error e) s') s₃)
    (a21 (a05 prog w) A env fun e s'=>R (.error e) s') s₂) (a21 (a05 prog w) A env fun e s'=>R (.error e) s') s₁') (a21 (a05 prog w) A env fun e s'=>R (.error e) s') s₁) (a21 (a05 prog w) A env fun e s'=>R (.error e) s') s)(n:Nat)(h:I n s) :
 a25 (a05 prog w) A (.compLoop (.ListComp elt [⟨t1,i1,[],0⟩,⟨t2,i2,[],0⟩,⟨t3,i3,[],0⟩] scope pos) 2 it acc env) R s:=by
 refine a61 rfl I (fun n s hI=>?_) n h;show a07 _ _ ((a48 (.ListComp elt [⟨t1,i1,[],0⟩,⟨t2,i2,[],0⟩,⟨t3,i3,[],0⟩] scope pos) 2 it acc env).onRaise (fun x=>do a31 x env;a44 x)) _ _ s;refine a63 ?_;rw[kO];refine a00 (a17 (a00 (a08 (turn n s hI) (fun r s₁ h₁=>?_) fun _ _ h'=>h')));cases r with
 | none=>exact a02 h₁
 | some v=>
   refine a00 (a08 h₁ (fun _ s₁' h₁'=>?_) fun _ _ h'=>h');exact a00 (a08 h₁' (fun _ s₂ h₂=>a00 (a00 (a08 h₂ (fun x s₃ h₃=>a00 (a08 h₃
    (fun _ s₄ h₄=>a02 (a02 ⟨rfl,h₄⟩)) fun _ _ h'=>h')) fun _ _ h'=>h'))) fun _ _ h'=>h')
theorem kT{elt t1 i1 t2 i2 t3 i3:a13}{scope:Scope}{pos:Pos}{it acc:Value}{env:Env}(I:Nat->a01->Prop)(hfs:∀ v,a04 i2 env v=pure v)(turn:∀ n s,I n s->a07 (a05 prog w) A (a52 it) (fun r s₁=>match r with
 | none=>R (.ok .next) s₁
 | some v=>a07 (a05 prog w) A (a18 t1 it v) (fun _ s₁'=>a07 (a05 prog w) A (a29 t1 env v) (fun _ s₂=>a07 (a05 prog w) A (eval i2 env) (fun x s₃=>
    a07 (a05 prog w) A (a65 x) (fun it2 s₄=>a25 (a05 prog w) A (.compStart (.ListComp elt [⟨t1,i1,[],0⟩,⟨t2,i2,[],0⟩,⟨t3,i3,[],0⟩] scope pos) 1 it2 acc env) (fun r s'=>match r with | .ok _=>∃ m,m<n/\I m s' | .error e=>cameBackBy (a05 prog w) A env (a21 (a05 prog w) A env fun e s'=>R (.error e) s') e s') s₄) (a21 (a05 prog w) A env fun e s'=>R (.error e) s') s₃)
    (a21 (a05 prog w) A env fun e s'=>R (.error e) s') s₂) (a21 (a05 prog w) A env fun e s'=>R (.error e) s') s₁') (a21 (a05 prog w) A env fun e s'=>R (.error e) s') s₁) (a21 (a05 prog w) A env fun e s'=>R (.error e) s') s)(n:Nat)(h:I n s) :
 a25 (a05 prog w) A (.compLoop (.ListComp elt [⟨t1,i1,[],0⟩,⟨t2,i2,[],0⟩,⟨t3,i3,[],0⟩] scope pos) 0 it acc env) R s:=by
 refine a61 rfl I (fun n s hI=>?_) n h;show a07 _ _ ((a48 (.ListComp elt [⟨t1,i1,[],0⟩,⟨t2,i2,[],0⟩,⟨t3,i3,[],0⟩] scope pos) 0 it acc env).onRaise (fun x=>do a31 x env;a44 x)) _ _ s;refine a63 ?_;rw[kQ];refine a00 (a17 (a00 (a08 (turn n s hI) (fun r s₁ h₁=>?_) fun _ _ h'=>h')));cases r with
 | none=>exact a02 h₁
 | some v=>
   refine a00 (a08 h₁ (fun _ s₁' h₁'=>?_) fun _ _ h'=>h');refine a00 (a08 h₁' (fun _ s₂ h₂=>?_) fun _ _ h'=>h');refine a00 (a08 h₂ (fun x s₃ h₃=>?_) fun _ _ h'=>h');refine a00 (a17 (a00 (b24 (hfs x) (a00 (a16 (a08 h₃ (fun it2 s₄ h₄=>?_) fun _ _ h'=>h'))))));refine a00 (b16 (a49 h₄ fun r s' h'=>?_));cases r with
   | ok f=>exact a02 ⟨rfl,h'⟩
   | error e=>exact h'
theorem kS{elt t1 i1 t2 i2 t3 i3:a13}{scope:Scope}{pos:Pos}{it acc:Value}{env:Env}(I:Nat->a01->Prop)(hfs:∀ v,a04 i3 env v=pure v)(turn:∀ n s,I n s->a07 (a05 prog w) A (a52 it) (fun r s₁=>match r with
 | none=>R (.ok .next) s₁
 | some v=>a07 (a05 prog w) A (a18 t2 it v) (fun _ s₁'=>a07 (a05 prog w) A (a29 t2 env v) (fun _ s₂=>a07 (a05 prog w) A (eval i3 env) (fun x s₃=>
    a07 (a05 prog w) A (a65 x) (fun it2 s₄=>a25 (a05 prog w) A (.compStart (.ListComp elt [⟨t1,i1,[],0⟩,⟨t2,i2,[],0⟩,⟨t3,i3,[],0⟩] scope pos) 2 it2 acc env) (fun r s'=>match r with | .ok _=>∃ m,m<n/\I m s' | .error e=>cameBackBy (a05 prog w) A env (a21 (a05 prog w) A env fun e s'=>R (.error e) s') e s') s₄) (a21 (a05 prog w) A env fun e s'=>R (.error e) s') s₃)
    (a21 (a05 prog w) A env fun e s'=>R (.error e) s') s₂) (a21 (a05 prog w) A env fun e s'=>R (.error e) s') s₁') (a21 (a05 prog w) A env fun e s'=>R (.error e) s') s₁) (a21 (a05 prog w) A env fun e s'=>R (.error e) s') s)(n:Nat)(h:I n s) :
 a25 (a05 prog w) A (.compLoop (.ListComp elt [⟨t1,i1,[],0⟩,⟨t2,i2,[],0⟩,⟨t3,i3,[],0⟩] scope pos) 1 it acc env) R s:=by
 refine a61 rfl I (fun n s hI=>?_) n h;show a07 _ _ ((a48 (.ListComp elt [⟨t1,i1,[],0⟩,⟨t2,i2,[],0⟩,⟨t3,i3,[],0⟩] scope pos) 1 it acc env).onRaise (fun x=>do a31 x env;a44 x)) _ _ s;refine a63 ?_;rw[kP];refine a00 (a17 (a00 (a08 (turn n s hI) (fun r s₁ h₁=>?_) fun _ _ h'=>h')));cases r with
 | none=>exact a02 h₁
 | some v=>
   refine a00 (a08 h₁ (fun _ s₁' h₁'=>?_) fun _ _ h'=>h');refine a00 (a08 h₁' (fun _ s₂ h₂=>?_) fun _ _ h'=>h');refine a00 (a08 h₂ (fun x s₃ h₃=>?_) fun _ _ h'=>h');refine a00 (a17 (a00 (b24 (hfs x) (a00 (a16 (a08 h₃ (fun it2 s₄ h₄=>?_) fun _ _ h'=>h'))))));refine a00 (b16 (a49 h₄ fun r s' h'=>?_));cases r with
   | ok f=>exact a02 ⟨rfl,h'⟩
   | error e=>exact h'
end
noncomputable def oX(k:Nat)(J:It)(H1:Hp)(g:TG)(wi2:TI)(g2:TG)(wi3:TI)(g3:TG)(te:TE)(cs:L2.St)(Q:VK):Prop:=∀ D,H1 D=none->∃ W:Nat->Nat->List V->Hp->Prop,(∃ m,W 0 m [] (upd H1 D (.lst [])))/\
 ∀ i m ys H2,W i m ys H2->(J.stop i H2/\Q (.ref D) H2)\/(J.go i H2/\∀ x H',J.yld i H2 x H'->∀ own:L2.St,own.length=k->g x (own++cs) H' fun σ2 H4=>∃ own1:L2.St,own1.length=k/\σ2=own1++cs/\
  wi2 σ2 H4 fun J2 H5=>∃ W2:Nat->Nat->List V->L2.St->Hp->Prop,(∃ m2,W2 0 m2 ys own1 H5)/\
   ∀ j m2 ys2 own2 H6,W2 j m2 ys2 own2 H6->(J2.stop j H6/\∃ m',m' < m/\W (i+1) m' ys2 H6)\/(J2.go j H6/\∀ x2 H7,J2.yld j H6 x2 H7->own2.length=k->g2 x2 (own2++cs) H7 fun σ2 H4=>∃ own3:L2.St,own3.length=k/\σ2=own3++cs/\
    wi3 σ2 H4 fun J3 H8=>∃ W3:Nat->Nat->List V->L2.St->Hp->Prop,(∃ m3,W3 0 m3 ys2 own3 H8)/\
     ∀ l m3 ys3 own4 H9,W3 l m3 ys3 own4 H9->(J3.stop l H9/\∃ m',m' < m2/\W2 (j+1) m' ys3 own4 H9)\/(J3.go l H9/\∀ x3 H10,J3.yld l H9 x3 H10->own4.length=k->g3 x3 (own4++cs) H10 fun σ2 H4=>∃ own5:L2.St,own5.length=k/\σ2=own5++cs/\
      te σ2 H4 fun v H3=>H3 D=some (.lst ys3)/\ys3.length<sizeLine/\∃ m',m' < m3/\W3 (l+1) m' (ys3++[v]) own5 (upd H3 D (.lst (ys3++[v]))))))
noncomputable def pe(k:Nat)(wi:TI)(g:TG)(wi2:TI)(g2:TG)(wi3:TI)(g3:TG)(te:TE)(ix:List Nat):TE:=fun σ H Q=>wi σ H fun J H1=>oX k J H1 g wi2 g2 wi3 g3 te (nP σ ix) Q
theorem ui{Z:Cx}{tg elt iter tg2 iter2 tg3 iter3:a13}{pos:Pos}{scope:Scope}{wi2 wi3:TI}{g g2 g3:TG}{te:TE}{no:Nat}{cp:L2.St}{fp:List Addr}{it D:Addr}{tn:Nat->Heap->Prop}{J:It}{H1:Hp}{s4:a01}{Q:VK}{R0:a75->a01->Prop}(hg:PG Z tg g)(hi2:PI Z tg2 iter2 wi2)(hg2:PG Z tg2 g2)(hi3:PI Z tg3 iter3 wi3)(hg3:PG Z tg3 g3)(he:PE Z elt te)(hc:Z.calm=true)(hE:∀ v s,Z.xe v s->False)(hfs2:∀ v,a04 iter2 Z.env v=pure v)(hfs3:∀ v,a04 iter3 Z.env v=pure v)(hG:∃ W:Nat->Nat->List V->Hp->Prop,(∃ m,W 0 m [] (upd H1 D (.lst [])))/\
 ∀ i m ys H2,W i m ys H2->(J.stop i H2/\Q (.ref D) H2)\/(J.go i H2/\∀ x H',J.yld i H2 x H'->∀ own:L2.St,own.length=no->g x (own++cp) H' fun σ2 H4=>∃ own1:L2.St,own1.length=no/\σ2=own1++cp/\
  wi2 σ2 H4 fun J2 H5=>∃ W2:Nat->Nat->List V->L2.St->Hp->Prop,(∃ m2,W2 0 m2 ys own1 H5)/\
   ∀ j m2 ys2 own2 H6,W2 j m2 ys2 own2 H6->(J2.stop j H6/\∃ m',m' < m/\W (i+1) m' ys2 H6)\/(J2.go j H6/\∀ x2 H7,J2.yld j H6 x2 H7->own2.length=no->g2 x2 (own2++cp) H7 fun σ2 H4=>∃ own3:L2.St,own3.length=no/\σ2=own3++cp/\
    wi3 σ2 H4 fun J3 H8=>∃ W3:Nat->Nat->List V->L2.St->Hp->Prop,(∃ m3,W3 0 m3 ys2 own3 H8)/\
     ∀ l m3 ys3 own4 H9,W3 l m3 ys3 own4 H9->(J3.stop l H9/\∃ m',m' < m2/\W2 (j+1) m' ys3 own4 H9)\/(J3.go l H9/\∀ x3 H10,J3.yld l H9 x3 H10->own4.length=no->g3 x3 (own4++cp) H10 fun σ2 H4=>∃ own5:L2.St,own5.length=no/\σ2=own5++cp/\
      te σ2 H4 fun v H3=>H3 D=some (.lst ys3)/\ys3.length<sizeLine/\∃ m',m' < m3/\W3 (l+1) m' (ys3++[v]) own5 (upd H3 D (.lst (ys3++[v])))))))(T:nR Z.prog Z.w Z.K tg J fp it tn)(Ic:n9 Z [] (a9s no none++cp) (upd H1 D (.lst [])) s4)(dQ:tn 0 s4.heap)(fp0:∀ b∈fp,(upd H1 D (.lst [])) b=none)(fpc:∀ H',(∀ b∈fp,H' b=none)->∀ b∈fp,eu Z [] H' b)(fin:∀ σ' H5 s6,n9 Z [] σ' H5 s6->Q (.ref D) H5->R0 (.ok .next) s6) :
  a25 (a05 Z.prog Z.w) Z.A (.compLoop (.ListComp elt [⟨tg,iter,[],0⟩,⟨tg2,iter2,[],0⟩,⟨tg3,iter3,[],0⟩] scope pos) 0 (.ref it) (.ref D) Z.env) R0 s4:=by
 obtain⟨W,⟨m0,w0⟩,turn⟩:=hG;refine kT (fun n s'=>∃ i ys own H',own.length=no/\n9 Z [] (own++cp) H' s'/\tn i s'.heap/\(∀ b∈fp,H' b=none)/\W i n ys H') hfs2 ?_ m0 ⟨0,[],a9s no none,_,b0z,Ic,dQ,fp0,w0⟩;rintro n s5 ⟨i,ys,own,H5,ho5,I5,st5,fr5,w5⟩;refine a6k hg hc hE T fpc I5 st5 fr5 ((turn i n ys H5 w5).imp (fun z=>⟨z.1,fun s' I6=>fin _ _ _ I6 z.2⟩) fun z=>⟨z.1,fun x H' y=>z.2 x H' y own ho5⟩) fun σ2 H4 h7 s' q8 I8 back=>?_;obtain⟨own1,ho8,rfl,q8⟩:=q8;refine a08 (hi2 _ s' _ H4 _ I8 q8) (fun v2 s9 h9=>?_) fun _ _ z=>(hE _ _ z).elim;refine a08 h9 (fun itv2 s10 h10=>?_) fun _ _ z=>(hE _ _ z).elim;obtain⟨it2,fp2,tn2,J2,H10,rfl,I10,T2,st10,f10,W2,⟨m2,w2⟩,turn2⟩:=h10;have stat:∀ H':Hp,(∀ b∈fp2,H' b=none)->∀ b∈fp2,eu Z ([]++cf fp h7) H' b:=fun _ hn b hb=>⟨hn b hb,(f10 b hb).2⟩
 refine (fun L=>kd L (T2.self _ 0 _ _ _ st10 L)) ?_;refine a5h (fun s'=>∃ m,m<n/\∃ i ys own H',own.length=no/\n9 Z [] (own++cp) H' s'/\tn i s'.heap/\(∀ b∈fp,H' b=none)/\W i m ys H') (fun f s' z=>z) fun R1 hR1=>?_;refine kS (fun n2 s'=>∃ j ys2 own2 H',own2.length=no/\n9 Z ([]++cf fp h7) (own2++cp) H' s'/\tn2 j s'.heap/\(∀ b∈fp2,H' b=none)/\W2 j n2 ys2 own2 H') hfs3 ?_ m2 ⟨0,ys,own1,H10,ho8,I10,st10,fun b hb=>(f10 b hb).1,w2⟩;rintro n2 s11 ⟨j,ys2,own2,H11,ho11,I11,st11,fr11,w11⟩;refine a6k hg2 hc hE T2 stat I11 st11 fr11 ((turn2 j n2 ys2 own2 H11 w11).imp (fun⟨z,m',hm',w'⟩=>⟨z,fun s' I12=>hR1 _ _ ⟨m',hm',i+1,ys2,own2,H11,ho11,(back I12).1,(back I12).2.1,(back I12).2.2,w'⟩⟩) fun z=>⟨z.1,fun x H' y=>z.2 x H' y ho11⟩) fun σ2 H4 h8 s' q8 I8 back2=>?_;obtain⟨own3,ho14,rfl,q14⟩:=q8;refine a08 (hi3 _ s' _ H4 _ I8 q14) (fun v3 s15 h15=>?_) fun _ _ z=>(hE _ _ z).elim;refine a08 h15 (fun itv3 s16 h16=>?_) fun _ _ z=>(hE _ _ z).elim;obtain⟨it3,fp3,tn3,J3,H16,rfl,I16,T3,st16,f16,W3,⟨m3,w3⟩,turn3⟩:=h16;have stat3:∀ H':Hp,(∀ b∈fp3,H' b=none)->∀ b∈fp3,eu Z ([]++cf fp h7++cf fp2 h8) H' b:=fun _ hn b hb=>⟨hn b hb,(f16 b hb).2⟩
 refine (fun L=>kc L (T3.self _ 0 _ _ _ st16 L)) ?_;refine a5h (fun s'=>∃ m,m<n2/\∃ j ys2 own2 H',own2.length=no/\n9 Z ([]++cf fp h7) (own2++cp) H' s'/\tn2 j s'.heap/\(∀ b∈fp2,H' b=none)/\W2 j m ys2 own2 H') (fun f s' z=>z) fun R2 hR2=>?_;refine kR (fun n3 s'=>∃ l ys3 own4 H',own4.length=no/\n9 Z ([]++cf fp h7++cf fp2 h8) (own4++cp) H' s'/\tn3 l s'.heap/\(∀ b∈fp3,H' b=none)/\W3 l n3 ys3 own4 H') ?_ m3 ⟨0,ys2,own3,H16,ho14,I16,st16,fun b hb=>(f16 b hb).1,w3⟩;rintro n3 s17 ⟨l,ys3,own4,H17,ho17,I17,st17,fr17,w17⟩;refine a6k hg3 hc hE T3 stat3 I17 st17 fr17 ((turn3 l n3 ys3 own4 H17 w17).imp (fun⟨z,m',hm',w'⟩=>⟨z,fun s' I18=>hR2 _ _ ⟨m',hm',j+1,ys3,own4,H17,ho17,(back2 I18).1,(back2 I18).2.1,(back2 I18).2.2,w'⟩⟩) fun z=>⟨z.1,fun x H' y=>z.2 x H' y ho17⟩) fun σ2 H4 h9 s' q8 I8 back3=>?_;obtain⟨own5,ho20,rfl,q20⟩:=q8;refine pS he hE I8 q20 fun v H3 s9 ⟨m9,lt9,w9⟩ I10=>?_;exact⟨m9,lt9,l+1,ys3++[v],own5,_,ho20,(back3 I10).1,(back3 I10).2.1,(back3 I10).2.2,w9⟩
section
variable {X:Cx}
theorem uj{tg elt iter tg2 iter2 tg3 iter3:a13}{os:List Str}{pos ipos:Pos}{scope:Scope}{wi wi2 wi3:TI}{g g2 g3:TG}{te:TE}{caps:List (Nat×Str)}{c2t:List (Addr×Obj)}{s:a01}{σ:L2.St}{H:Hp}{Q:VK}{use:Option (Value->Sem Unit)}{R:Value->a01->Prop}(hi:PI X tg iter wi)(hg:∀ cl C s0 H0 fp,PG (j9 X scope cl (os++caps.map (·.2)) C s0 H0 fp) tg g)(hi2:∀ cl C s0 H0 fp,PI (j9 X scope cl (os++caps.map (·.2)) C s0 H0 fp) tg2 iter2 wi2)(hg2:∀ cl C s0 H0 fp,PG (j9 X scope cl (os++caps.map (·.2)) C s0 H0 fp) tg2 g2)(hi3:∀ cl C s0 H0 fp,PI (j9 X scope cl (os++caps.map (·.2)) C s0 H0 fp) tg3 iter3 wi3)(hg3:∀ cl C s0 H0 fp,PG (j9 X scope cl (os++caps.map (·.2)) C s0 H0 fp) tg3 g3)(he:∀ cl C s0 H0 fp,PE (j9 X scope cl (os++caps.map (·.2)) C s0 H0 fp) elt te)(hfree:∀ y∈scope.names,y.2=.free->X.env.kindOf y.1=some .cell)(hcap:∀ p∈caps,X.N[p.1]?=some p.2/\X.env.kindOf p.2=some .cell/\((a35 scope X.env).names.lookup p.2=some .cell\/(a35 scope X.env).names.lookup p.2=some .free))(hkind:scope.kind=.function)(hcell:∀ y∈scope.names,y.2≠.cell)(hnames:∀ y∈scope.names,y.2=.local->scope.names.lookup y.1=some .local)(hc:X.calm=true)(hfs:∀ v,a04 iter X.env v=pure v)(hfs2:∀ cl C v,a04 iter2 (a41 scope cl C X.env) v=pure v)(hfs3:∀ cl C v,a04 iter3 (a41 scope cl C X.env) v=pure v)(hfin:∀ D C H5 s6 m6,n9 X c2t σ H5 s6->s6.heap.Ns C m6->eu X c2t H5 C->Q (.ref D) H5->a74 (a05 X.prog X.w) X.A X.xe use R (.ref D) C (.ok .next) s6)(I:n9 X c2t σ H s)(h:pe os.length wi g wi2 g2 wi3 g3 te (caps.map (·.1)) σ H Q) :
 a07 (a05 X.prog X.w) X.A (a66 (.ListComp elt [⟨tg,iter,[],0⟩,⟨tg2,iter2,[],0⟩,⟨tg3,iter3,[],0⟩] scope pos) scope X.env ipos (b20 []) false (eval iter X.env) use) R X.xe s:=by
 refine mR (os:=os) (caps:=caps) hi hfree hcap hkind hcell hnames hc hfs hfin I h (fun cl C s3 fp it tn J H1 D s4 hG T Ic dQ fp0 fpc fin=>?_);exact ui (Z:=(j9 X scope cl (os++caps.map (·.2)) C s3 (upd H1 D (.lst [])) fp)) (hg _ _ _ _ _) (hi2 _ _ _ _ _) (hg2 _ _ _ _ _) (hi3 _ _ _ _ _) (hg3 _ _ _ _ _) (he _ _ _ _ _) hc (fun _ _ z=>z) (hfs2 _ _) (hfs3 _ _) hG T Ic dQ fp0 fpc fin
theorem wK{tg elt iter tg2 iter2 tg3 iter3:a13}{os:List Str}{pos:Pos}{scope:Scope}{wi wi2 wi3:TI}{g g2 g3:TG}{te:TE}{caps:List (Nat×Str)}(hi:PI X tg iter wi)(hg:∀ cl C s0 H0 fp,PG (j9 X scope cl (os++caps.map (·.2)) C s0 H0 fp) tg g)(hi2:∀ cl C s0 H0 fp,PI (j9 X scope cl (os++caps.map (·.2)) C s0 H0 fp) tg2 iter2 wi2)(hg2:∀ cl C s0 H0 fp,PG (j9 X scope cl (os++caps.map (·.2)) C s0 H0 fp) tg2 g2)(hi3:∀ cl C s0 H0 fp,PI (j9 X scope cl (os++caps.map (·.2)) C s0 H0 fp) tg3 iter3 wi3)(hg3:∀ cl C s0 H0 fp,PG (j9 X scope cl (os++caps.map (·.2)) C s0 H0 fp) tg3 g3)(he:∀ cl C s0 H0 fp,PE (j9 X scope cl (os++caps.map (·.2)) C s0 H0 fp) elt te)(hfree:∀ y∈scope.names,y.2=.free->X.env.kindOf y.1=some .cell)(hcap:∀ p∈caps,X.N[p.1]?=some p.2/\X.env.kindOf p.2=some .cell/\((a35 scope X.env).names.lookup p.2=some .cell\/(a35 scope X.env).names.lookup p.2=some .free))(hkind:scope.kind=.function)(hcell:∀ y∈scope.names,y.2≠.cell)(hnames:∀ y∈scope.names,y.2=.local->scope.names.lookup y.1=some .local)(hc:X.calm=true)(hfs:∀ v,a04 iter X.env v=pure v)(hfs2:∀ cl C v,a04 iter2 (a41 scope cl C X.env) v=pure v)(hfs3:∀ cl C v,a04 iter3 (a41 scope cl C X.env) v=pure v) :
 PE X (.ListComp elt [⟨tg,iter,[],0⟩,⟨tg2,iter2,[],0⟩,⟨tg3,iter3,[],0⟩] scope pos) (pe os.length wi g wi2 g2 wi3 g3 te (caps.map (·.1))):=by
 intro c2t s σ H Q I h;rw[b07];refine uj (Q:=Q) (use:=none) (R:=EP X c2t σ Q) hi hg hi2 hg2 hi3 hg3 he hfree hcap hkind hcell hnames hc hfs hfs2 hfs3 (fun D C H5 s6 m6 I6 n6 f6 q6=>?_) I h;refine⟨m6,n6,fun h' hs'=>⟨.ref D,H5,?_,rfl,q6⟩⟩;exact I6.turned (t':=s6.toks) (fun b o hb e=>(hs'.2 b hb).trans e) f6.1 f6.2.1 f6.2.2.2.1 f6.2.2.2.2.1 f6.2.2.2.2.2
theorem wJ{tg elt iter tg2 iter2 tg3 iter3:a13}{os:List Str}{pos:Pos}{scope:Scope}{wi wi2 wi3:TI}{g g2 g3:TG}{te:TE}{caps:List (Nat×Str)}(N:List Str)(sc:Scope)(hi:PI X tg iter wi)(hg:∀ cl C s0 H0 fp,PG (j9 X scope cl (os++caps.map (·.2)) C s0 H0 fp) tg g)(hi2:∀ cl C s0 H0 fp,PI (j9 X scope cl (os++caps.map (·.2)) C s0 H0 fp) tg2 iter2 wi2)(hg2:∀ cl C s0 H0 fp,PG (j9 X scope cl (os++caps.map (·.2)) C s0 H0 fp) tg2 g2)(hi3:∀ cl C s0 H0 fp,PI (j9 X scope cl (os++caps.map (·.2)) C s0 H0 fp) tg3 iter3 wi3)(hg3:∀ cl C s0 H0 fp,PG (j9 X scope cl (os++caps.map (·.2)) C s0 H0 fp) tg3 g3)(he:∀ cl C s0 H0 fp,PE (j9 X scope cl (os++caps.map (·.2)) C s0 H0 fp) elt te)(ok:cG N sc scope caps=true)(hN:X.N=N:=by rfl)(hsc:X.env.scope=sc:=by rfl)(hc:X.calm=true:=by rfl)(hfs:∀ v,a04 iter X.env v=pure v:=by intro _;rfl)(hfs2:∀ cl C v,a04 iter2 (a41 scope cl C X.env) v=pure v:=by intro _ _ _;rfl)(hfs3:∀ cl C v,a04 iter3 (a41 scope cl C X.env) v=pure v:=by intro _ _ _;rfl) :
 PE X (.ListComp elt [⟨tg,iter,[],0⟩,⟨tg2,iter2,[],0⟩,⟨tg3,iter3,[],0⟩] scope pos) (pe os.length wi g wi2 g2 wi3 g3 te (caps.map (·.1))):=by
 subst hN hsc;unfold cG at ok;simp only[b1g,b2o,decide_eq_true_eq,b6r,b5x,decide_eq_false_iff_not] at ok;obtain⟨⟨h1,h2⟩,h3⟩:=ok;refine wK hi hg hi2 hg2 hi3 hg3 he (fun y hy hf=>?_) (fun p hp=>?_) h1 (fun y hy=>(h2 y hy).1.1) (fun y hy hl=>?_) hc hfs hfs2 hfs3
 .rcases (h2 y hy).1.2 with z | z
  .exact absurd hf z
  .exact z
 .obtain⟨⟨a,b⟩,c⟩:=h3 p hp;exact⟨a,b,cA c⟩
 .rcases (h2 y hy).2 with z | z
  .exact absurd hl z
  .exact z
end
end Cv
namespace Cv
open PySem PySem.W PyProof.Rows
noncomputable def a8i:Bool->Keyed->Array Keyed->Nat->Nat->Nat->StateT a14 Sem (Option Nat):=sortPriv% PySem.Builtin.gallop
noncomputable def a8b:Array Keyed->Array Keyed->StateT a14 Sem (Array Keyed):=sortPriv% PySem.Builtin.mergeLo
noncomputable def a8c:Array Keyed->Array Keyed->StateT a14 Sem (Array Keyed):=sortPriv% PySem.Builtin.mergeHi
structure fw(M:a83)(A:a19)(E:Value->a01->Prop)(s:a01)(κ:a68)(It:Keyed->Prop)(lt:Keyed->Keyed->Bool):Prop where
 ask:∀ (x y:Keyed) (st:a14) (Q:Option Bool->a14->Prop),It x->It y->kindOf st=κ->Q (some (lt x y)) st->wpS M A E s (lt' x y) Q st
 asym:∀ x y,It x->It y->lt x y=true->lt y x=false
 trans:∀ x y z,It x->It y->It z->lt y x=false->lt z y=false->lt z x=false
section
variable {M:a83} {A:a19} {E:Value->a01->Prop} {s:a01} {κ:a68} {It:Keyed->Prop} {lt:Keyed->Keyed->Bool}
theorem z5{arr:Array Keyed}{i:Nat}{x:Keyed}{st:a14}{Q:Keyed->a14->Prop}(h:arr[i]?=some x)(q:Q x st):wpS M A E s (elem' arr i) Q st:=by
 rw[elem'_eq,h];exact a06 q
noncomputable def gj(lt:Keyed->Keyed->Bool)(left:Bool)(key x:Keyed):Bool:=if left then lt x key else !(lt key x)
theorem iM(C:fw M A E s κ It lt){left:Bool}{key y:Keyed}{arr:Array Keyed}{i:Nat}{st:a14}{Q:Option Bool->a14->Prop}(hk:kindOf st=κ)(ik:It key)(hx:arr[i]?=some y)(iy:It y)(q:Q (some (gj lt left key y)) st) :
 wpS M A E s (elem' arr i >>= fun x=>if left=true then lt' x key else (lt' key x >>= fun r=>pure (Option.map (fun b=>!b) r))) Q st:=by
 refine a03 (z5 hx ?_);unfold gj at q;cases left with
 | true=>rw[if_pos rfl] at q ⊢;exact C.ask _ _ _ _ iy ik hk q
 | false=>
   rw[if_neg (by simp)] at q ⊢;exact a03 (C.ask _ _ _ _ ik iy hk (a06 q))
theorem cI(C:fw M A E s κ It lt){left:Bool}{key:Keyed}{arr:Array Keyed}{base n hint:Nat}{x:Nat->Keyed}{st:a14}{Q:Option Nat->a14->Prop}(hk:kindOf st=κ)(ik:It key)(hx:∀ i,i<n->arr[base+i]?=some (x i))(ix:∀ i,i<n->It (x i))(hh:hint<n)(mono:∀ i j,i<=j->j<n->gj lt left key (x j)=true->gj lt left key (x i)=true)(hQ:∀ k,k<=n->(∀ i,i<k->gj lt left key (x i)=true)->(∀ i,k<=i->i<n->gj lt left key (x i)=false)->Q (some k) st):wpS M A E s (a8i left key arr base n hint) Q st:=by
 have monoF:∀ i j,i<=j->j<n->gj lt left key (x i)=false->gj lt left key (x j)=false:=fun i j hij hj h=>by
  cases e:gj lt left key (x j) with
  | false=>rfl
  | true=>have:=mono i j hij hj e;rw[h] at this;cases this
 unfold a8i;refine a03 (iM C hk ik (hx hint hh) (ix hint hh) ?_);dsimp only;have fin:∀ (lo hi:Nat) (f:Nat->(Option (Option Nat)×Nat×Nat)->StateT a14 Sem (ForInStep (Option (Option Nat)×Nat×Nat))),lo<=hi->hi<=n->(∀ i,i<lo->gj lt left key (x i)=true)->(∀ i,hi<=i->i<n->gj lt left key (x i)=false)->
  (∀ (i lo hi:Nat) (G:ForInStep (Option (Option Nat)×Nat×Nat)->a14->Prop),lo<hi->hi<=n->(gj lt left key (x (lo+(hi - lo) / 2))=true->G (.yield (none,lo+(hi - lo) / 2+1,hi)) st)->(gj lt left key (x (lo+(hi - lo) / 2))=false->G (.yield (none,lo,lo+(hi - lo) / 2)) st)->wpS M A E s (f i (none,lo,hi)) G st)->
  (∀ (i lo hi:Nat) (G:ForInStep (Option (Option Nat)×Nat×Nat)->a14->Prop),hi<=lo->G (.done (none,lo,hi)) st->wpS M A E s (f i (none,lo,hi)) G st)->
  wpS M A E s (forIn [0:n] (none,lo,hi) f) (fun r st'=>st'=st/\∃ k,r=(none,k,k)/\k<=n/\(∀ i,i<k->gj lt left key (x i)=true)/\(∀ i,k<=i->i<n->gj lt left key (x i)=false)) st:=by
  intro lo hi f h1 h2 hlo hhi hf hd;refine a22 (I:=fun t c st'=>st'=st/\∃ lo hi,c=(none,lo,hi)/\lo<=hi/\hi<=n/\hi - lo<=n - t/\(∀ i,i<lo->gj lt left key (x i)=true)/\(∀ i,hi<=i->i<n->gj lt left key (x i)=false)) ?_ ?_ ⟨rfl,lo,hi,rfl,h1,h2,by lia,hlo,hhi⟩
  .rintro t c st' _ ht ⟨rfl,lo,hi,rfl,h1,h2,h3,hlo,hhi⟩;by_cases e:lo<hi
   .have hm:lo+(hi - lo) / 2<hi:=by lia
    refine hf t lo hi _ e h2 (fun b=>?_) (fun b=>?_)
    .exact⟨rfl,_,hi,rfl,by lia,h2,by lia,fun i hi'=>mono i _ (by lia) (by lia) b,hhi⟩
    .exact⟨rfl,lo,_,rfl,by lia,by lia,by lia,hlo,fun i h1 h2=>monoF _ i h1 h2 b⟩
   .obtain rfl:lo=hi:=by lia
    exact hd t lo lo _ (a9j _) ⟨rfl,lo,rfl,h2,hlo,hhi⟩
  .rintro c st' ⟨rfl,lo,hi,rfl,h1,h2,h3,hlo,hhi⟩;obtain rfl:lo=hi:=by rw[b3b] at h3;lia
   exact⟨rfl,lo,rfl,h2,hlo,hhi⟩
 cases hb:gj lt left key (x hint) with
 | true=>
   rw[if_pos rfl];refine a03 (a27 (a22 (I:=fun t c st'=>st'=st/\∃ la ofs,c=(none,la,ofs)/\hint+la<n/\gj lt left key (x (hint+la))=true/\la<ofs/\t+1<=ofs) (Q:=fun c st'=>st'=st/\∃ la ofs,c=(none,la,ofs)/\hint+la<n/\gj lt left key (x (hint+la))=true/\la<ofs/\(n - hint<=ofs\/(hint+ofs<n/\gj lt left key (x (hint+ofs))=false))) ?_ ?_ ⟨rfl,0,1,rfl,by lia,hb,by lia,by lia⟩) ?_)
   .rintro t c st' _ ht ⟨rfl,la,ofs,rfl,h1,h2,h3,h4⟩;dsimp only;by_cases e:ofs>=n - hint
    .rw[if_pos e];exact a06 ⟨rfl,la,ofs,rfl,h1,h2,h3,.inl e⟩
    .rw[if_neg e];refine a03 (iM C hk ik (hx (hint+ofs) (by lia)) (ix _ (by lia)) ?_);dsimp only;cases b:gj lt left key (x (hint+ofs)) with
     | true=>
       rw[if_neg (by simp)];exact a06 ⟨rfl,ofs,2*ofs+1,rfl,by lia,b,by lia,by lia⟩
     | false=>
       rw[if_pos (by simp)];exact a06 ⟨rfl,la,ofs,rfl,h1,h2,h3,.inr ⟨by lia,b⟩⟩
   .rintro c st' ⟨rfl,la,ofs,rfl,h1,h2,h3,h4⟩;rw[b3b] at h4;exact⟨rfl,la,ofs,rfl,h1,h2,h3,.inl (by lia)⟩
   .rintro c st' ⟨rfl,la,ofs,rfl,h1,h2,h3,h4⟩;dsimp only;refine a03 (a27 (fin (hint+la+1) (hint+min ofs (n - hint)) _ (by lia) (by lia) (fun i hi=>?_) (fun i h5 h6=>?_) ?_ ?_) ?_)
    .exact mono i (hint+la) (by lia) h1 h2
    .rcases h4 with h4 | ⟨h4,h8⟩
     .lia
     .exact monoF (hint+ofs) i (by lia) h6 h8
    .intro i lo hi G e h2 g1 g2;dsimp only;rw[if_neg (by lia)];refine a03 (iM C hk ik (hx _ (by lia)) (ix _ (by lia)) ?_);dsimp only;cases b:gj lt left key (x (lo+(hi - lo) / 2)) with
     | true=>rw[if_pos rfl];exact a06 (g1 b)
     | false=>rw[if_neg (by simp)];exact a06 (g2 b)
    .intro i lo hi G e g;dsimp only;rw[if_pos e];exact a06 g
    .rintro c st'' ⟨rfl,k,rfl,h5,h6,h7⟩;exact a06 (hQ k h5 h6 h7)
 | false=>
   rw[if_neg (by simp)];refine a03 (a27 (a22 (I:=fun t c st'=>st'=st/\∃ la ofs,c=(none,la,ofs)/\la<=hint/\gj lt left key (x (hint - la))=false/\la<ofs/\t+1<=ofs) (Q:=fun c st'=>st'=st/\∃ la ofs,c=(none,la,ofs)/\la<=hint/\gj lt left key (x (hint - la))=false/\la<ofs/\(hint+1<=ofs\/(ofs<=hint/\gj lt left key (x (hint - ofs))=true))) ?_ ?_ ⟨rfl,0,1,rfl,by lia,hb,by lia,by lia⟩) ?_)
   .rintro t c st' _ ht ⟨rfl,la,ofs,rfl,h1,h2,h3,h4⟩;dsimp only;by_cases e:ofs>=hint+1
    .rw[if_pos e];exact a06 ⟨rfl,la,ofs,rfl,h1,h2,h3,.inl e⟩
    .rw[if_neg e];refine a03 (iM C hk ik (hx (hint - ofs) (by lia)) (ix _ (by lia)) ?_);dsimp only;cases b:gj lt left key (x (hint - ofs)) with
     | true=>
       rw[if_pos rfl];exact a06 ⟨rfl,la,ofs,rfl,h1,h2,h3,.inr ⟨by lia,b⟩⟩
     | false=>
       rw[if_neg (by simp)];exact a06 ⟨rfl,ofs,2*ofs+1,rfl,by lia,b,by lia,by lia⟩
   .rintro c st' ⟨rfl,la,ofs,rfl,h1,h2,h3,h4⟩;rw[b3b] at h4;exact⟨rfl,la,ofs,rfl,h1,h2,h3,.inl (by lia)⟩
   .rintro c st' ⟨rfl,la,ofs,rfl,h1,h2,h3,h4⟩;dsimp only;refine a03 (a27 (fin (hint+1 - min ofs (hint+1)) (hint - la) _ (by lia) (by lia) (fun i hi=>?_) (fun i h5 h6=>?_) ?_ ?_) ?_)
    .rcases h4 with h4 | ⟨h4,h8⟩
     .lia
     .exact mono i (hint - ofs) (by lia) (by lia) h8
    .exact monoF (hint - la) i h5 h6 h2
    .intro i lo hi G e h2 g1 g2;dsimp only;rw[if_neg (by lia)];refine a03 (iM C hk ik (hx _ (by lia)) (ix _ (by lia)) ?_);dsimp only;cases b:gj lt left key (x (lo+(hi - lo) / 2)) with
     | true=>rw[if_pos rfl];exact a06 (g1 b)
     | false=>rw[if_neg (by simp)];exact a06 (g2 b)
    .intro i lo hi G e g;dsimp only;rw[if_pos e];exact a06 g
    .rintro c st'' ⟨rfl,k,rfl,h5,h6,h7⟩;exact a06 (hQ k h5 h6 h7)
end
structure aV(st st':a14):Prop where
 kind:kindOf st'=kindOf st
 arr:a10 st'=a10 st
 pend:a09 st'=a09 st
 fail:a47 st'=a47 st
theorem aV.refl(st:a14):aV st st:=⟨rfl,rfl,rfl,rfl⟩
theorem aV.trans{a b c:a14}(h:aV a b)(k:aV b c):aV a c:=⟨k.kind.trans h.kind,k.arr.trans h.arr,k.pend.trans h.pend,k.fail.trans h.fail⟩
structure MJ(lt:Keyed->Keyed->Bool)(as bs out:List Keyed)(i j:Nat):Prop where
 hi:i<=as.length
 hj:j<=bs.length
 perm:(out++(as.drop i++bs.drop j)).Perm (as++bs)
 srt:out.Pairwise fun x y=>lt y x=false
 low:∀ x∈out,∀ y,y∈as.drop i\/y∈bs.drop j->lt y x=false
section
variable {It:Keyed->Prop} {lt:Keyed->Keyed->Bool} {as bs out:List Keyed} {i j:Nat}
structure qr(It:Keyed->Prop)(lt:Keyed->Keyed->Bool)(as bs:List Keyed):Prop where
 ia:∀ x∈as,It x
 ib:∀ x∈bs,It x
 sa:as.Pairwise fun x y=>lt y x=false
 sb:bs.Pairwise fun x y=>lt y x=false
theorem ju{as:List Keyed}(sa:as.Pairwise fun x y=>lt y x=false){i k:Nat}(h:i<k){x:Keyed}(hx:as[i]?=some x):∀ y∈as.drop k,lt y x=false:=fun y hy=>by
 obtain⟨t,ht,e⟩:=a9o hy;rw[b0e] at ht;have hi:=(a9c.mp hx)
 obtain⟨hi1,hi2⟩:=hi;rw[b5v] at e;have:=b1r.mp sa i (k+t) hi1 (by lia) (by lia);rw[hi2,e] at this;exact this
theorem cO{as:List Keyed}{i:Nat}{x:Keyed}(hx:as[i]?=some x):as.drop i=x::as.drop (i+1):=by
 obtain⟨h,rfl⟩:=a9c.mp hx;exact b3k h
theorem MJ.len(h:MJ lt as bs out i j):out.length=i+j:=by
 have:=h.perm.length_eq;have:=h.hi;have:=h.hj;simp only[a9b,b0e] at *;lia
theorem MJ.takeA(T:qr It lt as bs)(h:MJ lt as bs out i j){x:Keyed}(hx:as[i]?=some x)(hb:∀ y∈bs.drop j,lt y x=false):MJ lt as bs (out++[x]) (i+1) j:=by
 have e:=cO hx;refine⟨(a9c.mp hx).1,h.hj,?_,?_,?_⟩
 .have:=h.perm;rw[e] at this;simpa using this
 .refine b0w.mpr ⟨h.srt,b3x _ _,fun u hu v hv=>?_⟩;rw[a9q.mp hv];exact h.low u hu x (.inl (by rw[e];simp))
 .intro u hu y hy;rcases a9k.mp hu with hu | hu
  .refine h.low u hu y (hy.imp (fun z=>?_) id);rw[e];exact b0f _ z
  .rw[a9q.mp hu];rcases hy with hy | hy
   .exact ju T.sa (b3t i) hx y hy
   .exact hb y hy
theorem MJ.takeB(T:qr It lt as bs)(h:MJ lt as bs out i j){x:Keyed}(hx:bs[j]?=some x)(ha:∀ y∈as.drop i,lt y x=false):MJ lt as bs (out++[x]) i (j+1):=by
 have e:=cO hx;refine⟨h.hi,(a9c.mp hx).1,?_,?_,?_⟩
 .have:=h.perm;rw[e] at this;refine b3l.trans ?_ this;rw[a9z];refine b3l.append_left out ?_;show (x::(as.drop i++bs.drop (j+1))).Perm _;exact b8a.symm
 .refine b0w.mpr ⟨h.srt,b3x _ _,fun u hu v hv=>?_⟩;rw[a9q.mp hv];exact h.low u hu x (.inr (by rw[e];simp))
 .intro u hu y hy;rcases a9k.mp hu with hu | hu
  .refine h.low u hu y (hy.imp id (fun z=>?_));rw[e];exact b0f _ z
  .rw[a9q.mp hu];rcases hy with hy | hy
   .exact ha y hy
   .exact ju T.sb (b3t j) hx y hy
theorem MJ.takeAs(T:qr It lt as bs):∀ (k:Nat) {out:List Keyed} {i:Nat},MJ lt as bs out i j->i+k<=as.length->(∀ t x,t<k->as[i+t]?=some x->∀ y∈bs.drop j,lt y x=false)->MJ lt as bs (out++(as.drop i).take k) (i+k) j
 | 0,out,i,h,_,_=>by simpa using h
 | k+1,out,i,h,hk,hb=>by
   have hx:as[i]?=some (as[i]'(by omega (config:={}))):=a8y _;have h1:=h.takeA T hx (hb 0 _ (by lia) hx);have h2:=MJ.takeAs T k h1 (by lia) fun t x ht e=>hb (t+1) x (by lia) (by rw[<- e];congr 1;lia);rw[cO hx,b6u];rw[show i+(k+1)=i+1+k by lia];simpa using h2
theorem MJ.takeBs(T:qr It lt as bs):∀ (k:Nat) {out:List Keyed} {j:Nat},MJ lt as bs out i j->j+k<=bs.length->(∀ t x,t<k->bs[j+t]?=some x->∀ y∈as.drop i,lt y x=false)->MJ lt as bs (out++(bs.drop j).take k) i (j+k)
 | 0,out,j,h,_,_=>by simpa using h
 | k+1,out,j,h,hk,hb=>by
   have hx:bs[j]?=some (bs[j]'(by omega (config:={}))):=a8y _;have h1:=h.takeB T hx (hb 0 _ (by lia) hx);have h2:=MJ.takeBs T k h1 (by lia) fun t x ht e=>hb (t+1) x (by lia) (by rw[<- e];congr 1;lia);rw[cO hx,b6u];rw[show j+(k+1)=j+1+k by lia];simpa using h2
noncomputable def sC(lt:Keyed->Keyed->Bool)(as bs r:List Keyed):Prop:=r.Perm (as++bs)/\r.Pairwise fun x y=>lt y x=false
theorem MJ.doneA(T:qr It lt as bs)(h:MJ lt as bs out i j)(hj:bs.length<=j\/as.length<=i):sC lt as bs (out++as.drop i++bs.drop j):=by
 refine⟨by rw[a9z];exact h.perm,?_⟩;rcases hj with e | e
 .rw[b3c e,b2u];exact b0w.mpr ⟨h.srt,T.sa.sublist (b4g _ _),fun x hx y hy=>h.low x hx y (.inl hy)⟩
 .rw[b3c e,b2u];exact b0w.mpr ⟨h.srt,T.sb.sublist (b4g _ _),fun x hx y hy=>h.low x hx y (.inr hy)⟩
theorem MJ.doneL(T:qr It lt as bs)(h:MJ lt as bs out i j)(hl:∀ x∈as.drop i,∀ y∈bs,lt x y=false):sC lt as bs (out++bs.drop j++as.drop i):=by
 refine⟨?_,?_⟩
 .rw[a9z];exact (b3l.append_left out b6b).trans h.perm
 .rw[a9z];refine b0w.mpr ⟨h.srt,b0w.mpr ⟨T.sb.sublist (b4g _ _),T.sa.sublist (b4g _ _),fun x hx y hy=>hl y hy x (b1l hx)⟩,fun x hx y hy=>?_⟩;rcases a9k.mp hy with hy | hy
  .exact h.low x hx y (.inr hy)
  .exact h.low x hx y (.inl hy)
end
section
variable {M:a83} {A:a19} {E:Value->a01->Prop} {s:a01} {κ:a68} {It:Keyed->Prop} {lt:Keyed->Keyed->Bool}
theorem cR{α:Type}{c:Prop}[Decidable c]{m1 m2:StateT a14 Sem α}{st:a14}{Q:α->a14->Prop}(h1:wpS M A E s m1 Q st)(h2:wpS M A E s m2 Q st):wpS M A E s (if c then m1 else m2) Q st:=by
 by_cases h:c
 .rw[if_pos h];exact h1
 .rw[if_neg h];exact h2
theorem qB{α:Type}{c:Nat->Prop}{d:∀ g,Decidable (c g)}{T m1:Nat->StateT a14 Sem α}{st:a14}{Q:α->a14->Prop}(x:Nat->Nat)(h:∀ g,wpS M A E s (T g) Q st)(e:∀ g,m1 g=T (x g))(g:Nat):wpS M A E s (@ite _ (c g) (d g) (m1 g) (T g)) Q st:=by
 rw[e];exact cR (h _) (h g)
theorem iL{α:Type}{c:Prop}{_:Decidable c}{T m1:Array Keyed->Nat->StateT a14 Sem α}{st:a14}{Q:α->a14->Prop}{o:Array Keyed}{i:Nat}(R:Array Keyed->Nat->Prop)(h1:(∀ o i,R o i->wpS M A E s (T o i) Q st)->c->wpS M A E s (m1 o i) Q st)(h2:¬ c->R o i)(h:∀ o i,R o i->wpS M A E s (T o i) Q st):∀ i',i=i'->∀ o',o=o'->wpS M A E s (if c then m1 o' i' else T o' i') Q st:=by
 rintro _ rfl _ rfl;by_cases hc:c
 .rw[if_pos hc];exact h1 h hc
 .rw[if_neg hc];exact h _ _ (h2 hc)
theorem aD{α:Type}{c:Prop}{d:Decidable c}{m1 m2:StateT a14 Sem α}{st:a14}{Q:α->a14->Prop}(hc:c)(h:wpS M A E s m1 Q st):wpS M A E s (@ite _ c d m1 m2) Q st:=by rw[if_pos hc];exact h
theorem aE{α:Type}{c:Prop}{d:Decidable c}{m1 m2:StateT a14 Sem α}{st:a14}{Q:α->a14->Prop}(hc:¬ c)(h:wpS M A E s m2 Q st):wpS M A E s (@ite _ c d m1 m2) Q st:=by rw[if_neg hc];exact h
theorem iK{g:Nat}{st:a14}{Q:PUnit->a14->Prop}(q:∀ st',aV st st'->Q ⟨⟩ st'):wpS M A E s ((sortPriv% PySem.Builtin.setMinGallop) g) Q st:=
 a38 (q _ ⟨rfl,rfl,rfl,rfl⟩)
theorem aT{a:Array Keyed}{i:Nat}(h:i<a.size):a[i]?=some a[i]/\a.toList[i]?=some a[i]:=⟨b1k _,by rw[b1w];exact b1k _⟩
theorem bO{out a b:Array Keyed}{i j:Nat}:(out++a.extract i++b.extract j).toList=out.toList++a.toList.drop i++b.toList.drop j:=by
 simp only[b5d,b2t,b2a];rw[b1z (by simp),b1z (by simp)]
theorem rT{out a:Array Keyed}{i k:Nat}:(out++a.extract i (i+k)).toList=out.toList++(a.toList.drop i).take k:=by
 simp
theorem kg(C:fw M A E s κ It lt){left:Bool}{key x:Keyed}(ik:It key)(ix:It x)(h:gj lt left key x=true):lt key x=false:=by
 unfold gj at h;cases left with
 | true=>exact C.asym _ _ ix ik (by simpa using h)
 | false=>simpa using h
theorem kh(C:fw M A E s κ It lt){left:Bool}{key x:Keyed}(ik:It key)(ix:It x)(h:gj lt left key x=false):lt x key=false:=by
 unfold gj at h;cases left with
 | true=>simpa using h
 | false=>exact C.asym _ _ ik ix (by simpa using h)
theorem eT(C:fw M A E s κ It lt){left:Bool}{key:Keyed}{x:Nat->Keyed}{n:Nat}(ik:It key)(ix:∀ i,i<n->It (x i))(srt:∀ p q,p<=q->q<n->lt (x q) (x p)=false):∀ p q,p<=q->q<n->gj lt left key (x q)=true->gj lt left key (x p)=true:=by
 intro p q hpq hq h;have s1:=srt p q hpq hq;unfold gj at h ⊢;cases left with
 | true=>
   simp only[if_true] at h ⊢;cases e:lt (x p) key with
   | true=>rfl
   | false=>
     have:=C.trans key (x p) (x q) ik (ix p (by lia)) (ix q hq) e s1;rw[h] at this;cases this
 | false=>
   have h':lt key (x q)=false:=by simpa using h
   have:=C.trans (x p) (x q) key (ix p (by lia)) (ix q hq) ik s1 h';simpa using this
noncomputable def xT(a:Array Keyed)(d:Keyed)(i p:Nat):Keyed:=(a[i+p]?).getD d
theorem gZ{a:Array Keyed}{d:Keyed}{i p:Nat}(h:i+p<a.size):a[i+p]?=some (xT a d i p):=by unfold xT;rw[b1k h];rfl
theorem q5{a:Array Keyed}{d:Keyed}{i p:Nat}(h:i+p<a.size):xT a d i p=a[i+p]:=by unfold xT;rw[b1k h];rfl
theorem gY(hr:∀ x:Keyed,It x->lt x x=false){a:Array Keyed}(ia:∀ x∈a.toList,It x)(sa:a.toList.Pairwise fun x y=>lt y x=false)(d:Keyed)(i:Nat):∀ p q,p<=q->i+q<a.size->lt (xT a d i q) (xT a d i p)=false:=by
 intro p q hpq hq;rw[q5 hq,q5 (by lia)];by_cases e:p=q
 .subst e;exact hr _ (ia _ (by simp))
 .have:=b1r.mp sa (i+p) (i+q) (by simpa using (by lia:i+p<a.size)) (by simpa using hq) (by lia);simpa using this
theorem fw.irr(C:fw M A E s κ It lt):∀ x,It x->lt x x=false:=fun x ix=>by
 cases e:lt x x with
 | false=>rfl
 | true=>have:=C.asym x x ix ix e;rw[e] at this;exact this
structure MI(lt:Keyed->Keyed->Bool)(a b out:Array Keyed)(i j:Nat):Prop where
 mj:MJ lt a.toList b.toList out.toList i j
 hi:i+1<a.size
 hj:j<b.size
theorem MJ.push_a{a b out:Array Keyed}{i j:Nat}{x:Keyed}(h:MJ lt a.toList b.toList (out.toList++[x]) i j):MJ lt a.toList b.toList (out.push x).toList i j:=by rw[b4h];exact h
theorem M6(C:fw M A E s κ It lt){a b:Array Keyed}{st:a14}{Q:Array Keyed->a14->Prop}(T:qr It lt a.toList b.toList)(na:1<=a.size)(nb:1<=b.size)(hk:kindOf st=κ)(h0:∀ x,b[0]?=some x->∀ y∈a.toList,lt y x=false)(hl:∀ x,a[a.size - 1]?=some x->∀ y∈b.toList,lt x y=false)(hQ:∀ r st',aV st st'->sC lt a.toList b.toList r.toList->Q r st'):wpS M A E s (a8b a b) Q st:=by
 have la:a.toList.length=a.size:=a9d;have lb:b.toList.length=b.size:=a9d;have ita:∀ i (h:i<a.size),It a[i]:=fun i h=>T.ia _ (by simp);have itb:∀ i (h:i<b.size),It b[i]:=fun i h=>T.ib _ (by simp);obtain⟨e0,e0'⟩:=aT (show 0<b.size by lia);have mj0:MJ lt a.toList b.toList [b[0]] 0 1:=by
  have:MJ lt a.toList b.toList [] 0 0:=⟨b1m _,b1m _,by simp,.nil,fun x hx=>by simp at hx⟩
  exact this.takeB T e0' fun y hy=>h0 _ e0 y (by simpa using hy)
 have last:∀ i,a.size<=i+1->∀ x∈a.toList.drop i,∀ y∈b.toList,lt x y=false:=fun i hi x hx y hy=>by
  obtain⟨t,ht,e⟩:=a9o hx;rw[b0e,la] at ht;rw[b5v] at e;refine hl x ?_ y hy;rw[<- e,b4v,b1k (by lia)];congr 2;lia
 have upA:∀ i (h:i<a.size) y,It y->lt a[i] y=false->∀ z∈a.toList.drop i,lt z y=false:=fun i h y iy hy z hz=>by
  rw[cO (aT h).2] at hz;rcases a9g.mp hz with rfl | hz
  .exact hy
  .exact C.trans y a[i] z iy (ita i h) (T.ia z (b1l hz)) hy (ju T.sa (b3t i) (aT h).2 z hz)
 have upB:∀ i (h:i<b.size) y,It y->lt b[i] y=false->∀ z∈b.toList.drop i,lt z y=false:=fun i h y iy hy z hz=>by
  rw[cO (aT h).2] at hz;rcases a9g.mp hz with rfl | hz
  .exact hy
  .exact C.trans y b[i] z iy (itb i h) (T.ib z (b1l hz)) hy (ju T.sb (b3t i) (aT h).2 z hz)
 unfold a8b;refine a03 (a70 (a30 ⟨rfl,?_⟩));refine a03 (z5 e0 ?_);by_cases c1:1=b.size
 .refine aD (by simpa using c1) ?_;refine a06 (hQ _ _ (aV.refl _) ?_);have:=mj0.doneA T (.inl (by lia));dsimp only;rw[bO];simpa using this
 .refine aE (by simpa using c1) ?_;by_cases c2:0+1=a.size
  .refine aD (by simpa using c2) ?_;refine a06 (hQ _ _ (aV.refl _) ?_);have:=mj0.doneL T (last 0 (by lia));dsimp only;rw[bO];simpa using this
  .refine aE (by simpa using c2) ?_;refine a03 (a46 ?_);refine a03 (a27 (a22 (I:=fun t c st'=>aV st st'/\∃ out i j g,c=(none,out,i,j,g)/\MI lt a b out i j/\t+1<=out.size) (Q:=fun c st'=>aV st st'/\∃ r o,c=(some r,o)/\sC lt a.toList b.toList r.toList) ?_ ?_ ⟨aV.refl _,_,_,_,_,rfl,⟨by simpa using mj0,by lia,by lia⟩,by simp⟩) ?_)
   .rintro t c st1 _ ht ⟨s1,out,i,j,g,rfl,hM,hs⟩;refine a03 (a27 (a22 (I:=fun t' c st'=>aV st st'/\∃ out i j ac bc,c=(none,out,i,j,ac,bc)/\MI lt a b out i j/\t+1+t'<=out.size) (Q:=fun c st'=>aV st st'/\((∃ r o,c=(some r,o)/\sC lt a.toList b.toList r.toList)\/∃ out i j ac bc,c=(none,out,i,j,ac,bc)/\MI lt a b out i j/\t+2<=out.size)) ?_ ?_ ⟨s1,out,i,j,0,0,rfl,hM,hs⟩) ?_)
    .rintro t' c st2 _ ht' ⟨s2,out,i,j,ac,bc,rfl,hM,hs⟩;obtain⟨mj,hi,hj⟩:=hM;obtain⟨ea,ea'⟩:=aT (show i<a.size by lia);obtain⟨eb,eb'⟩:=aT hj;refine a03 (z5 eb (a03 (z5 ea (a03 (C.ask _ _ _ _ (itb j hj) (ita i (by lia)) (s2.kind.trans hk) ?_)))));cases hb:lt b[j] a[i] with
     | true=>
       refine aD rfl ?_;refine a03 (z5 eb ?_);have m2:=(mj.takeB T eb' (upA i (by lia) _ (itb j hj) (C.asym _ _ (itb j hj) (ita i (by lia)) hb))).push_a;by_cases c3:j+1=b.size
       .refine aD (by simpa using c3) ?_;refine a06 ⟨s2,.inl ⟨_,_,rfl,?_⟩⟩;dsimp only;rw[bO];exact m2.doneA T (.inl (by lia))
       .refine aE (by simpa using c3) ?_;refine cR ?_ ?_
        .exact a06 ⟨s2,.inr ⟨_,_,_,_,_,rfl,⟨m2,hi,by (try dsimp only);lia⟩,by dsimp only;rw[b2x];lia⟩⟩
        .exact a06 ⟨s2,_,_,_,_,_,rfl,⟨m2,hi,by (try dsimp only);lia⟩,by dsimp only;rw[b2x];lia⟩
     | false=>
       refine aE (by simp) ?_;refine a03 (z5 ea ?_);have m2:=(mj.takeA T ea' (upB j hj _ (ita i (by lia)) hb)).push_a;by_cases c3:i+1+1=a.size
       .refine aD (by simpa using c3) ?_;refine a06 ⟨s2,.inl ⟨_,_,rfl,?_⟩⟩;dsimp only;rw[bO];exact m2.doneL T (last (i+1) (by lia))
       .refine aE (by simpa using c3) ?_;refine cR ?_ ?_
        .exact a06 ⟨s2,.inr ⟨_,_,_,_,_,rfl,⟨m2,by (try dsimp only);lia,hj⟩,by dsimp only;rw[b2x];lia⟩⟩
        .exact a06 ⟨s2,_,_,_,_,_,rfl,⟨m2,by (try dsimp only);lia,hj⟩,by dsimp only;rw[b2x];lia⟩
    .rintro c st2 ⟨s2,out,i,j,ac,bc,rfl,hM,hs⟩;rw[b3b] at hs;exact⟨s2,.inr ⟨out,i,j,ac,bc,rfl,hM,by lia⟩⟩
    .rintro c st2 ⟨s2,⟨r,o,rfl,hr⟩ | ⟨out,i,j,ac,bc,rfl,hM,hs⟩⟩
     .dsimp only;exact a06 ⟨s2,r,_,rfl,hr⟩
     .dsimp only;refine a03 (a70 (a30 ⟨rfl,?_⟩));refine a03 (a27 (a22 (I:=fun t' c st'=>aV st st'/\∃ out i j g ac bc,c=(none,out,i,j,g,ac,bc)/\MI lt a b out i j/\t+2<=out.size) (Q:=fun c st'=>aV st st'/\((∃ r o,c=(some r,o)/\sC lt a.toList b.toList r.toList)\/∃ out i j g ac bc,c=(none,out,i,j,g,ac,bc)/\MI lt a b out i j/\t+2<=out.size)) ?_ ?_ ⟨s2,out,i,j,_,ac,bc,rfl,hM,hs⟩) ?_)
      .rintro t' c st3 _ ht' ⟨s3,out,i,j,g,ac,bc,rfl,hM,hs⟩;obtain⟨mj,hi,hj⟩:=hM;obtain⟨eb,eb'⟩:=aT hj;have szo:=mj.len;rw[a9d] at szo;revert g;refine qB (fun g=>g - 1) (fun g=>?_) (fun _=>rfl);refine a03 (iK fun dQ s34=>?_);have s4:=s3.trans s34;refine a03 (z5 eb ?_);refine a03 (cI C (key:=b[j]) (arr:=a) (base:=i) (n:=a.size - i) (hint:=0) (x:=xT a b[j] i) (s4.kind.trans hk) (itb j hj) (fun p hp=>gZ (by lia)) (fun p hp=>by rw[q5 (by lia)];exact ita _ (by lia)) (by lia) (eT C (itb j hj) (fun p hp=>by rw[q5 (by lia)];exact ita _ (by lia)) fun p q h1 h2=>gY C.irr T.ia T.sa _ _ p q h1 (by lia)) fun k hk0 hk1 hk2=>?_);have low:∀ h:i+k<a.size,lt a[i+k] b[j]=false:=fun h=>by
        have h6:=kh C (itb j hj) (by rw[q5 (by lia)];exact ita _ (by lia)) (hk2 k (a9j _) (by lia));rw[q5 (by lia)] at h6;exact h6
       generalize eo:out=o0;revert o0;generalize ei:i=i0;revert i0;refine iL (fun o p=>p+1<a.size/\MJ lt a.toList b.toList o.toList p j/\(∀ h:p<a.size,lt a[p] b[j]=false)/\i<=p) (fun R k3=>?_) (fun k3=>⟨hi,mj,fun h=>by have:=low;rw[show k=0 by lia] at this;exact this h,a9j _⟩) ?_
       .have m2:=mj.takeAs T k (by lia) (fun u x hu ex y hy=>upB j hj x (T.ia x (a9f ex)) (by
         have h1:=kg C (itb j hj) (by rw[q5 (by lia)];exact ita _ (by lia)) (hk1 u hu);rw[q5 (show i+u<a.size by lia)] at h1;rw[a8y (show i+u<a.toList.length by lia)] at ex;rw[<- a9t.inj ex,b4v];exact h1) y hy)
        rw[<- rT] at m2;by_cases c4:i+k+1=a.size
        .refine aD (by simpa using c4) ?_;refine a06 ⟨s4,.inl ⟨_,_,rfl,?_⟩⟩;dsimp only;rw[bO];exact m2.doneL T (last _ (by lia))
        refine aE (by simpa using c4) ?_;by_cases c5:i+k=a.size
        .refine aD (by simpa using c5) ?_;refine a06 ⟨s4,.inl ⟨_,_,rfl,?_⟩⟩;dsimp only;rw[bO];exact m2.doneA T (.inr (by lia))
        refine aE (by simpa using c5) ?_;exact R _ _ ⟨by lia,m2,low,by lia⟩
       clear hk0 hk1 hk2 low mj;rintro o p ⟨hp,m2,low,hip⟩;have hI:p<a.size:=by lia
       refine a03 (z5 eb ?_);have m3:=(m2.takeB T eb' (upA _ hI _ (itb j hj) (low hI))).push_a;by_cases c8:j+1=b.size
       .refine aD (by simpa using c8) ?_;refine a06 ⟨s4,.inl ⟨_,_,rfl,?_⟩⟩;dsimp only;rw[bO];exact m3.doneA T (.inl (by lia))
       refine aE (by simpa using c8) ?_;refine a03 (z5 (aT hI).1 ?_);refine a03 (cI C (key:=a[p]) (arr:=b) (base:=j+1) (n:=b.size - (j+1)) (hint:=0) (x:=xT b b[j] (j+1)) (s4.kind.trans hk) (ita _ hI) (fun p hp=>gZ (by lia)) (fun p hp=>by rw[q5 (by lia)];exact itb _ (by lia)) (by lia) (eT C (ita _ hI) (fun p hp=>by rw[q5 (by lia)];exact itb _ (by lia)) fun p q h1 h2=>gY C.irr T.ib T.sb _ _ p q h1 (by lia)) fun k2 hk4 hk5 hk6=>?_);have low2:∀ h:j+1+k2<b.size,lt b[j+1+k2] a[p]=false:=fun h=>by
        have h8:=kh C (ita _ hI) (by rw[q5 (by lia)];exact itb _ (by lia)) (hk6 _ (a9j _) (by lia));rw[q5 (by lia)] at h8;exact h8
       generalize eo:o.push b[j]=o2 at m3 ⊢;have hJ1:j+1<b.size:=by lia
       generalize ej:j+1=j2 at *;clear eo;generalize eo:o2=o0;revert o0;generalize ei:j2=i0;revert i0;refine iL (fun o q=>q<b.size/\MJ lt a.toList b.toList o.toList p q/\(∀ h:q<b.size,lt b[q] a[p]=false)/\j2<=q) (fun R k4=>?_) (fun k4=>⟨hJ1,m3,fun h=>by have:=low2;rw[show k2=0 by lia] at this;exact this h,a9j _⟩) ?_
       .have m4:=m3.takeBs T k2 (by lia) (fun u x hu ex y hy=>upA _ hI x (T.ib x (a9f ex)) (by
         have h1:=kg C (ita _ hI) (by rw[q5 (by lia)];exact itb _ (by lia)) (hk5 u hu);rw[q5 (show j2+u<b.size by lia)] at h1;rw[a8y (show j2+u<b.toList.length by lia)] at ex;rw[<- a9t.inj ex,b4v];exact h1) y hy)
        rw[<- rT] at m4;by_cases c6:j2+k2=b.size
        .refine aD (by simpa using c6) ?_;refine a06 ⟨s4,.inl ⟨_,_,rfl,?_⟩⟩;dsimp only;rw[bO];exact m4.doneA T (.inl (by lia))
        refine aE (by simpa using c6) ?_;exact R _ _ ⟨by lia,m4,low2,by lia⟩
       clear hk4 hk5 hk6 low2 m3 m2 low;rintro o q ⟨hJ,m4,low2,hjq⟩;refine a03 (z5 (aT hI).1 ?_);have m5:=(m4.takeA T (aT hI).2 (upB _ hJ _ (ita _ hI) (low2 hJ))).push_a;by_cases c7:p+1+1=a.size
       .refine aD (by simpa using c7) ?_;refine a06 ⟨s4,.inl ⟨_,_,rfl,?_⟩⟩;dsimp only;rw[bO];exact m5.doneL T (last _ (by lia))
       refine aE (by simpa using c7) ?_;have sz:=m5.len;rw[a9d] at sz;refine cR ?_ ?_
       .exact a06 ⟨s4,.inr ⟨_,_,_,_,_,_,rfl,⟨m5,by (try dsimp only);lia,hJ⟩,by (try dsimp only);lia⟩⟩
       .exact a06 ⟨s4,_,_,_,_,_,_,rfl,⟨m5,by (try dsimp only);lia,hJ⟩,by (try dsimp only);lia⟩
      .rintro c st3 ⟨s3,out,i,j,g,ac,bc,rfl,hM,hs⟩;exact⟨s3,.inr ⟨out,i,j,g,ac,bc,rfl,hM,hs⟩⟩
      .rintro c st3 ⟨s3,⟨r,o,rfl,hr⟩ | ⟨out,i,j,g,ac,bc,rfl,hM,hs⟩⟩
       .dsimp only;exact a06 ⟨s3,r,_,rfl,hr⟩
       .dsimp only;refine a03 (iK fun dQ s4=>?_);exact a06 ⟨s3.trans s4,_,_,_,_,rfl,hM,by (try dsimp only);lia⟩
   .rintro c st1 ⟨s1,out,i,j,g,rfl,hM,hs⟩;rw[b3b] at hs;have:=hM.mj.len;have:=hM.hi;have:=hM.hj;rw[a9d] at *;lia
   .rintro c st1 ⟨s1,r,o,rfl,hr⟩;exact a06 (hQ r st1 s1 hr)
noncomputable def opp(lt:Keyed->Keyed->Bool)(x y:Keyed):Bool:=lt y x
theorem qr.opp{as bs:List Keyed}(T:qr It lt as bs):qr It (opp lt) as.reverse bs.reverse:=
 ⟨fun x hx=>T.ia x (b2g.mp hx),fun x hx=>T.ib x (b2g.mp hx),b3h.mpr T.sa,b3h.mpr T.sb⟩
theorem fO{l:List Keyed}{n:Nat}(h:n<=l.length):l.reverse.drop (l.length - n)=(l.take n).reverse:=by
 rw[List.drop_reverse];congr 1;congr 1;lia
theorem O3{l:List Keyed}{n:Nat}(h:n<l.length):l.reverse[l.length - (n+1)]?=l[n]?:=by
 rw[b2p (by lia)];congr 1;lia
structure MH(lt:Keyed->Keyed->Bool)(a b out:Array Keyed)(na nb:Nat):Prop where
 mj:MJ (opp lt) a.toList.reverse b.toList.reverse out.toList (a.size - na) (b.size - nb)
 ha:na<=a.size
 hb:nb<=b.size
theorem MH.len{a b out:Array Keyed}{na nb:Nat}(h:MH lt a b out na nb):out.size+na+nb=a.size+b.size:=by
 have:=h.mj.len;have:=h.ha;have:=h.hb;rw[a9d] at *;lia
theorem MH.pa{a b out:Array Keyed}{na nb:Nat}(T:qr It lt a.toList b.toList)(h:MH lt a b out (na+1) nb)(hn:na<a.size)(hy:∀ y∈b.toList.take nb,lt a[na] y=false):MH lt a b (out.push a[na]) na nb:=by
 have la:a.toList.length=a.size:=a9d;have lb:b.toList.length=b.size:=a9d;refine⟨?_,by lia,h.hb⟩;have:=h.mj.takeA T.opp (x:=a[na]) (by rw[<- la,O3 (by lia),(aT hn).2]) (fun y hy'=>by
  rw[<- lb,fO (by rw[lb];exact h.hb)] at hy';exact hy y (b2g.mp hy'))
 rw[show a.size - (na+1)+1=a.size - na by lia] at this;rw[b4h];exact this
theorem MH.pb{a b out:Array Keyed}{na nb:Nat}(T:qr It lt a.toList b.toList)(h:MH lt a b out na (nb+1))(hn:nb<b.size)(hy:∀ y∈a.toList.take na,lt b[nb] y=false):MH lt a b (out.push b[nb]) na nb:=by
 have la:a.toList.length=a.size:=a9d;have lb:b.toList.length=b.size:=a9d;refine⟨?_,h.ha,by lia⟩;have:=h.mj.takeB T.opp (x:=b[nb]) (by rw[<- lb,O3 (by lia),(aT hn).2]) (fun y hy'=>by
  rw[<- la,fO (by rw[la];exact h.ha)] at hy';exact hy y (b2g.mp hy'))
 rw[show b.size - (nb+1)+1=b.size - nb by lia] at this;rw[b4h];exact this
theorem a7h{l:List Keyed}{m n:Nat}(h:n<=l.length)(hm:m<=n):(l.reverse.drop (l.length - n)).take (n - m)=((l.take n).drop m).reverse:=by
 rw[fO h,List.take_reverse];congr 1;rw[b0d];congr 1;lia
theorem MH.pas{a b out:Array Keyed}{na nb m:Nat}(T:qr It lt a.toList b.toList)(h:MH lt a b out na nb)(hm:m<=na)(hy:∀ t (ht:t<a.size),m<=t->t<na->∀ y∈b.toList.take nb,lt a[t] y=false):MH lt a b (out++(a.extract m na).reverse) m nb:=by
 have la:a.toList.length=a.size:=a9d;have lb:b.toList.length=b.size:=a9d;have ha:=h.ha;refine⟨?_,by lia,h.hb⟩;have:=h.mj.takeAs T.opp (na - m) (by rw[b0x,la];lia) (fun t x ht ex y hy'=>by
  rw[<- lb,fO (by rw[lb];exact h.hb)] at hy';have e2:a.size - na+t=a.toList.length - ((na - 1 - t)+1):=by rw[la];lia
  rw[e2,O3 (by rw[la];lia),(aT (show na - 1 - t<a.size by lia)).2] at ex;rw[<- a9t.inj ex];exact hy _ (by lia) (by lia) (by lia) y (b2g.mp hy'))
 rw[show a.size - na+(na - m)=a.size - m by lia] at this;have e3:=a7h (l:=a.toList) (m:=m) (n:=na) (by rw[la];exact ha) hm;rw[la] at e3;rw[e3] at this;have e4:(out++(a.extract m na).reverse).toList=out.toList++((a.toList.take na).drop m).reverse:=by
  simp only[b5d,b6j,b2t,b2a];rw[b9l]
 rw[e4];exact this
theorem MH.pbs{a b out:Array Keyed}{na nb m:Nat}(T:qr It lt a.toList b.toList)(h:MH lt a b out na nb)(hm:m<=nb)(hy:∀ t (ht:t<b.size),m<=t->t<nb->∀ y∈a.toList.take na,lt b[t] y=false):MH lt a b (out++(b.extract m nb).reverse) na m:=by
 have la:a.toList.length=a.size:=a9d;have lb:b.toList.length=b.size:=a9d;have hb:=h.hb;refine⟨?_,h.ha,by lia⟩;have:=h.mj.takeBs T.opp (nb - m) (by rw[b0x,lb];lia) (fun t x ht ex y hy'=>by
  rw[<- la,fO (by rw[la];exact h.ha)] at hy';have e2:b.size - nb+t=b.toList.length - ((nb - 1 - t)+1):=by rw[lb];lia
  rw[e2,O3 (by rw[lb];lia),(aT (show nb - 1 - t<b.size by lia)).2] at ex;rw[<- a9t.inj ex];exact hy _ (by lia) (by lia) (by lia) y (b2g.mp hy'))
 rw[show b.size - nb+(nb - m)=b.size - m by lia] at this;have e3:=a7h (l:=b.toList) (m:=m) (n:=nb) (by rw[lb];exact hb) hm;rw[lb] at e3;rw[e3] at this;have e4:(out++(b.extract m nb).reverse).toList=out.toList++((b.toList.take nb).drop m).reverse:=by
  simp only[b5d,b6j,b2t,b2a];rw[b9l]
 rw[e4];exact this
theorem vA{as bs r:List Keyed}(h:sC (opp lt) as.reverse bs.reverse r):sC lt as bs r.reverse:=by
 refine⟨(b7m r).trans (h.1.trans ((b7m as).append (b7m bs))),?_⟩;rw[b3h];exact h.2
theorem vO{out a b:Array Keyed}{na nb:Nat}:(a.extract 0 na++b.extract 0 nb++out.reverse).toList=(out.toList++(b.toList.take nb).reverse++(a.toList.take na).reverse).reverse:=by
 simp only[b5d,b6j,b2t,b2a,List.reverse_append,List.reverse_reverse,b5s,c0h,a9z]
theorem MH.done{a b out:Array Keyed}{na nb:Nat}(T:qr It lt a.toList b.toList)(h:MH lt a b out na nb)(e:na=0\/nb=0):sC lt a.toList b.toList (a.extract 0 na++b.extract 0 nb++out.reverse).toList:=by
 have la:a.toList.length=a.size:=a9d;have lb:b.toList.length=b.size:=a9d;rw[vO];refine vA ?_;have:=h.mj.doneA T.opp (by rw[b0x,b0x,la,lb];have:=h.ha;have:=h.hb;lia);rw[<- la,fO (by rw[la];exact h.ha),<- lb,fO (by rw[lb];exact h.hb)] at this;rcases e with rfl | rfl
 .simpa using this
 .simpa using this
theorem MH.first{a b out:Array Keyed}{na nb:Nat}(T:qr It lt a.toList b.toList)(h:MH lt a b out na nb)(h0:∀ x∈b.toList.take nb,∀ y∈a.toList,lt y x=false):sC lt a.toList b.toList (b.extract 0 nb++a.extract 0 na++out.reverse).toList:=by
 have la:a.toList.length=a.size:=a9d;have lb:b.toList.length=b.size:=a9d;have e:(b.extract 0 nb++a.extract 0 na++out.reverse).toList=(out.toList++(a.toList.take na).reverse++(b.toList.take nb).reverse).reverse:=vO;rw[e];refine vA ⟨?_,?_⟩
 .have:=h.mj.perm;rw[<- la,fO (by rw[la];exact h.ha),<- lb,fO (by rw[lb];exact h.hb)] at this;rw[a9z];exact this
 .have hlow:=h.mj.low;rw[<- la,fO (by rw[la];exact h.ha),<- lb,fO (by rw[lb];exact h.hb)] at hlow;rw[a9z];refine b0w.mpr ⟨h.mj.srt,b0w.mpr ⟨b3h.mpr (T.sa.sublist (b5u _ _)),b3h.mpr (T.sb.sublist (b5u _ _)),fun x hx y hy=>h0 y (b2g.mp hy) x (b1y (b2g.mp hx))⟩,fun x hx y hy=>?_⟩;rcases a9k.mp hy with hy | hy
  .exact hlow x hx y (.inl hy)
  .exact hlow x hx y (.inr hy)
structure MR(lt:Keyed->Keyed->Bool)(a b out:Array Keyed)(na nb:Nat):Prop where
 mh:MH lt a b out na nb
 ha:1<=na
 hb:2<=nb
theorem fI{a:Array Keyed}{n:Nat}{y:Keyed}(h:y∈a.toList.take n):∃ p,∃ (hp:p<a.size),p<n/\y=a[p]:=by
 obtain⟨p,hp,e⟩:=a9o h;rw[b0d,a9d] at hp;exact⟨p,by lia,by lia,by rw[<- e,b7n,b4v]⟩
theorem M7(C:fw M A E s κ It lt){a b:Array Keyed}{st:a14}{Q:Array Keyed->a14->Prop}(T:qr It lt a.toList b.toList)(na:1<=a.size)(nb:1<=b.size)(hk:kindOf st=κ)(h0:∀ x,b[0]?=some x->∀ y∈a.toList,lt y x=false)(hl:∀ x,a[a.size - 1]?=some x->∀ y∈b.toList,lt x y=false)(hQ:∀ r st',aV st st'->sC lt a.toList b.toList r.toList->Q r st'):wpS M A E s (a8c a b) Q st:=by
 have la:a.toList.length=a.size:=a9d;have lb:b.toList.length=b.size:=a9d;have ita:∀ i (h:i<a.size),It a[i]:=fun i h=>T.ia _ (by simp);have itb:∀ i (h:i<b.size),It b[i]:=fun i h=>T.ib _ (by simp);have dnA:∀ j (h:j<a.size) x,It x->lt x a[j]=false->∀ y∈a.toList.take (j+1),lt x y=false:=fun j h x ix hx y hy=>by
  obtain⟨p,hp,hpj,rfl⟩:=fI hy;have:=gY C.irr T.ia T.sa x 0 p j (by lia) (by lia);rw[q5 (by lia),q5 (by lia)] at this;simp only[b5q] at this;exact C.trans a[p] a[j] x (ita p hp) (ita j h) ix this hx
 have dnB:∀ j (h:j<b.size) x,It x->lt x b[j]=false->∀ y∈b.toList.take (j+1),lt x y=false:=fun j h x ix hx y hy=>by
  obtain⟨p,hp,hpj,rfl⟩:=fI hy;have:=gY C.irr T.ib T.sb x 0 p j (by lia) (by lia);rw[q5 (by lia),q5 (by lia)] at this;simp only[b5q] at this;exact C.trans b[p] b[j] x (itb p hp) (itb j h) ix this hx
 have hfirst:∀ n,n<=1->∀ x∈b.toList.take n,∀ y∈a.toList,lt y x=false:=fun n hn x hx y hy=>by
  obtain⟨p,hp,hpn,rfl⟩:=fI hx;obtain rfl:p=0:=by lia
  exact h0 _ (aT hp).1 y hy
 obtain⟨el,el'⟩:=aT (show a.size - 1<a.size by lia);have mh0:MH lt a b #[a[a.size - 1]] (a.size - 1) b.size:=by
  have:MH lt a b #[] (a.size - 1+1) b.size:=⟨by
   rw[show a.size - (a.size - 1+1)=0 by lia,c0i];exact⟨b1m _,b1m _,by simp,by simp,fun x hx=>by simp at hx⟩,by lia,a9j _⟩
  have:=this.pa T (by lia) fun y hy=>hl _ el y (b1y hy);simpa using this
 unfold a8c;refine a03 (a70 (a30 ⟨rfl,?_⟩));refine a03 (z5 el ?_);by_cases c1:a.size - 1=0
 .refine aD (by simpa using c1) ?_;exact a06 (hQ _ _ (aV.refl _) (mh0.done T (.inl c1)))
 .refine aE (by simpa using c1) ?_;by_cases c2:b.size=1
  .refine aD (by simpa using c2) ?_;exact a06 (hQ _ _ (aV.refl _) (mh0.first T (hfirst _ (by lia))))
  .refine aE (by simpa using c2) ?_;refine a03 (a46 ?_);refine a03 (a27 (a22 (I:=fun t c st'=>aV st st'/\∃ i j out g,c=(none,i,j,out,g)/\MR lt a b out i j/\t+1<=out.size) (Q:=fun c st'=>aV st st'/\∃ r o,c=(some r,o)/\sC lt a.toList b.toList r.toList) ?_ ?_ ⟨aV.refl _,_,_,_,_,rfl,⟨mh0,by lia,by lia⟩,by simp⟩) ?_)
   .rintro t c st1 _ ht ⟨s1,i,j,out,g,rfl,hM,hs⟩;refine a03 (a27 (a22 (I:=fun t' c st'=>aV st st'/\∃ i j out ac bc,c=(none,i,j,out,ac,bc)/\MR lt a b out i j/\t+1+t'<=out.size) (Q:=fun c st'=>aV st st'/\((∃ r o,c=(some r,o)/\sC lt a.toList b.toList r.toList)\/∃ i j out ac bc,c=(none,i,j,out,ac,bc)/\MR lt a b out i j/\t+2<=out.size)) ?_ ?_ ⟨s1,i,j,out,0,0,rfl,hM,hs⟩) ?_)
    .rintro t' c st2 _ ht' ⟨s2,i,j,out,ac,bc,rfl,hM,hs⟩;obtain⟨mh,hi,hj⟩:=hM;have hai:=mh.ha;have hbj:=mh.hb;have hA:i - 1<a.size:=by lia
     have hB:j - 1<b.size:=by lia
     refine a03 (z5 (aT hB).1 (a03 (z5 (aT hA).1 (a03 (C.ask _ _ _ _ (itb _ hB) (ita _ hA) (s2.kind.trans hk) ?_)))));cases hb:lt b[j - 1] a[i - 1] with
     | true=>
       refine aD rfl ?_;refine a03 (z5 (aT hA).1 ?_);have m2:=MH.pa T (na:=i - 1) (by rw[show i - 1+1=i by lia];exact mh) hA (by
        have:=dnB (j - 1) hB _ (ita _ hA) (C.asym _ _ (itb _ hB) (ita _ hA) hb)
        rwa [show j - 1+1=j by lia] at this)
       by_cases c3:i - 1=0
       .refine aD (by simpa using c3) ?_;exact a06 ⟨s2,.inl ⟨_,_,rfl,m2.done T (.inl c3)⟩⟩
       .refine aE (by simpa using c3) ?_;refine cR ?_ ?_
        .exact a06 ⟨s2,.inr ⟨_,_,_,_,_,rfl,⟨m2,by (try dsimp only);lia,hj⟩,by dsimp only;rw[b2x];lia⟩⟩
        .exact a06 ⟨s2,_,_,_,_,_,rfl,⟨m2,by (try dsimp only);lia,hj⟩,by dsimp only;rw[b2x];lia⟩
     | false=>
       refine aE (by simp) ?_;refine a03 (z5 (aT hB).1 ?_);have m2:=MH.pb T (nb:=j - 1) (by rw[show j - 1+1=j by lia];exact mh) hB (by
        have:=dnA (i - 1) hA _ (itb _ hB) hb
        rwa [show i - 1+1=i by lia] at this)
       by_cases c3:j - 1=1
       .refine aD (by simpa using c3) ?_;exact a06 ⟨s2,.inl ⟨_,_,rfl,m2.first T (hfirst _ (by (try dsimp only);lia))⟩⟩
       .refine aE (by simpa using c3) ?_;refine cR ?_ ?_
        .exact a06 ⟨s2,.inr ⟨_,_,_,_,_,rfl,⟨m2,hi,by (try dsimp only);lia⟩,by dsimp only;rw[b2x];lia⟩⟩
        .exact a06 ⟨s2,_,_,_,_,_,rfl,⟨m2,hi,by (try dsimp only);lia⟩,by dsimp only;rw[b2x];lia⟩
    .rintro c st2 ⟨s2,i,j,out,ac,bc,rfl,hM,hs⟩;rw[b3b] at hs;exact⟨s2,.inr ⟨i,j,out,ac,bc,rfl,hM,by lia⟩⟩
    .rintro c st2 ⟨s2,⟨r,o,rfl,hr⟩ | ⟨i,j,out,ac,bc,rfl,hM,hs⟩⟩
     .exact a06 ⟨s2,r,_,rfl,hr⟩
     .refine a03 (a70 (a30 ⟨rfl,?_⟩));refine a03 (a27 (a22 (I:=fun t' c st'=>aV st st'/\∃ i j out g ac bc,c=(none,i,j,out,g,ac,bc)/\MR lt a b out i j/\t+2<=out.size) (Q:=fun c st'=>aV st st'/\((∃ r o,c=(some r,o)/\sC lt a.toList b.toList r.toList)\/∃ i j out g ac bc,c=(none,i,j,out,g,ac,bc)/\MR lt a b out i j/\t+2<=out.size)) ?_ ?_ ⟨s2,i,j,out,_,ac,bc,rfl,hM,hs⟩) ?_)
      .rintro t' c st3 _ ht' ⟨s3,i,j,out,g,ac,bc,rfl,hM,hs⟩;obtain⟨mh,hi,hj⟩:=hM;have hai:=mh.ha;have hbj:=mh.hb;have szo:=mh.len;have hB:j - 1<b.size:=by lia
       have dnB':∀ k (h:k<b.size) x,It x->lt x b[k]=false->k=j - 1->∀ y∈b.toList.take j,lt x y=false:=fun k h x ix hx e y hy=>dnB k h x ix hx y (by rw[e,show j - 1+1=j by lia];exact hy);dsimp only;revert g;refine qB (fun g=>g - 1) (fun g=>?_) (fun _=>rfl);refine a03 (iK fun dQ s34=>?_);have s4:=s3.trans s34;refine a03 (z5 (aT hB).1 ?_);refine a03 (cI C (key:=b[j - 1]) (arr:=a) (base:=0) (n:=i) (hint:=i - 1) (x:=xT a b[j - 1] 0) (s4.kind.trans hk) (itb _ hB) (fun p hp=>gZ (by lia)) (fun p hp=>by rw[q5 (by lia)];exact ita _ (by lia)) (by lia) (eT C (itb _ hB) (fun p hp=>by rw[q5 (by lia)];exact ita _ (by lia)) fun p q h1 h2=>gY C.irr T.ia T.sa _ _ p q h1 (by lia)) fun p1 hk0 hk1 hk2=>?_);have low:∀ y∈a.toList.take p1,lt b[j - 1] y=false:=fun y hy=>by
        obtain⟨q,hq,hqn,rfl⟩:=fI hy;have h9:=kg C (itb _ hB) (by rw[q5 (by lia)];exact ita _ (by lia)) (hk1 q hqn);rw[q5 (show 0+q<a.size by lia)] at h9;simpa using h9
       dsimp only;generalize ek:i - p1=kk;generalize eo:out=o0;revert o0;generalize ei:i=i0;revert i0;refine iL (fun o p=>0<p/\p<=i/\MH lt a b o p j/\∀ y∈a.toList.take p,lt b[j - 1] y=false) (fun R k3=>?_) (fun k3=>⟨by lia,a9j _,mh,by rw[show i=p1 by lia];exact low⟩) ?_
       .have m2:=mh.pas T (m:=p1) hk0 (fun t ht h1 h2=>dnB' _ hB _ (ita t ht) (by
         have h9:=kh C (itb _ hB) (by rw[q5 (by lia)];exact ita _ (by lia)) (hk2 t h1 h2);rw[q5 (show 0+t<a.size by lia)] at h9;simpa using h9) rfl)
        by_cases c4:p1=0
        .refine aD (by simpa using c4) ?_;exact a06 ⟨s4,.inl ⟨_,_,rfl,m2.done T (.inl c4)⟩⟩
        refine aE (by simpa using c4) ?_;exact R _ _ ⟨by lia,hk0,m2,low⟩
       clear hk0 hk1 hk2 low mh;rintro o p ⟨hp,hpi,m2,low⟩;have hI:p - 1<a.size:=by lia
       refine a03 (z5 (aT hB).1 ?_);have m3:=MH.pb T (nb:=j - 1) (by rw[show j - 1+1=j by lia];exact m2) hB low;by_cases c5:j - 1=1
       .refine aD (by simpa using c5) ?_;exact a06 ⟨s4,.inl ⟨_,_,rfl,m3.first T (hfirst _ (by (try dsimp only);lia))⟩⟩
       refine aE (by simpa using c5) ?_;have hNA:p - 1+1=p:=by lia
       have dnA':∀ j (h:j<a.size) x,It x->lt x a[j]=false->j=p - 1->∀ y∈a.toList.take p,lt x y=false:=fun j h x ix hx e y hy=>dnA j h x ix hx y (by rw[e,hNA];exact hy);refine a03 (z5 (aT hI).1 ?_);refine a03 (cI C (key:=a[p - 1]) (arr:=b) (base:=0) (n:=j - 1) (hint:=j - 1 - 1) (x:=xT b a[p - 1] 0) (s4.kind.trans hk) (ita _ hI) (fun p hp=>gZ (by lia)) (fun p hp=>by rw[q5 (by lia)];exact itb _ (by lia)) (by lia) (eT C (ita _ hI) (fun p hp=>by rw[q5 (by lia)];exact itb _ (by lia)) fun p q h1 h2=>gY C.irr T.ib T.sb _ _ p q h1 (by lia)) fun p2 hk4 hk5 hk6=>?_);have low2:∀ y∈b.toList.take p2,lt a[p - 1] y=false:=fun y hy=>by
        obtain⟨q,hq,hqn,rfl⟩:=fI hy;have h9:=kg C (ita _ hI) (by rw[q5 (by lia)];exact itb _ (by lia)) (hk5 q hqn);rw[q5 (show 0+q<b.size by lia)] at h9;simpa using h9
       dsimp only;generalize eo:o.push b[j - 1]=o2 at m3 ⊢;clear eo;have hj1:1<j - 1:=by lia
       generalize ej:j - 1=j2 at m3 hj1 hk4 hk6 ⊢;generalize ek2:j2 - p2=kk2;generalize eo:o2=o0;revert o0;generalize ei:j2=i0;revert i0;refine iL (fun o q=>1<q/\q<=j2/\MH lt a b o p q/\∀ y∈b.toList.take q,lt a[p - 1] y=false) (fun R k4=>?_) (fun k4=>⟨hj1,a9j _,m3,by rw[show j2=p2 by lia];exact low2⟩) ?_
       .have m4:=m3.pbs T (m:=p2) hk4 (fun t ht h1 h2=>dnA' _ hI _ (itb t ht) (by
         have h9:=kh C (ita _ hI) (by rw[q5 (by lia)];exact itb _ (by lia)) (hk6 t h1 h2);rw[q5 (show 0+t<b.size by lia)] at h9;simpa using h9) rfl)
        by_cases c6:p2=1
        .refine aD (by simpa using c6) ?_;exact a06 ⟨s4,.inl ⟨_,_,rfl,m4.first T (hfirst _ (by (try dsimp only);lia))⟩⟩
        refine aE (by simpa using c6) ?_;by_cases c7:p2=0
        .refine aD (by simpa using c7) ?_;exact a06 ⟨s4,.inl ⟨_,_,rfl,m4.done T (.inr c7)⟩⟩
        refine aE (by simpa using c7) ?_;exact R _ _ ⟨by lia,hk4,m4,low2⟩
       clear hk4 hk5 hk6 low2 m3 m2 low;rintro o q ⟨hq,hqj,m4,low2⟩;refine a03 (z5 (aT hI).1 ?_);have m5:=MH.pa T (na:=p - 1) (by rw[hNA];exact m4) hI low2;by_cases c8:p - 1=0
       .refine aD (by simpa using c8) ?_;exact a06 ⟨s4,.inl ⟨_,_,rfl,m5.done T (.inl c8)⟩⟩
       refine aE (by simpa using c8) ?_;have sz:=m5.len;refine cR ?_ ?_
       .exact a06 ⟨s4,.inr ⟨_,_,_,_,_,_,rfl,⟨m5,by (try dsimp only);lia,by (try dsimp only);lia⟩,by (try dsimp only);lia⟩⟩
       .exact a06 ⟨s4,_,_,_,_,_,_,rfl,⟨m5,by (try dsimp only);lia,by (try dsimp only);lia⟩,by (try dsimp only);lia⟩
      .rintro c st3 ⟨s3,i,j,out,g,ac,bc,rfl,hM,hs⟩;exact⟨s3,.inr ⟨i,j,out,g,ac,bc,rfl,hM,hs⟩⟩
      .rintro c st3 ⟨s3,⟨r,o,rfl,hr⟩ | ⟨i,j,out,g,ac,bc,rfl,hM,hs⟩⟩
       .exact a06 ⟨s3,r,_,rfl,hr⟩
       .refine a03 (iK fun dQ s4=>?_);exact a06 ⟨s3.trans s4,_,_,_,_,rfl,hM,by (try dsimp only);lia⟩
   .rintro c st1 ⟨s1,i,j,out,g,rfl,hM,hs⟩;rw[b3b] at hs;have:=hM.mh.len;have:=hM.ha;lia
   .rintro c st1 ⟨s1,r,o,rfl,hr⟩;exact a06 (hQ r st1 s1 hr)
end
theorem rF:∀ (m:List Keyed) (k d:Nat) (arr:Array Keyed),k+d+m.length<=arr.size->
 ((m.zipIdx d).foldl (fun a (p:Keyed×Nat)=>a.setIfInBounds (k+p.2) p.1) arr).toList=arr.toList.take (k+d)++m++arr.toList.drop (k+d+m.length)
 | [],k,d,arr,h=>by simp
 | x::m,k,d,arr,h=>by
   rw[b0r] at h;rw[List.zipIdx_cons,List.foldl_cons];have hs:(arr.setIfInBounds (k+d) x).size=arr.size:=by simp
   have:=rF m k (d+1) (arr.setIfInBounds (k+d) x) (by rw[hs];lia);rw[this];have hl:arr.toList.length=arr.size:=a9d;rw[b7g];rw[show k+(d+1)=k+d+1 by lia];have e1:(arr.toList.set (k+d) x).take (k+d+1)=arr.toList.take (k+d)++[x]:=by
    rw[b4j,b5z (by lia),List.take_set_of_le (a9j _)];rfl
   have e2:(arr.toList.set (k+d) x).drop (k+d+1+m.length)=arr.toList.drop (k+d+(m.length+1)):=by
    rw[List.drop_set_of_lt (by lia)];congr 1;lia
   rw[e1,e2,b0r];simp
section
variable {M:a83} {A:a19} {E:Value->a01->Prop} {s:a01} {κ:a68} {It:Keyed->Prop} {lt:Keyed->Keyed->Bool}
structure xJ(lt:Keyed->Keyed->Bool)(l:List Keyed)(lo n:Nat):Prop where
 le:lo+n<=l.length
 srt:((l.drop lo).take n).Pairwise fun x y=>lt y x=false
structure a0f(lt:Keyed->Keyed->Bool)(l l':List Keyed)(lo n:Nat):Prop where
 len:l'.length=l.length
 perm:l'.Perm l
 fst:l'.take lo=l.take lo
 lst:l'.drop (lo+n)=l.drop (lo+n)
 run:xJ lt l' lo n
theorem a0f.of{l X X' R:List Keyed}{sa n:Nat}(hX:l.drop sa=X++R)(hn:X.length=n)(hs:sa<=l.length)(hp:X'.Perm X)(hS:X'.Pairwise fun x y=>lt y x=false):a0f lt l (l.take sa++X'++R) sa n:=by
 have el:l=l.take sa++X++R:=by rw[a9z,<- hX,b0o]
 have hl':X'.length=n:=by rw[hp.length_eq,hn]
 have ht:(l.take sa).length=sa:=by rw[b0d];lia
 have hlen:l.length=sa+n+R.length:=by
  have:=congrArg b3g el;simp only[a9b,ht,hn] at this;lia
 have hd:(l.take sa++X'++R).drop sa=X'++R:=by rw[a9z,b2v (by lia),b3c (by lia)];rfl
 refine⟨?_,?_,?_,?_,?_,?_⟩
 .simp only[a9b,ht,hl'];lia
 .conv=>rhs;rw[el]
  exact b3l.append_right R (b3l.append_left _ hp)
 .rw[a9z,b6l (by lia),b9m,Nat.min_self]
 .rw[<- b3p,hd,<- b3p,hX,b2v (by lia),b2v (by lia),b3c (by lia),b3c (by lia)]
 .simp only[a9b,ht,hl'];lia
 .rw[hd,b6l (by lia),b1z (by lia)];exact hS
theorem V0(C:fw M A E s κ It lt){X1 X2 Y1 Y2 m:List Keyed}(iX:∀ x∈X1++X2,It x)(iY:∀ x∈Y1++Y2,It x)(sX:(X1++X2).Pairwise fun x y=>lt y x=false)(sY:(Y1++Y2).Pairwise fun x y=>lt y x=false)(hm:m.Perm (X2++Y1))(sm:m.Pairwise fun x y=>lt y x=false)(h1:∀ x∈X1,∀ y∈Y1++Y2,lt y x=false)(h2:∀ x∈X1++X2,∀ y∈Y2,lt y x=false):(X1++(m++Y2)).Pairwise fun x y=>lt y x=false:=by
 have pX:=b0w.mp sX;have pY:=b0w.mp sY;refine b0w.mpr ⟨pX.1,b0w.mpr ⟨sm,pY.2.1,fun x hx y hy=>?_⟩,fun x hx y hy=>?_⟩
 .rcases a9k.mp (hm.mem_iff.mp hx) with hx | hx
  .exact h2 x (b0j _ hx) y hy
  .exact pY.2.2 x hx y hy
 .rcases a9k.mp hy with hy | hy
  .rcases a9k.mp (hm.mem_iff.mp hy) with hy | hy
   .exact pX.2.2 x hx y hy
   .exact h1 x hx y (b4t _ hy)
  .exact h1 x hx y (b0j _ hy)
theorem M5{st st':a14}{Q:PUnit->a14->Prop}(h:Q ⟨⟩ st'):wpS M A E s (set st':StateT a14 Sem PUnit) Q st:=by
 unfold wpS;rw[StateT.run_set];exact a02 ⟨rfl,h⟩
theorem xV{st st':a14}{Q:PUnit->a14->Prop}(h:∀ st1,st1=st'->Q ⟨⟩ st1):wpS M A E s (set st':StateT a14 Sem PUnit) Q st:=M5 (h _ rfl)
theorem iT{l:List Keyed}{lo n p:Nat}(h:p<n):((l.drop lo).take n)[p]?=l[lo+p]?:=by
 rw[b4a,if_pos h,b2r]
theorem tY(l:List Keyed)(sa na nb:Nat):l.drop sa=(l.drop sa).take na++(l.drop (sa+na)).take nb++l.drop (sa+na+nb):=by
 have h1:l.drop (sa+na)=(l.drop (sa+na)).take nb++l.drop (sa+na+nb):=by
  conv=>lhs;rw[<- b0o nb (l.drop (sa+na))]
  rw[b3p]
 have h2:l.drop sa=(l.drop sa).take na++l.drop (sa+na):=by
  conv=>lhs;rw[<- b0o na (l.drop sa)]
  rw[b3p]
 rw[a9z,<- h1];exact h2
theorem qA(C:fw M A E s κ It lt){st:a14}{i sa na pw nb pw2:Nat}{Q:Bool->a14->Prop}(hp1:(a09 st)[i]?=some (sa,na,pw))(hp2:(a09 st)[i+1]?=some (sa+na,nb,pw2))(hk:b2n st=κ)(hit:∀ x∈(a10 st).toList,It x)(r1:xJ lt (a10 st).toList sa na)(r2:xJ lt (a10 st).toList (sa+na) nb)(n1:1<=na)(n2:1<=nb)(hf:a47 st=none)(hQ:∀ st':a14,b2n st'=κ->a47 st'=none->a09 st'=((a09 st).setIfInBounds i (sa,na+nb,pw)).eraseIdxIfInBounds (i+1)->a0f lt (a10 st).toList (a10 st').toList sa (na+nb)->Q true st'):wpS M A E s (b29 i) Q st:=by
 unfold b29;refine a03 (a46 ?_);rw[hp1,hp2];dsimp only;refine a03 (xV fun st0 hst0=>?_);have la:(a10 st).toList.length=(a10 st).size:=a9d;obtain⟨arr,harr⟩ : ∃ arr,a10 st=arr:=⟨_,rfl⟩
 rw[show (sortPriv% PySem.Builtin.SortState.a) st=arr from harr];rw[harr] at hit r1 r2 la;have hQ':∀ st':a14,b2n st'=κ->a47 st'=none->a09 st'=((a09 st).setIfInBounds i (sa,na+nb,pw)).eraseIdxIfInBounds (i+1)->a0f lt arr.toList (a10 st').toList sa (na+nb)->Q true st':=by rw[<- harr];exact hQ
 replace hQ:=hQ';have b1:=r1.le;have b2:=r2.le;rw[la] at b1 b2;have iA:∀ p (h:p<arr.size),It arr[p]:=fun p h=>hit _ (by simp);have k0:b2n st0=κ:=by rw[hst0];exact hk
 have a0:a10 st0=arr:=by rw[hst0];exact harr
 have p0:a09 st0=((a09 st).setIfInBounds i (sa,na+nb,pw)).eraseIdxIfInBounds (i+1):=by rw[hst0]
 have f0:a47 st0=none:=by rw[hst0];exact hf
 clear hst0;have eX:∀ p (h:p<na),((arr.toList.drop sa).take na)[p]?=some arr[sa+p]:=fun p h=>by rw[iT h];exact (aT (by lia)).2
 have eY:∀ p (h:p<nb),((arr.toList.drop (sa+na)).take nb)[p]?=some arr[sa+na+p]:=fun p h=>by rw[iT h];exact (aT (by lia)).2
 have lX:((arr.toList.drop sa).take na).length=na:=by rw[b0d,b0e,la];lia
 have lY:((arr.toList.drop (sa+na)).take nb).length=nb:=by rw[b0d,b0e,la];lia
 have hd:=tY arr.toList sa na nb;have iX:∀ x∈(arr.toList.drop sa).take na,It x:=fun x hx=>hit x (b1l (b1y hx));have iY:∀ x∈(arr.toList.drop (sa+na)).take nb,It x:=fun x hx=>hit x (b1l (b1y hx));have sX:=r1.srt;have sY:=r2.srt;have srtX:∀ p q,(hpq:p<=q)->(h:q<na)->lt (arr[sa+q]'(by omega (config:={}))) (arr[sa+p]'(by omega (config:={})))=false:=fun p q hpq h=>by
  by_cases e:p=q
  .subst e;exact C.irr _ (iA _ _)
  .have:=b1r.mp sX p q (by lia) (by lia) (by lia);have e1:=eX p (by lia);have e2:=eX q h;rw[a8y (by lia)] at e1 e2;rw[a9t.inj e1,a9t.inj e2] at this;exact this
 have srtY:∀ p q,(hpq:p<=q)->(h:q<nb)->lt (arr[sa+na+q]'(by omega (config:={}))) (arr[sa+na+p]'(by omega (config:={})))=false:=fun p q hpq h=>by
  by_cases e:p=q
  .subst e;exact C.irr _ (iA _ _)
  .have:=b1r.mp sY p q (by lia) (by lia) (by lia);have e1:=eY p (by lia);have e2:=eY q h;rw[a8y (by lia)] at e1 e2;rw[a9t.inj e1,a9t.inj e2] at this;exact this
 obtain⟨X,hX⟩ : ∃ X,X=(arr.toList.drop sa).take na:=⟨_,rfl⟩
 obtain⟨Y,hY⟩ : ∃ Y,Y=(arr.toList.drop (sa+na)).take nb:=⟨_,rfl⟩
 obtain⟨R,hR⟩ : ∃ R,R=arr.toList.drop (sa+na+nb):=⟨_,rfl⟩
 rw[<- hX] at hd sX lX iX;rw[<- hY] at hd sY lY iY;rw[<- hR] at hd;simp only[<- hX] at eX;simp only[<- hY] at eY;have hlxy:(X++Y).length=na+nb:=by rw[a9b,lX,lY]
 have memX:∀ x∈X,∃ p,∃ (h:p<na),x=arr[sa+p]'(by omega (config:={})):=fun x hx=>by
  obtain⟨p,hp,e⟩:=a9o hx;have e1:=eX p (by lia);rw[a8y hp,e] at e1;exact⟨p,by lia,a9t.inj e1⟩
 have memY:∀ x∈Y,∃ p,∃ (h:p<nb),x=arr[sa+na+p]'(by omega (config:={})):=fun x hx=>by
  obtain⟨p,hp,e⟩:=a9o hx;have e1:=eY p (by lia);rw[a8y hp,e] at e1;exact⟨p,by lia,a9t.inj e1⟩
 have stay:(∀ x∈X,∀ y∈Y,lt y x=false)->a0f lt arr.toList arr.toList sa (na+nb):=fun h=>by
  have:=a0f.of (lt:=lt) hd hlxy (by rw[la];lia) (b3l.refl _) (b0w.mpr ⟨sX,sY,h⟩)
  rwa [a9z,<- hd,b0o] at this
 obtain⟨ey0,ey0'⟩:=aT (show sa+na<arr.size by lia);refine a03 (z5 ey0 ?_);refine a03 (cI C (x:=xT arr arr[sa+na] sa) k0 (iA _ _) (fun p hp=>gZ (by lia)) (fun p hp=>by rw[q5 (by lia)];exact iA _ _) (by lia) (eT C (iA _ _) (fun p hp=>by rw[q5 (by lia)];exact iA _ _) fun p q h1 h2=>by rw[q5 (by lia),q5 (by lia)];exact srtX p q h1 h2) fun k hk0 hk1 hk2=>?_);dsimp only;have lowX:∀ p,p<k->(h:p<na)->lt arr[sa+na] (arr[sa+p]'(by omega (config:={})))=false:=fun p hp h=>by
  have:=kg C (iA _ (by lia)) (by rw[q5 (by lia)];exact iA _ _) (hk1 p hp)
  rwa [q5 (by lia)] at this
 have highX:∀ p,k<=p->(h:p<na)->lt (arr[sa+p]'(by omega (config:={}))) arr[sa+na]=false:=fun p hp h=>by
  have:=kh C (iA _ (by lia)) (by rw[q5 (by lia)];exact iA _ _) (hk2 p hp h)
  rwa [q5 (by lia)] at this
 have toY:∀ x,It x->lt arr[sa+na] x=false->∀ y∈Y,lt y x=false:=fun x ix hx y hy=>by
  obtain⟨q,hq,rfl⟩:=memY y hy;have:=srtY 0 q (by lia) hq;exact C.trans x arr[sa+na] _ ix (iA _ _) (iA _ _) hx this
 by_cases c1:na - k=0
 .rw[if_pos (by simpa using c1)];refine a06 (hQ st0 k0 f0 p0 ?_);rw[a0];refine stay fun x hx y hy=>?_;obtain⟨p,hp,rfl⟩:=memX x hx;exact toY _ (iA _ _) (lowX p (by lia) hp) y hy
 .rw[if_neg (by simpa using c1)];obtain⟨el,el'⟩:=aT (show sa+na - 1<arr.size by lia);refine a03 (z5 (x:=arr[sa+na - 1]) (by rw[show sa+k+(na - k) - 1=sa+na - 1 by lia];exact el) ?_);refine a03 (cI C (x:=xT arr arr[sa+na] (sa+na)) k0 (iA _ _) (fun p hp=>gZ (by lia)) (fun p hp=>by rw[q5 (by lia)];exact iA _ _) (by lia) (eT C (iA _ _) (fun p hp=>by rw[q5 (by lia)];exact iA _ _) fun p q h1 h2=>by rw[q5 (by lia),q5 (by lia)];exact srtY p q h1 h2) fun m hm0 hm1 hm2=>?_);dsimp only;have lowY:∀ p,p<m->(h:p<nb)->lt arr[sa+na - 1] (arr[sa+na+p]'(by omega (config:={})))=false:=fun p hp h=>by
   have:=kg C (iA _ (by lia)) (by rw[q5 (by lia)];exact iA _ _) (hm1 p hp)
   rwa [q5 (by lia)] at this
  have highY:∀ p,m<=p->(h:p<nb)->lt (arr[sa+na+p]'(by omega (config:={}))) arr[sa+na - 1]=false:=fun p hp h=>by
   have:=kh C (iA _ (by lia)) (by rw[q5 (by lia)];exact iA _ _) (hm2 p hp h)
   rwa [q5 (by lia)] at this
  have toX:∀ y,It y->lt y arr[sa+na - 1]=false->∀ x∈X,lt y x=false:=fun y iy hy x hx=>by
   obtain⟨p,hp,rfl⟩:=memX x hx;have:=srtX p (na - 1) (by lia) (by lia);simp only[show sa+(na - 1)=sa+na - 1 by lia] at this;exact C.trans _ arr[sa+na - 1] y (iA _ _) (iA _ _) iy this hy
  by_cases c2:m=0
  .rw[if_pos (by simpa using c2)];refine a06 (hQ st0 k0 f0 p0 ?_);rw[a0];refine stay fun x hx y hy=>?_;obtain⟨q,hq,rfl⟩:=memY y hy;exact toX _ (iA _ _) (highY q (by lia) hq) x hx
  .rw[if_neg (by simpa using c2)];have x2:(arr.extract (sa+k) (sa+na)).toList=X.drop k:=by
    rw[b2t,b2a,hX,b9l,b3p];congr 1;lia
   have y1:(arr.extract (sa+na) (sa+na+m)).toList=Y.take m:=by
    rw[b2t,b2a,hY,b9m];congr 1;lia
   have T:qr It lt (arr.extract (sa+k) (sa+na)).toList (arr.extract (sa+na) (sa+na+m)).toList:=by
    rw[x2,y1];exact⟨fun x hx=>iX x (b1l hx),fun x hx=>iY x (b1y hx),sX.sublist (b4g _ _),sY.sublist (b5u _ _)⟩
   have z1:(arr.extract (sa+k) (sa+na)).size=na - k:=by rw[c0b];lia
   have z2:(arr.extract (sa+na) (sa+na+m)).size=m:=by rw[c0b];lia
   have g0:∀ x,(arr.extract (sa+na) (sa+na+m))[0]?=some x->∀ y∈(arr.extract (sa+k) (sa+na)).toList,lt y x=false:=fun x hx y hy=>by
    rw[b8v,if_pos (by lia)] at hx;have:x=arr[sa+na]:=by rw[c0j,ey0] at hx;exact (a9t.inj hx).symm
    rw[this];rw[x2] at hy;obtain⟨p,hp,e⟩:=a9o hy;rw[b0e,lX] at hp;rw[b5v] at e;have e1:=eX (k+p) (by lia);rw[a8y (by lia),e] at e1;rw[a9t.inj e1];exact highX (k+p) (by lia) (by lia)
   have gl:∀ x,(arr.extract (sa+k) (sa+na))[(arr.extract (sa+k) (sa+na)).size - 1]?=some x->∀ y∈(arr.extract (sa+na) (sa+na+m)).toList,lt x y=false:=fun x hx y hy=>by
    rw[z1,b8v,if_pos (by lia),show sa+k+(na - k - 1)=sa+na - 1 by lia,el] at hx;rw[<- a9t.inj hx];rw[y1] at hy;obtain⟨p,hp,e⟩:=a9o hy;rw[b0d,lY] at hp;rw[b7n] at e;have e1:=eY p (by lia);rw[a8y (by lia),e] at e1;rw[a9t.inj e1];exact lowY p (by lia) (by lia)
   have fin:∀ (r:Array Keyed) (st5:a14),aV st0 st5->sC lt (arr.extract (sa+k) (sa+na)).toList (arr.extract (sa+na) (sa+na+m)).toList r.toList->
    Q true (SortSt.mk' (b2n st5) (r.toList.zipIdx.foldl (fun a x=>a.setIfInBounds (sa+k+x.2) x.1) (a10 st5)) (a09 st5) (gallopOf st5) (a47 st5)):=fun r st5 sg hr=>by
    refine hQ _ (sg.kind.trans k0) (sg.fail.trans f0) (sg.pend.trans p0) ?_;show a0f lt arr.toList (r.toList.zipIdx.foldl (fun a x=>a.setIfInBounds (sa+k+x.2) x.1) (a10 st5)).toList sa (na+nb);rw[sg.arr,a0];rw[x2,y1] at hr;have hrl:r.toList.length=na - k+m:=by
     rw[hr.1.length_eq,a9b,b0e,b0d,lX,lY];lia
    have:=rF r.toList (sa+k) 0 arr (by lia);rw[c0j] at this;rw[this,hrl];have e1:arr.toList.take (sa+k)=arr.toList.take sa++X.take k:=by
     rw[List.take_add,hX,b9m];congr 2;lia
    have e2:arr.toList.drop (sa+k+(na - k+m))=Y.drop m++R:=by
     have h1:arr.toList.drop (sa+na)=Y++R:=by
      have h0:=b0o nb (arr.toList.drop (sa+na));rw[b3p] at h0;rw[hY,hR];exact h0.symm
     rw[show sa+k+(na - k+m)=sa+na+m by lia,<- b3p,h1,b2v (by lia)]
    rw[e1,e2];have srt:=V0 C (X1:=X.take k) (X2:=X.drop k) (Y1:=Y.take m) (Y2:=Y.drop m) (m:=r.toList) (by rw[b0o];exact iX) (by rw[b0o];exact iY) (by rw[b0o];exact sX) (by rw[b0o];exact sY) hr.1 hr.2 (fun x hx y hy=>by
     rw[b0o] at hy;obtain⟨p,hp,e⟩:=a9o hx;rw[b0d,lX] at hp;rw[b7n] at e;have e1:=eX p (by lia);rw[a8y (by lia),e] at e1;rw[a9t.inj e1];exact toY _ (iA _ _) (lowX p (by lia) (by lia)) y hy) (fun x hx y hy=>by
     rw[b0o] at hx;obtain⟨p,hp,e⟩:=a9o hy;rw[b0e,lY] at hp;rw[b5v] at e;have e1:=eY (m+p) (by lia);rw[a8y (by lia),e] at e1;rw[a9t.inj e1];exact toX _ (iA _ _) (highY (m+p) (by lia) (by lia)) x hx)
    have pm:(X.take k++(r.toList++Y.drop m)).Perm (X++Y):=by
     have h1:(X.take k++(r.toList++Y.drop m)).Perm (X.take k++((X.drop k++Y.take m)++Y.drop m)):=b3l.append_left _ (b3l.append_right _ hr.1);refine h1.trans ?_;rw[a9z,b0o,<- a9z,b0o]
    have:=a0f.of (lt:=lt) hd hlxy (by rw[la];lia) pm srt;simpa [a9z] using this
   have leaf:∀ (r:Array Keyed) (st5:a14),aV st0 st5->sC lt (arr.extract (sa+k) (sa+na)).toList (arr.extract (sa+na) (sa+na+m)).toList r.toList->(a47 st5).isNone=true:=fun r st5 sg _=>by rw[sg.fail,f0];rfl
   refine cR ?_ ?_
   .refine a03 (M6 C T (by lia) (by lia) k0 g0 gl fun r st5 sg hr=>?_);refine a03 (a38 (a03 (a46 (a06 ?_))));have:=fin r st5 sg hr;rw[show (a47 st5).isNone=true from leaf r st5 sg hr];exact this
   .refine a03 (M7 C T (by lia) (by lia) k0 g0 gl fun r st5 sg hr=>?_);refine a03 (a38 (a03 (a46 (a06 ?_))));have:=fin r st5 sg hr;rw[show (a47 st5).isNone=true from leaf r st5 sg hr];exact this
end
noncomputable def bD(a:Array Keyed)(p:Nat):Keyed:=a.getD p (Value.none,Value.none)
theorem iO{a:Array Keyed}{p:Nat}(h:p<a.size):a[p]?=some (bD a p):=by unfold bD;rw[b4l,b1k h];rfl
theorem df{a:Array Keyed}{p:Nat}(h:p<a.size):bD a p∈a.toList:=by
 have:=iO h;rw[<- b1w] at this;exact a9f this
theorem lI{a b:Array Keyed}{p q:Nat}(h:a[p]?=b[q]?):bD a p=bD b q:=by unfold bD;rw[b4l,b4l,h]
section
variable {M:a83} {A:a19} {E:Value->a01->Prop} {s:a01} {κ:a68} {It:Keyed->Prop} {lt:Keyed->Keyed->Bool}
noncomputable def Sg(lt:Keyed->Keyed->Bool)(a:Array Keyed)(lo n:Nat):Prop:=∀ p q,p<q->q<n->lt (bD a (lo+q)) (bD a (lo+p))=false
theorem Sg.run{a:Array Keyed}{lo n:Nat}(h:Sg lt a lo n)(hn:lo+n<=a.size):xJ lt a.toList lo n:=by
 have la:a.toList.length=a.size:=a9d;refine⟨by rw[la];exact hn,b1r.mpr fun p q hp hq hpq=>?_⟩;rw[b0d,b0e,la] at hp hq;have e:∀ p (h:p<((a.toList.drop lo).take n).length),((a.toList.drop lo).take n)[p]=bD a (lo+p):=fun p h=>by
  have h':=h;rw[b0d,b0e,la] at h';have e1:((a.toList.drop lo).take n)[p]?=some (bD a (lo+p)):=by rw[iT (by lia),b1w];exact iO (by lia)
  rw[a8y h] at e1;exact a9t.inj e1
 rw[e,e];exact h p q hpq (by lia)
structure SB(κ:a68)(l₀:List Keyed)(st:a14):Prop where
 kind:b2n st=κ
 fail:a47 st=none
 perm:(a10 st).toList.Perm l₀
theorem SB.size{l₀:List Keyed}{st:a14}(h:SB κ l₀ st):(a10 st).size=l₀.length:=by rw[<- a9d];exact h.perm.length_eq
noncomputable def a0i(lt:Keyed->Keyed->Bool)(l:List Keyed):Prop:=l.Pairwise fun x y=>lt x y=true\/lt y x=true
theorem a0i.perm{l l':List Keyed}(h:a0i lt l)(p:l'.Perm l):a0i lt l':=p.symm.pairwise h fun {x y} k=>k.symm
theorem a0i.at{a:Array Keyed}(h:a0i lt a.toList){p q:Nat}(hp:p<a.size)(hq:q<a.size)(ne:p≠q):lt (bD a p) (bD a q)=true\/lt (bD a q) (bD a p)=true:=by
 have la:a.toList.length=a.size:=a9d;have e:∀ p (h:p<a.size),a.toList[p]'(by omega (config:={}))=bD a p:=fun p h=>by
  have:=iO h;rw[<- b1w,a8y (by lia)] at this;exact a9t.inj this
 rcases Nat.lt_or_gt_of_ne ne with k | k
 .have:=b1r.mp h p q (by lia) (by lia) k;rw[e p hp,e q hq] at this;exact this
 .have:=b1r.mp h q p (by lia) (by lia) k;rw[e p hp,e q hq] at this;exact this.symm
theorem jF(C:fw M A E s κ It lt){st:a14}{i j:Nat}{Q:Option Bool->a14->Prop}(hk:b2n st=κ)(hit:∀ x∈(a10 st).toList,It x)(hi:i<(a10 st).size)(hj:j<(a10 st).size)(q:Q (some (lt (bD (a10 st) i) (bD (a10 st) j))) st):wpS M A E s (ltAt' i j) Q st:=by
 rw[ltAt'_eq];refine a03 (a46 ?_);refine a03 (z5 (iO hi) (a03 (z5 (iO hj) ?_)));exact C.ask _ _ _ _ (hit _ (df hi)) (hit _ (df hj)) hk q
theorem qS(C:fw M A E s κ It lt){a:Array Keyed}(hit:∀ x∈a.toList,It x){lo n:Nat}(hn:lo+n<=a.size)(h:∀ k,1<=k->k<n->lt (bD a (lo+k)) (bD a (lo+k - 1))=false):Sg lt a lo n:=fun p q=>by
 induction q with
 | zero=>intro h1;lia
 | succ q ih=>
   intro hpq hq;have s1:=h (q+1) (by lia) hq;rw[show lo+(q+1) - 1=lo+q by lia] at s1;by_cases e:p=q
   .subst e;exact s1
   .exact C.trans _ (bD a (lo+q)) _ (hit _ (df (by lia))) (hit _ (df (by lia))) (hit _ (df (by lia))) (ih (by lia) (by lia)) s1
theorem wl(C:fw M A E s κ It lt){l₀:List Keyed}{lo nrem:Nat}{st:a14}{Q:Option Nat->a14->Prop}(hB:SB κ l₀ st)(hD:a0i lt l₀)(iI:∀ x∈l₀,It x)(h1:1<=nrem)(hn:lo+nrem<=l₀.length)(hQ:∀ (n:Nat) (st':a14),1<=n->n<=nrem->SB κ l₀ st'->a09 st'=a09 st->(∀ p,p<lo->(a10 st')[p]?=(a10 st)[p]?)->Sg lt (a10 st') lo n->Q (some n) st'):wpS M A E s (countRun' lo nrem) Q st:=by
 have hsz:=hB.size;have hit:∀ x∈(a10 st).toList,It x:=fun x hx=>iI x (hB.perm.mem_iff.mp hx);have hDs:=hD.perm hB.perm;rw[countRun'_eq];dsimp only;refine a03 (a27 (a22 (I:=fun t c st'=>st'=st/\c=(none,t)/\(∀ k,1<=k->k<t->lt (bD (a10 st) (lo+k)) (bD (a10 st) (lo+k - 1))=false)) (Q:=fun c st'=>st'=st/\∃ w,c=(none,w)/\1<=w/\w<=nrem/\(∀ k,1<=k->k<w->lt (bD (a10 st) (lo+k)) (bD (a10 st) (lo+k - 1))=false)/\(w<nrem->lt (bD (a10 st) (lo+w)) (bD (a10 st) (lo+w - 1))=true)) ?_ ?_ ⟨rfl,rfl,fun k h1 h2=>by lia⟩) ?_)
 .rintro t c st' ht1 ht2 ⟨rfl,rfl,hc⟩;refine a03 (jF C hB.kind hit (by rw[hsz];lia) (by rw[hsz];lia) ?_);dsimp only;cases e:lt (bD (a10 st') (lo+t)) (bD (a10 st') (lo+t - 1)) with
  | true=>rw[if_pos rfl];exact a06 ⟨rfl,t,rfl,ht1,by lia,hc,fun _=>e⟩
  | false=>
    rw[if_neg (by simp)];refine a06 ⟨rfl,rfl,fun k k1 k2=>?_⟩;by_cases ek:k=t
    .subst ek;exact e
    .exact hc k k1 (by lia)
 .rintro c st' ⟨rfl,rfl,hc⟩;exact⟨rfl,_,rfl,by lia,by lia,hc,fun h=>by lia⟩
 .rintro c st' ⟨rfl,n,rfl,n1,n2,hc,hlast⟩;dsimp only;have sg:=qS C hit (lo:=lo) (n:=n) (by lia) hc;by_cases c1:n=nrem
  .rw[if_pos (by simpa using c1)];exact a06 (hQ n st' n1 n2 hB rfl (fun _ _=>rfl) sg)
  rw[if_neg (by simpa using c1)];by_cases c2:n > 1
  .rw[if_pos c2];refine a03 (jF C hB.kind hit (by rw[hsz];lia) (by rw[hsz];lia) ?_);dsimp only;have e:=sg 0 (n - 1) (by lia) (by lia);rw[c0j,show lo+(n - 1)=lo+n - 1 by lia] at e;have e2:lt (bD (a10 st') lo) (bD (a10 st') (lo+n - 1))=true:=by
    rcases hDs.at (p:=lo) (q:=lo+n - 1) (by rw[hsz];lia) (by rw[hsz];lia) (by lia) with z | z
    .exact z
    .rw[e] at z;cases z
   rw[e2,if_pos rfl];exact a06 (hQ n st' n1 n2 hB rfl (fun _ _=>rfl) sg)
  rw[if_neg c2];obtain rfl:n=1:=by lia
  refine a03 (a70 (a30 ⟨rfl,?_⟩));have hd1:=hlast (by lia);rw[show lo+1 - 1=lo by lia] at hd1;refine a03 (a27 (a22 (I:=fun t c st2=>st2=st'/\c=(none,t,0)/\(∀ k,1<=k->k<t->lt (bD (a10 st') (lo+k)) (bD (a10 st') (lo+k - 1))=true)) (Q:=fun c st2=>st2=st'/\∃ n,c=(none,n,0)/\2<=n/\n<=nrem/\(∀ k,1<=k->k<n->lt (bD (a10 st') (lo+k)) (bD (a10 st') (lo+k - 1))=true)) ?_ ?_ ⟨rfl,rfl,fun k h1 h2=>?_⟩) ?_)
  .rintro t c st2 ht1 ht2 ⟨rfl,rfl,hc⟩;refine a03 (jF C (i:=lo+t) (j:=lo+t - 1) hB.kind hit (by rw[hsz];lia) (by rw[hsz];lia) ?_);dsimp only;cases e:lt (bD (a10 st2) (lo+t)) (bD (a10 st2) (lo+t - 1)) with
   | true=>
     rw[if_pos rfl,if_neg (by lia)];refine a06 ⟨rfl,rfl,fun k k1 k2=>?_⟩;by_cases ek:k=t
     .subst ek;exact e
     .exact hc k k1 (by lia)
   | false=>
     rw[if_neg (by simp)];refine a03 (jF C (i:=lo+t - 1) (j:=lo+t) hB.kind hit (by rw[hsz];lia) (by rw[hsz];lia) ?_);dsimp only;have e2:lt (bD (a10 st2) (lo+t - 1)) (bD (a10 st2) (lo+t))=true:=by
      rcases hDs.at (p:=lo+t - 1) (q:=lo+t) (by rw[hsz];lia) (by rw[hsz];lia) (by lia) with z | z
      .exact z
      .rw[e] at z;cases z
     rw[e2,if_pos rfl];exact a06 ⟨rfl,t,rfl,by lia,by lia,hc⟩
  .rintro c st2 ⟨rfl,rfl,hc⟩;exact⟨rfl,_,rfl,by lia,by lia,hc⟩
  .obtain rfl:k=1:=by lia
   rw[show lo+1 - 1=lo by lia];exact hd1
  .rintro c st2 ⟨rfl,n,rfl,m1,m2,hd⟩;dsimp only;rw[if_neg (by lia)];refine a03 ?_;rw[reverseSlice'_eq];refine a38 ?_;have hB2:SB κ l₀ (a98 st2 (mirror (a10 st2) lo (lo+n) ((lo+n - lo) / 2))):=⟨hB.kind,hB.fail,(b7h.mp (mirror_perm _ _ _ _)).trans hB.perm⟩
   have hg:∀ k,(a10 (a98 st2 (mirror (a10 st2) lo (lo+n) ((lo+n - lo) / 2))))[k]?=if lo<=k/\k<lo+n then (a10 st2)[lo+(lo+n) - 1 - k]? else (a10 st2)[k]?:=fun k=>getElem?_mirror_all (by rw[hsz];lia) k
   have hpd:a09 (a98 st2 (mirror (a10 st2) lo (lo+n) ((lo+n - lo) / 2)))=a09 st2:=rfl;generalize a98 st2 (mirror (a10 st2) lo (lo+n) ((lo+n - lo) / 2))=st3 at *;have hsz3:=hB2.size;have hit3:∀ x∈(a10 st3).toList,It x:=fun x hx=>iI x (hB2.perm.mem_iff.mp hx);refine a03 (a27 (a22 (I:=fun t c st'=>st'=st3/\c=(none,t)/\(∀ k,n<=k->k<t->lt (bD (a10 st3) (lo+k)) (bD (a10 st3) (lo+k - 1))=false)) (Q:=fun c st'=>st'=st3/\∃ w,c=(none,w)/\n<=w/\w<=nrem/\(∀ k,n<=k->k<w->lt (bD (a10 st3) (lo+k)) (bD (a10 st3) (lo+k - 1))=false)/\(w<nrem->lt (bD (a10 st3) (lo+w)) (bD (a10 st3) (lo+w - 1))=true)) ?_ ?_ ⟨rfl,rfl,fun k h1 h2=>by lia⟩) ?_)
   .rintro t c st' ht1 ht2 ⟨rfl,rfl,hc⟩;refine a03 (jF C hB2.kind hit3 (by rw[hsz3];lia) (by rw[hsz3];lia) ?_);dsimp only;cases e:lt (bD (a10 st') (lo+t)) (bD (a10 st') (lo+t - 1)) with
    | true=>rw[if_pos rfl];exact a06 ⟨rfl,t,rfl,ht1,by lia,hc,fun _=>e⟩
    | false=>
      rw[if_neg (by simp)];refine a06 ⟨rfl,rfl,fun k k1 k2=>?_⟩;by_cases ek:k=t
      .subst ek;exact e
      .exact hc k k1 (by lia)
   .rintro c st' ⟨rfl,rfl,hc⟩;exact⟨rfl,_,rfl,by lia,by lia,hc,fun h=>by lia⟩
   .rintro c st' ⟨rfl,r,rfl,r1,r2,hc3,_⟩;refine a06 (hQ r st' (by lia) r2 hB2 hpd (fun p hp=>?_) (qS C hit3 (by lia) fun k k1 k2=>?_))
    .rw[hg,if_neg (by lia)]
    .by_cases kn:n<=k
     .exact hc3 k kn k2
     .have g1:bD (a10 st') (lo+k)=bD (a10 st2) (lo+n - 1 - k):=lI (by rw[hg,if_pos (by lia)];congr 1;lia);have g2:bD (a10 st') (lo+k - 1)=bD (a10 st2) (lo+n - 1 - k+1):=lI (by rw[hg,if_pos (by lia)];congr 1;lia);rw[g1,g2];have:=hd (n - k) (by lia) (by lia);rw[show lo+(n - k)=lo+n - 1 - k+1 by lia,Nat.add_sub_cancel] at this;exact C.asym _ _ (hit _ (df (by rw[hsz];lia))) (hit _ (df (by rw[hsz];lia))) this
structure Kp(κ:a68)(l₀:List Keyed)(lo:Nat)(st st':a14):Prop where
 sb:SB κ l₀ st'
 pend:a09 st'=a09 st
 low:∀ p,p<lo->(a10 st')[p]?=(a10 st)[p]?
theorem Sg.le(C:fw M A E s κ It lt){a:Array Keyed}(hit:∀ x∈a.toList,It x){lo n:Nat}(h:Sg lt a lo n)(hn:lo+n<=a.size){p q:Nat}(hpq:p<=q)(hq:q<n):lt (bD a (lo+q)) (bD a (lo+p))=false:=by
 by_cases e:p=q
 .subst e;exact C.irr _ (hit _ (df (by lia)))
 .exact h p q (by lia) hq
theorem M8(C:fw M A E s κ It lt){l₀:List Keyed}{lo n ok:Nat}{st:a14}{Q:Bool->a14->Prop}(hB:SB κ l₀ st)(iI:∀ x∈l₀,It x)(hok1:1<=ok)(hok:ok<=n)(hn:lo+n<=l₀.length)(hS:Sg lt (a10 st) lo ok)(hQ:∀ st':a14,Kp κ l₀ lo st st'->Sg lt (a10 st') lo n->Q true st'):wpS M A E s (binarySort' lo n ok) Q st:=by
 rw[binarySort'_eq];refine a03 (a27 (a22 (I:=fun t c st'=>c=(none,())/\Kp κ l₀ lo st st'/\Sg lt (a10 st') lo t) (Q:=fun c st'=>c=(none,())/\Kp κ l₀ lo st st'/\Sg lt (a10 st') lo n) ?_ ?_ ⟨rfl,⟨hB,rfl,fun _ _=>rfl⟩,by rw[Nat.max_eq_left hok1];exact hS⟩) ?_)
 .rintro k c st1 hk1 hk2 ⟨rfl,kp,sg⟩;have hsz:=kp.sb.size;have hit:∀ x∈(a10 st1).toList,It x:=fun x hx=>iI x (kp.sb.perm.mem_iff.mp hx);have iG:∀ p,p<l₀.length->It (bD (a10 st1) p):=fun p hp=>hit _ (df (by rw[hsz];exact hp));dsimp only;refine a03 (a27 (a22 (I:=fun t c st'=>st'=st1/\∃ l r,c=(none,l,r)/\l<=r/\r<=k/\r - l<=k - t/\(∀ p,p<l->lt (bD (a10 st1) (lo+k)) (bD (a10 st1) (lo+p))=false)/\(∀ p,r<=p->p<k->lt (bD (a10 st1) (lo+p)) (bD (a10 st1) (lo+k))=false)) (Q:=fun c st'=>st'=st1/\∃ l r,c=(none,l,r)/\l<=k/\(∀ p,p<l->lt (bD (a10 st1) (lo+k)) (bD (a10 st1) (lo+p))=false)/\(∀ p,l<=p->p<k->lt (bD (a10 st1) (lo+p)) (bD (a10 st1) (lo+k))=false)) ?_ ?_ ⟨rfl,0,k,rfl,by lia,by lia,by lia,fun p hp=>by lia,fun p h1 h2=>by lia⟩) ?_)
  .rintro t c st' ht1 ht2 ⟨rfl,l,r,rfl,h1,h2,h3,hl,hr⟩;dsimp only;by_cases e:l>=r
   .rw[if_pos e];obtain rfl:l=r:=by lia
    exact a06 ⟨rfl,l,l,rfl,h2,hl,hr⟩
   .rw[if_neg e];refine a03 (jF C (i:=lo+k) (j:=lo+(l+r) / 2) kp.sb.kind hit (by rw[hsz];lia) (by rw[hsz];lia) ?_);dsimp only;cases b:lt (bD (a10 st') (lo+k)) (bD (a10 st') (lo+(l+r) / 2)) with
    | true=>
      rw[if_pos rfl];refine a06 ⟨rfl,l,(l+r) / 2,rfl,by lia,by lia,by lia,hl,fun p p1 p2=>?_⟩;exact C.trans _ (bD (a10 st') (lo+(l+r) / 2)) _ (iG _ (by lia)) (iG _ (by lia)) (iG _ (by lia)) (C.asym _ _ (iG _ (by lia)) (iG _ (by lia)) b) (sg.le C hit (by rw[hsz];lia) p1 p2)
    | false=>
      rw[if_neg (by simp)];refine a06 ⟨rfl,(l+r) / 2+1,r,rfl,by lia,h2,by lia,fun p hp=>?_,hr⟩;exact C.trans _ (bD (a10 st') (lo+(l+r) / 2)) _ (iG _ (by lia)) (iG _ (by lia)) (iG _ (by lia)) (sg.le C hit (by rw[hsz];lia) (by lia) (by lia)) b
  .rintro c st' ⟨rfl,l,r,rfl,h1,h2,h3,hl,hr⟩;rw[b3b] at h3;obtain rfl:l=r:=by lia
   exact⟨rfl,l,l,rfl,h2,hl,hr⟩
  .rintro c st' ⟨rfl,l,r,rfl,hlk,hl,hr⟩;dsimp only;refine a03 ?_;rw[moveDown'_eq];refine a38 ?_;have hg:∀ p,(a10 (a98 st' (bubble (a10 st') (lo+k) (lo+k - (lo+l)))))[p]?=if p=lo+l then (a10 st')[lo+k]? else if lo+l<p/\p<=lo+k then (a10 st')[p - 1]? else (a10 st')[p]?:=fun p=>by
    have:=getElem?_bubble (xs:=a10 st') (src:=lo+k) (by rw[hsz];lia) (lo+k - (lo+l)) (by lia) p;rw[show lo+k - (lo+k - (lo+l))=lo+l by lia] at this;exact this
   have kp2:Kp κ l₀ lo st (a98 st' (bubble (a10 st') (lo+k) (lo+k - (lo+l)))):=⟨⟨kp.sb.kind,kp.sb.fail,(b7h.mp (bubble_perm _ _ _)).trans kp.sb.perm⟩,kp.pend,fun p hp=>by rw[hg,if_neg (by lia),if_neg (by lia)];exact kp.low p hp⟩
   generalize a98 st' (bubble (a10 st') (lo+k) (lo+k - (lo+l)))=st2 at *;refine a06 ⟨rfl,kp2,fun p q hpq hq=>?_⟩;have g1:bD (a10 st2) (lo+l)=bD (a10 st') (lo+k):=lI (by rw[hg,if_pos rfl]);have g2:∀ p,p<l->bD (a10 st2) (lo+p)=bD (a10 st') (lo+p):=fun p hp=>lI (by rw[hg,if_neg (by lia),if_neg (by lia)]);have g3:∀ p,l<p->p<=k->bD (a10 st2) (lo+p)=bD (a10 st') (lo+(p - 1)):=fun p hp hk=>lI (by rw[hg,if_neg (by lia),if_pos (by lia)];congr 1;lia);rcases b3n p l with hp | rfl | hp
   .rw[g2 p hp];rcases b3n q l with hq' | rfl | hq'
    .rw[g2 q hq'];exact sg p q hpq (by lia)
    .rw[g1];exact hl p hp
    .rw[g3 q hq' (by lia)];exact sg p (q - 1) (by lia) (by lia)
   .rw[g1,g3 q hpq (by lia)];exact hr (q - 1) (by lia) (by lia)
   .rw[g3 p hp (by lia),g3 q (by lia) (by lia)];exact sg (p - 1) (q - 1) (by lia) (by lia)
 .rintro c st1 ⟨rfl,kp,sg⟩;rw[show max (max ok 1) n=n by lia] at sg;exact⟨rfl,kp,sg⟩
 .rintro c st1 ⟨rfl,kp,sg⟩;exact a06 (hQ st1 kp sg)
noncomputable def Ch(lt:Keyed->Keyed->Bool)(l:List Keyed):Nat->List (Nat×Nat×Nat)->Nat->Prop
 | b,[],e=>b=e
 | b,(x,n,_)::r,e=>x=b/\1<=n/\xJ lt l b n/\Ch lt l (b+n) r e
theorem Ch.app{l:List Keyed}:∀ {P Q:List (Nat×Nat×Nat)} {b e:Nat},Ch lt l b (P++Q) e↔∃ m,Ch lt l b P m/\Ch lt l m Q e
 | [],Q,b,e=>⟨fun h=>⟨b,rfl,h⟩,fun⟨m,h1,h2⟩=>by cases h1;exact h2⟩
 | (x,n,w)::P,Q,b,e=>by
  constructor
  .rintro⟨h1,h2,h3,h4⟩;obtain⟨m,h5,h6⟩:=Ch.app.mp h4;exact⟨m,⟨h1,h2,h3,h5⟩,h6⟩
  .rintro⟨m,⟨h1,h2,h3,h5⟩,h6⟩;exact⟨h1,h2,h3,Ch.app.mpr ⟨m,h5,h6⟩⟩
theorem Ch.le{l:List Keyed}:∀ {P:List (Nat×Nat×Nat)} {b e:Nat},Ch lt l b P e->b+P.length<=e
 | [],b,e,h=>by cases h;simp
 | (x,n,w)::P,b,e,⟨h1,h2,h3,h4⟩=>by have:=Ch.le h4;simp only[b0r];lia
theorem Ch.keep{l l':List Keyed}(hl:l'.length=l.length):∀ {P:List (Nat×Nat×Nat)} {b e:Nat},Ch lt l b P e->(∀ p,b<=p->p<e->l'[p]?=l[p]?)->Ch lt l' b P e
 | [],b,e,h,_=>h
 | (x,n,w)::P,b,e,⟨h1,h2,h3,h4⟩,hk=>by
  have hle:=Ch.le h4;refine⟨h1,h2,⟨by rw[hl];exact h3.le,?_⟩,Ch.keep hl h4 fun p p1 p2=>hk p (by lia) p2⟩;have:(l'.drop b).take n=(l.drop b).take n:=by
   refine b1j fun i=>?_;by_cases hi:i<n
   .rw[iT hi,iT hi];exact hk _ (by lia) (by lia)
   .rw[b4a,if_neg hi,b4a,if_neg hi]
  rw[this];exact h3.srt
theorem qF{l l':List Keyed}{n p:Nat}(h:l'.take n=l.take n)(hp:p<n):l'[p]?=l[p]?:=by
 have:=congrArg (fun z=>z[p]?) h;simp only[b4a,if_pos hp] at this;exact this
theorem kE{l l':List Keyed}{n p:Nat}(h:l'.drop n=l.drop n)(hp:n<=p):l'[p]?=l[p]?:=by
 have:=congrArg (fun z=>z[p - n]?) h;simp only[b2r] at this
 rwa [show n+(p - n)=p by lia] at this
theorem Ch.merge{l l':List Keyed}{P1 P2:List (Nat×Nat×Nat)}{sa na w nb w2 sb b e:Nat}(h:Ch lt l b (P1++(sa,na,w)::(sb,nb,w2)::P2) e) :
 sb=sa+na/\1<=na/\1<=nb/\xJ lt l sa na/\xJ lt l (sa+na) nb/\(a0f lt l l' sa (na+nb)->Ch lt l' b (P1++(sa,na+nb,w)::P2) e):=by
 obtain⟨m,h1,e1,n1,r1,e2,n2,r2,h2⟩:=Ch.app.mp h;obtain rfl:=e1;obtain rfl:=e2;refine⟨rfl,n1,n2,r1,r2,fun g=>Ch.app.mpr ⟨sa,h1.keep g.len fun p _ p2=>qF g.fst p2,rfl,by lia,g.run,?_⟩⟩;rw[show sa+(na+nb)=sa+na+nb by lia];exact h2.keep g.len fun p p1 _=>kE g.lst (by lia)
structure SP(lt:Keyed->Keyed->Bool)(κ:a68)(l₀:List Keyed)(lo:Nat)(st:a14):Prop where
 sb:SB κ l₀ st
 ch:Ch lt (a10 st).toList 0 (a09 st).toList lo
theorem a2q{α:Type}{P:List α}{i:Nat}(h:i+1<P.length):∃ P1 x y P2,P=P1++x::y::P2/\P1.length=i:=by
 refine⟨P.take i,P[i]'(by omega (config:={})),P[i+1]'h,P.drop (i+2),?_,by rw[b0d];lia⟩
 conv=>lhs;rw[<- b0o i P]
 congr 1;rw[b3k (by lia),b3k h]
theorem fF(C:fw M A E s κ It lt){l₀:List Keyed}{lo i:Nat}{st:a14}{Q:Bool->a14->Prop}(iI:∀ x∈l₀,It x)(h:SP lt κ l₀ lo st)(hi:i+1<(a09 st).size)(hQ:∀ st':a14,SP lt κ l₀ lo st'->(a09 st').size+1=(a09 st).size->1<=(a09 st').size->(∀ p,lo<=p->(a10 st').toList[p]?=(a10 st).toList[p]?)->Q true st'):wpS M A E s (b29 i) Q st:=by
 obtain⟨P1,⟨sa,na,w⟩,⟨sb,nb,w2⟩,P2,eP,eI⟩:=a2q (P:=(a09 st).toList) (i:=i) (by rw[a9d];exact hi);have hc:=h.ch;rw[eP] at hc;have hlen:(a09 st).size=P1.length+2+P2.length:=by rw[<- a9d,eP];simp;lia
 obtain⟨rfl,n1,n2,r1,r2,mg⟩:=Ch.merge (l':=(a10 st).toList) hc;have g1:(a09 st)[i]?=some (sa,na,w):=by rw[<- b1w,eP,<- eI];simp
 have g2:(a09 st)[i+1]?=some (sa+na,nb,w2):=by rw[<- b1w,eP,<- eI,a9l (by lia)];simp
 refine qA C g1 g2 h.sb.kind (fun x hx=>iI x (h.sb.perm.mem_iff.mp hx)) r1 r2 n1 n2 h.sb.fail fun st' k1 k2 k3 k4=>?_;have eP':(a09 st').toList=P1++(sa,na+nb,w)::P2:=by
  rw[k3,Array.toList_eraseIdxIfInBounds,b7g,eP,<- eI];simp only[List.set_append_right _ _ (a9j _),c0i,List.set_cons_zero];rw[List.eraseIdx_append_of_length_le (by lia),show P1.length+1 - P1.length=1 by lia];rfl
 refine hQ st' ⟨⟨k1,k2,k4.perm.trans h.sb.perm⟩,by rw[eP'];exact (Ch.merge (l':=(a10 st').toList) hc).2.2.2.2.2 k4⟩ ?_ ?_ ?_
 .rw[hlen,<- a9d,eP'];simp;lia
 .rw[<- a9d,eP'];simp;lia
 .intro p hp;obtain⟨m,h1,e1,n1',r1',e2,n2',r2',h2⟩:=Ch.app.mp hc;have:=Ch.le h2;exact kE k4.lst (by lia)
theorem Ch.pw{l:List Keyed}{f:Nat×Nat×Nat->Nat×Nat×Nat}(hf:∀ x,(f x).1=x.1/\(f x).2.1=x.2.1):∀ {P:List (Nat×Nat×Nat)} {b e:Nat} (i:Nat),Ch lt l b P e->Ch lt l b (P.modify i f) e
 | [],b,e,i,h=>by simpa using h
 | (x,n,w)::P,b,e,0,⟨h1,h2,h3,h4⟩=>by
  obtain⟨f1,f2⟩:=hf (x,n,w);rw[List.modify_zero_cons];revert f1 f2;generalize f (x,n,w)=z;obtain⟨x',n',w'⟩:=z;rintro rfl rfl;exact⟨h1,h2,h3,h4⟩
 | (x,n,w)::P,b,e,i+1,⟨h1,h2,h3,h4⟩=>by
  rw[List.modify_succ_cons];exact⟨h1,h2,h3,Ch.pw hf i h4⟩
theorem qz(C:fw M A E s κ It lt){l₀:List Keyed}{st:a14}{Q:Unit->a14->Prop}(iI:∀ x∈l₀,It x)(hD:a0i lt l₀)(hB:SB κ l₀ st)(hp:a09 st = #[])(h1:1<=l₀.length)(hQ:∀ st':a14,SB κ l₀ st'->(a10 st').toList.Pairwise (fun x y=>lt y x=false)->Q () st'):wpS M A E s sortRuns' Q st:=by
 have hsz:=hB.size;rw[sortRuns'_eq];refine a03 (a46 ?_);rw[hsz];refine a03 (a27 (a22 (I:=fun t c st'=>∃ lo,c=(none,lo)/\t<=lo/\lo<=l₀.length/\SP lt κ l₀ lo st') (Q:=fun c st'=>c=(none,l₀.length)/\SP lt κ l₀ l₀.length st') ?_ ?_ ⟨0,rfl,b1m _,b1m _,hB,by rw[hp];rfl⟩) ?_)
 .rintro t c st1 _ ht ⟨lo,rfl,h2,h3,sp⟩;dsimp only;by_cases c1:lo>=l₀.length
  .rw[if_pos c1];obtain rfl:lo=l₀.length:=by lia
   exact a06 ⟨rfl,sp⟩
  rw[if_neg c1];refine a03 (wl C sp.sb hD iI (by lia) (by lia) fun f st2 f1 f2 hB2 hp2 hlow2 sg2=>?_);dsimp only;have hz2:=hB2.size;have spOf:∀ st3:a14,SB κ l₀ st3->a09 st3=a09 st1->(∀ p,p<lo->(a10 st3)[p]?=(a10 st1)[p]?)->SP lt κ l₀ lo st3:=fun st3 b3 p3 l3=>⟨b3,by
   rw[p3];exact sp.ch.keep (by rw[a9d,a9d,b3.size,sp.sb.size]) fun p _ p2=>by rw[b1w,b1w];exact l3 p p2⟩
  by_cases c2:f<a55 l₀.length l₀.length 0
  .rw[if_pos c2];refine a03 (a70 (a30 ⟨rfl,?_⟩));refine a03 (M8 C hB2 iI f1 (by lia) (by lia) sg2 fun st3 kp3 sg3=>?_);rw[if_neg (by simp)];have nn1:1<=min (l₀.length - lo) (a55 l₀.length l₀.length 0):=by lia
   have nn2:lo+min (l₀.length - lo) (a55 l₀.length l₀.length 0)<=l₀.length:=by lia
   have sp3:=spOf st3 kp3.sb (kp3.pend.trans hp2) (fun p hp=>(kp3.low p hp).trans (hlow2 p hp));have rn:=sg3.run (by rw[kp3.sb.size];lia);refine a03 (a46 ?_);have push:∀ st6:a14,SP lt κ l₀ lo st6->xJ lt (a10 st6).toList lo (min (l₀.length - lo) (a55 l₀.length l₀.length 0))->SP lt κ l₀ (lo+(min (l₀.length - lo) (a55 l₀.length l₀.length 0))) (a97 st6 ((a09 st6).push (lo,(min (l₀.length - lo) (a55 l₀.length l₀.length 0)),0))):=fun st6 sp6 r6=>⟨⟨sp6.sb.kind,sp6.sb.fail,sp6.sb.perm⟩,by
    show Ch lt (a10 st6).toList 0 ((a09 st6).push (lo,(min (l₀.length - lo) (a55 l₀.length l₀.length 0)),0)).toList (lo+(min (l₀.length - lo) (a55 l₀.length l₀.length 0)));rw[b4h];exact Ch.app.mpr ⟨lo,sp6.ch,rfl,nn1,r6,rfl⟩⟩
   cases hb:(a09 st3).back? with
   | none=>
     exact a03 (a38 (a06 ⟨_,rfl,by lia,by lia,push st3 sp3 rn⟩))
   | some bk=>
     obtain⟨s1,n1,w1⟩:=bk;dsimp only;refine a03 (a27 (a22 (I:=fun _ c st'=>c=(none,())/\SP lt κ l₀ lo st'/\xJ lt (a10 st').toList lo (min (l₀.length - lo) (a55 l₀.length l₀.length 0))) (Q:=fun c st'=>c=(none,())/\SP lt κ l₀ lo st'/\xJ lt (a10 st').toList lo (min (l₀.length - lo) (a55 l₀.length l₀.length 0))) ?_ (fun c st' h=>h) ⟨rfl,sp3,rn⟩) ?_)
     .rintro t' c dQ _ _ ⟨rfl,sp4,r4⟩;refine a03 (a46 ?_);by_cases c5:(a09 dQ).size > 1
      .rw[if_pos c5,b1k (show (a09 dQ).size - 2<(a09 dQ).size by lia)];dsimp only;refine cR (a06 ⟨rfl,sp4,r4⟩) ?_;refine a03 (fF C iI sp4 (by lia) fun st5 sp5 _ _ k5=>?_);rw[if_neg (by simp)];refine a06 ⟨rfl,sp5,?_⟩;have hl5:(a10 st5).toList.length=(a10 dQ).toList.length:=by rw[a9d,a9d,sp5.sb.size,sp4.sb.size]
       exact (Ch.keep (lt:=lt) hl5 (P:=[(lo,(min (l₀.length - lo) (a55 l₀.length l₀.length 0)),0)]) (b:=lo) (e:=lo+(min (l₀.length - lo) (a55 l₀.length l₀.length 0))) ⟨rfl,nn1,r4,rfl⟩ fun p p1 _=>k5 p p1).2.2.1
      .rw[if_neg c5];exact a06 ⟨rfl,sp4,r4⟩
     .rintro c dQ ⟨rfl,sp4,r4⟩;dsimp only;refine a03 (a38 ?_);have sp5:∀ g:Nat×Nat×Nat->Nat×Nat×Nat,(∀ x,(g x).1=x.1/\(g x).2.1=x.2.1)->SP lt κ l₀ lo (a97 dQ ((a09 dQ).modify ((a09 dQ).size - 1) g)):=fun g hg=>⟨⟨sp4.sb.kind,sp4.sb.fail,sp4.sb.perm⟩,by
       show Ch lt (a10 dQ).toList 0 ((a09 dQ).modify ((a09 dQ).size - 1) g).toList lo;rw[b9v];exact Ch.pw hg _ sp4.ch⟩
      exact a03 (a38 (a06 ⟨_,rfl,by lia,by lia,push _ (sp5 _ fun x=>⟨rfl,rfl⟩) r4⟩))
  .rw[if_neg c2];have nn1:=f1;have sp3:=spOf st2 hB2 hp2 hlow2;have rn:=sg2.run (by rw[hz2];lia);refine a03 (a46 ?_);have push:∀ st6:a14,SP lt κ l₀ lo st6->xJ lt (a10 st6).toList lo (f)->SP lt κ l₀ (lo+(f)) (a97 st6 ((a09 st6).push (lo,(f),0))):=fun st6 sp6 r6=>⟨⟨sp6.sb.kind,sp6.sb.fail,sp6.sb.perm⟩,by
    show Ch lt (a10 st6).toList 0 ((a09 st6).push (lo,(f),0)).toList (lo+(f));rw[b4h];exact Ch.app.mpr ⟨lo,sp6.ch,rfl,nn1,r6,rfl⟩⟩
   cases hb:(a09 st2).back? with
   | none=>
     exact a03 (a38 (a06 ⟨_,rfl,by lia,by lia,push st2 sp3 rn⟩))
   | some bk=>
     obtain⟨s1,n1,w1⟩:=bk;dsimp only;refine a03 (a27 (a22 (I:=fun _ c st'=>c=(none,())/\SP lt κ l₀ lo st'/\xJ lt (a10 st').toList lo (f)) (Q:=fun c st'=>c=(none,())/\SP lt κ l₀ lo st'/\xJ lt (a10 st').toList lo (f)) ?_ (fun c st' h=>h) ⟨rfl,sp3,rn⟩) ?_)
     .rintro t' c dQ _ _ ⟨rfl,sp4,r4⟩;refine a03 (a46 ?_);by_cases c5:(a09 dQ).size > 1
      .rw[if_pos c5,b1k (show (a09 dQ).size - 2<(a09 dQ).size by lia)];dsimp only;refine cR (a06 ⟨rfl,sp4,r4⟩) ?_;refine a03 (fF C iI sp4 (by lia) fun st5 sp5 _ _ k5=>?_);rw[if_neg (by simp)];refine a06 ⟨rfl,sp5,?_⟩;have hl5:(a10 st5).toList.length=(a10 dQ).toList.length:=by rw[a9d,a9d,sp5.sb.size,sp4.sb.size]
       exact (Ch.keep (lt:=lt) hl5 (P:=[(lo,(f),0)]) (b:=lo) (e:=lo+(f)) ⟨rfl,nn1,r4,rfl⟩ fun p p1 _=>k5 p p1).2.2.1
      .rw[if_neg c5];exact a06 ⟨rfl,sp4,r4⟩
     .rintro c dQ ⟨rfl,sp4,r4⟩;dsimp only;refine a03 (a38 ?_);have sp5:∀ g:Nat×Nat×Nat->Nat×Nat×Nat,(∀ x,(g x).1=x.1/\(g x).2.1=x.2.1)->SP lt κ l₀ lo (a97 dQ ((a09 dQ).modify ((a09 dQ).size - 1) g)):=fun g hg=>⟨⟨sp4.sb.kind,sp4.sb.fail,sp4.sb.perm⟩,by
       show Ch lt (a10 dQ).toList 0 ((a09 dQ).modify ((a09 dQ).size - 1) g).toList lo;rw[b9v];exact Ch.pw hg _ sp4.ch⟩
      exact a03 (a38 (a06 ⟨_,rfl,by lia,by lia,push _ (sp5 _ fun x=>⟨rfl,rfl⟩) r4⟩))
 .rintro c st1 ⟨lo,rfl,h2,h3,sp⟩;rw[b3b] at h2;obtain rfl:lo=l₀.length:=by lia
  exact⟨rfl,sp⟩
 .rintro c st1 ⟨rfl,sp⟩;dsimp only;refine a03 (a27 (a22 (I:=fun t c st'=>c=(none,())/\SP lt κ l₀ l₀.length st'/\(a09 st').size<=l₀.length+1 - t) (Q:=fun c st'=>c=(none,())/\SP lt κ l₀ l₀.length st'/\(a09 st').size<=1) ?_ ?_ ⟨rfl,sp,?_⟩) ?_)
  .rintro t c st2 _ ht ⟨rfl,sp,hs⟩;refine a03 (a46 ?_);by_cases c1:(a09 st2).size<=1
   .rw[if_pos c1];exact a06 ⟨rfl,sp,c1⟩
   rw[if_neg c1];have key:∀ (i:Nat),i+1<(a09 st2).size->wpS M A E s (b29 i) (fun a st'=>a=true/\SP lt κ l₀ l₀.length st'/\(a09 st').size<=l₀.length+1 - (t+1)) st2:=fun i hi=>fF C iI sp hi fun st3 h3 h4 h5 _=>⟨rfl,h3,by lia⟩
   refine a03 (a27 (key _ ?_) ?_)
   .have:∀ (c:Prop) [Decidable c],(if c then (a09 st2).size - 2 - 1 else (a09 st2).size - 2)+1<(a09 st2).size:=fun c _=>by
     by_cases h:c
     .rw[if_pos h];lia
     .rw[if_neg h];lia
    exact this _
   .rintro b st3 ⟨rfl,h3,h4⟩;rw[if_neg (by simp)];exact a06 ⟨rfl,h3,h4⟩
  .rintro c st2 ⟨rfl,sp,hs⟩;rw[b3b] at hs;exact⟨rfl,sp,by lia⟩
  .have:=Ch.le sp.ch;rw[a9d] at this;lia
  .rintro c st2 ⟨rfl,sp,hs⟩;refine a06 (hQ st2 sp.sb ?_);have hc:=sp.ch;have hz:=sp.sb.size;rcases e:(a09 st2).toList with _ | ⟨⟨x,n,w⟩,_ | ⟨y,r⟩⟩
   .rw[e] at hc;have:0=l₀.length:=hc;lia
   .rw[e] at hc;obtain⟨h4,h5,h6,h7⟩:=hc;have h8:0+n=l₀.length:=h7;have:=h6.srt;rw[b5s,b1z (by rw[a9d];lia)] at this;exact this
   .have:(a09 st2).size=(a09 st2).toList.length:=a9d.symm;rw[e] at this;simp at this;lia
end
end Cv
namespace L2
open PySem PySem.Spec PyProof.Rows
section
variable {κ:Type} [DecidableEq κ]
noncomputable def valV(kvs:List (κ×V))(k:κ):Option V:=(kvs.find? fun kv=>decide (kv.1=k)).map (·.2)
theorem a6s{k:κ}:valV ([]:List (κ×V)) k=none:=rfl
end
end L2
namespace Cv
open PySem PySem.Spec PyProof.Rows L2
section
variable {X:Cx}
theorem uq(K:a8z)(hc:X.calm=true)(h:X.K=K:=by rfl):bP X (.builtin "all") (fun xs H Q=>∃ (p:Addr) (bs:List Bool),xs=[.ref p]/\o7 K H p (bs.map V.bl)/\Q (.bl (bs.all id)) H):=by subst h;exact xD hc
theorem oO(K:a8z)(h:X.K=K:=by rfl):bP X (.builtin "isinstance") (fun xs H Q=>∃ x C y c b,xs=[.ref x,y]/\H x=some (sk x (.ref C))/\K0 y=some c/\L5 K C/\b1i K (.ref C) c=some b/\Q (.bl b) H):=by subst h;exact K1
theorem z6(K:a8z)(h:X.K=K:=by rfl):bP X (.type "list") (fun xs H Q=>∃ p ys,xs=[.ref p]/\(o7 K H p ys\/aj K H p ys)/\∀ l,H l=none->Q (.ref l) (upd H l (.lst ys))):=by subst h;exact qe
theorem mZ(K:a8z)(h:X.K=K:=by rfl):bP X (.type "tuple") (fun xs H Q=>∃ p ys,xs=[.ref p]/\((o7 K H p ys/\∀ l,H l=none->Q (.ref l) (upd H l (.tup ys)))\/(aj K H p ys/\Q (.ref p) H))):=by subst h;exact nQ
end
noncomputable def lF(H:Hp)(v:V)(x y:Rat):Prop:=∃ a vx vy,v=.ref a/\H a=some (.tup [vx,vy])/\bh H vx x/\bh H vy y
theorem lF.same{H H':Hp}{v:V}{x y:Rat}(h:lF H v x y)(e:b9 H H'):lF H' v x y:=by
 obtain⟨a,vx,vy,rfl,h,h1,h2⟩:=h;exact⟨a,vx,vy,rfl,e _ _ h,h1.same e,h2.same e⟩
noncomputable def wf(H:Hp)(v:V)(t b:Int):Prop:=∃ a,v=.ref a/\H a=some (.tup [.int t,.int b])
theorem aQ{H:Hp}{p b:Addr}{o x:HO}(h:H p=none)(e:H b=some x):upd H p o b=some x:=by rw[i9 (n8 e h)];exact e
theorem lF.tup{H H':Hp}{v:V}{x y:Rat}(h:lF H v x y)(e:bR H H'):lF H' v x y:=by
 obtain⟨a,vx,vy,rfl,h,h1,h2⟩:=h;exact⟨a,vx,vy,rfl,e _ _ h,h1.tup e,h2.tup e⟩
theorem wf.tup{H H':Hp}{v:V}{x y:Int}(h:wf H v x y)(e:bR H H'):wf H' v x y:=by
 obtain⟨a,rfl,h⟩:=h;exact⟨a,rfl,e _ _ h⟩
theorem o7.same'{K:a8z}{H H':Hp}{a:Addr}{xs:List V}(h:o7 K H a xs)(e:b9 H H'):o7 K H' a xs:=e.seq h
theorem aj.same'{K:a8z}{H H':Hp}{a:Addr}{xs:List V}(h:aj K H a xs)(e:b9 H H'):aj K H' a xs:=aj.same e h
theorem Z7{b:Int}(h:0<b):(b:Rat)≠0:=by
 intro z;have:b=0:=by exact_mod_cast z
 lia
theorem nI{n m:Nat}{i j:Int}(h1:Sz n i)(h2:Sz m j)(h:n+m<=100000000):sr i j:=tD h1 h2 h
end Cv
namespace Cv
abbrev Pt:=Rat×Rat
noncomputable def dO(t a b:Rat):Rat:=a+t*(b - a)
noncomputable def ig(t:Rat)(p q:Pt):Pt:=(dO t p.1 q.1,dO t p.2 q.2)
noncomputable def gW(t:Rat)(ps:List Pt):List Pt:=b5p (ig t) ps (ps.drop 1)
noncomputable def iu(t:Rat)(ps:List Pt):Nat->List Pt
 | 0=>ps
 | r+1=>gW t (iu t ps r)
theorem aY(t:Rat)(ps:List Pt):(gW t ps).length=ps.length - 1:=by
 unfold gW;rw[b2m,b0e];lia
theorem aZ(t:Rat)(ps:List Pt)(i:Nat){p q:Pt}(h1:ps[i]?=some p)(h2:ps[i+1]?=some q):(gW t ps)[i]?=some (ig t p q):=by
 unfold gW;rw[b2e,b2r,h1,b8k 1 i,h2]
theorem jj(t:Rat)(ps:List Pt):∀ r,(iu t ps r).length=ps.length - r
 | 0=>rfl
 | r+1=>by
   show (gW t (iu t ps r)).length=_;rw[aY,jj t ps r];lia
noncomputable def pH(t:Rat)(ps:List Pt):Pt:=((iu t ps (ps.length - 1))[0]?).getD (0,0)
theorem O9(t:Rat)(ps:List Pt)(h:1<=ps.length):iu t ps (ps.length - 1)=[pH t ps]:=by
 have hl:=jj t ps (ps.length - 1);have e:(iu t ps (ps.length - 1)).length=1:=by lia
 match hq:iu t ps (ps.length - 1),e with
 | [x],_=>unfold pH;rw[hq];rfl
noncomputable def Ov(D:Int)(n:Nat)(x:Rat):Prop:=∃ m:Int,x*(D:Rat)=(m:Rat)/\Sz n m
theorem Ov.mono{D:Int}{n k:Nat}{x:Rat}(h:Ov D n x)(hk:n<=k):Ov D k x:=by
 obtain⟨m,e,z⟩:=h;exact⟨m,e,z.mono hk⟩
theorem Ov.bd{D:Int}{n d:Nat}{x:Rat}(h:Ov D n x)(hD:D≠0)(hd:Sz d D):Bd (max n d) x:=by
 obtain⟨m,e,z⟩:=h;rw[oE hD e];exact Bd.of z hd hD
noncomputable def ki(D:Int)(n:Nat)(p:Pt):Prop:=Ov D n p.1/\Ov D n p.2
end Cv
namespace Cv
open PySem PySem.Spec PyProof.Rows L2
structure aa(H:Hp)(vs:List V)(ps:List Pt):Prop where
 len:vs.length=ps.length
 get:∀ (i:Nat) v p,vs[i]?=some v->ps[i]?=some p->lF H v p.1 p.2
theorem aa.tup{H H':Hp}{vs:List V}{ps:List Pt}(h:aa H vs ps)(t:bR H H'):aa H' vs ps:=⟨h.len,fun i v p e1 e2=>(h.get i v p e1 e2).tup t⟩
theorem aa.same{H H':Hp}{vs:List V}{ps:List Pt}(h:aa H vs ps)(t:b9 H H'):aa H' vs ps:=h.tup t.tup
theorem aa.nil(H:Hp):aa H [] []:=⟨rfl,fun i v p e _=>by simp at e⟩
theorem aa.snoc{H:Hp}{vs:List V}{ps:List Pt}{v:V}{p:Pt}(h:aa H vs ps)(hv:lF H v p.1 p.2):aa H (vs++[v]) (ps++[p]):=by
 refine⟨by simp[h.len],fun i w q e1 e2=>?_⟩;by_cases hi:i<vs.length
 .rw[a9i hi] at e1;rw[a9i (by rw[<- h.len];exact hi)] at e2;exact h.get i w q e1 e2
 .rw[a9l (by lia)] at e1;rw[a9l (by rw[<- h.len];lia),<- h.len] at e2;cases hk:i - vs.length with
  | zero=>
    rw[hk] at e1 e2;simp at e1 e2;subst e1 e2;exact hv
  | succ k=>rw[hk] at e1;simp at e1
theorem aa.at{H:Hp}{vs:List V}{ps:List Pt}(h:aa H vs ps){i:Nat}{p:Pt}(hp:ps[i]?=some p):∃ v,vs[i]?=some v/\lF H v p.1 p.2:=by
 have hi:i<ps.length:=(a9c.mp hp).1;have e:vs[i]?=some (vs[i]'(by rw[h.len];exact hi)):=a8y _;exact⟨_,e,h.get i _ p e hp⟩
noncomputable def oH(p:Pt):b1p:=.tuple [gi p.1,gi p.2]
theorem rW(p:Pt)(n:Nat):a9y (n+2) (oH p)=true:=by
 have h1:=eO p.1 n;have h2:=eO p.2 n;simp[oH,a9y,h1,h2]
theorem lF.dn{K:a8z}{H:Hp}{v:V}{p:Pt}(h:lF H v p.1 p.2):Dn K H (oH p) v:=by
 obtain⟨a,vx,vy,rfl,h,h1,h2⟩:=h;unfold oH;simp only[Dn,bj];exact⟨a,_,rfl,aj.of h,_,_,rfl,h1.dn,_,_,rfl,h2.dn,rfl⟩
theorem cQ{α:Type}(xs:List α)(v:α)(h:xs[xs.length - 1]?=some v)(hl:1<=xs.length):nk xs (-1)=some v:=by
 rcases List.eq_nil_or_concat xs with rfl | ⟨ys,y,rfl⟩
 .simp at hl
 .have:(ys++[y])[ys.length]?=some v:=by simpa using h
  have e:y=v:=by simpa using this
  subst e;have:=K9 ys y;simpa using this
theorem z7{α:Type}{xs:List α}{j:Nat}{i:Int}{v:α}(e:i=(j:Int))(h:xs[j]?=some v):nk xs i=some v:=by subst e;exact qj h
theorem J6{α:Type}(f:α->V)(xs:List α)(k:Nat)(h:k<=xs.length):dN (xs.map f) (some (k:Int)) none=(xs.drop k).map f:=by
 unfold dN;have e:HT.cw (xs.map f).length 0 (some (k:Int))=k:=by
  have:=HT.pE (xs.map f).length 0 k;rw[a9a] at this;rw[a9a];exact this.trans (by lia)
 rw[e,HT.me,<- b7l];refine b1z ?_;rw[a9a,b0e,a9a];lia
theorem oK{α:Type}(f:α->V)(xs:List α)(k:Int)(n:Nat)(e:k=(n:Int))(h:n<=xs.length):dN (xs.map f) (some k) none=(xs.drop n).map f:=by subst e;exact J6 f xs n h
theorem dm{B m:Int}{n:Nat}(hB:B≠0)(h:Sz n m):Ov B n (a9e m B):=by
 refine⟨m,?_,h⟩;rw[b0t];have hb':(B:Rat)≠0:=by
  intro z;exact hB (by exact_mod_cast z)
 grind
theorem ak{H H':Hp}{D:Addr}{o:HO}(h:H D=none)(s:b9 H H'):b9 H (upd H' D o):=fun b u e=>by rw[i9 (n8 e h)];exact s b u e
end Cv
namespace Cv
noncomputable def j0:List Int->Int
 | []=>1
 | b::r=>b*j0 r
theorem pI(xs ys:List Int):j0 (xs++ys)=j0 xs*j0 ys:=by
 induction xs with
 | nil=>simp[j0]
 | cons x r ih=>simp only[b3d,j0,ih,b2q]
theorem fk(xs:List Int)(y:Int):j0 (xs++[y])=j0 xs*y:=by rw[pI];simp[j0]
theorem gU{xs:List Int}(h:∀ x∈xs,0<x):0<j0 xs:=by
 induction xs with
 | nil=>decide
 | cons x r ih=>exact b1b (h x (.head _)) (ih fun y hy=>h y (.tail _ hy))
noncomputable def K8(tops bs:List Int):List Rat:=tops.map fun x=>a9e x (j0 bs)
theorem vJ{y x u:Int}(hc:a9r y x=1)(h:y∣x*u):y∣u:=by
 have h2:y.natAbs∣x.natAbs*u.natAbs:=by rw[<- b3q];exact b3i.mpr h
 exact b3i.mp (b6c.dvd_of_dvd_mul_left hc h2)
theorem oB(a b:Int)(hb:0<b):∃ g x y:Int,(a9r a b:Int)=g/\0<g/\a=g*x/\b=g*y/\a9r x y=1/\0<y/\a.fdiv g=x/\b.fdiv g=y:=by
 have g0:0<(a9r a b:Int):=by
  have:=b6y a (show b≠0 by lia);lia
 obtain⟨x,hx⟩ : (a9r a b:Int)∣a:=b6d ..;obtain⟨y,hy⟩ : (a9r a b:Int)∣b:=b7p ..;have hc:a9r x y=1:=by
  have h1:a9r a b=a9r ((a9r a b:Int)*x) ((a9r a b:Int)*y):=by rw[<- hx,<- hy]
  rw[Int.gcd_mul_left,b5m] at h1;have h2:0<a9r a b:=by lia
  have h3:a9r a b*1=a9r a b*a9r x y:=by rw[Nat.mul_one];exact h1
  exact (Nat.eq_of_mul_eq_mul_left h2 h3).symm
 generalize (a9r a b:Int)=g at g0 hx hy;have hyp:0<y:=by
  rw[hy] at hb;rcases b7q y 0 with h | h | h
  .have:=b5c g0 h;lia
  .rw[h,Int.mul_zero] at hb;lia
  .exact h
 refine⟨g,x,y,rfl,g0,hx,hy,hc,hyp,?_,?_⟩
 .rw[b0v _ (b3j g0),hx];exact b1e _ (by lia)
 .rw[b0v _ (b3j g0),hy];exact b1e _ (by lia)
theorem wP{bi below b:Int}(hb:0<b)(hbe:0<below)(hg:a9r bi below=1) :
 a9r (bi.fdiv (a9r bi b)) (below*b.fdiv (a9r bi b))=1/\0<below*b.fdiv (a9r bi b)/\bi.fdiv (a9r bi b)*b=bi*b.fdiv (a9r bi b)/\0<(a9r bi b:Int)/\(a9r bi b:Int)∣b:=by
 obtain⟨g,x,y,eg,g0,hx,hy,hc,hyp,ex,ey⟩:=oB bi b hb;rw[eg,ex,ey];refine⟨?_,b1b hbe hyp,?_,g0,⟨y,hy⟩⟩
 .have h1:a9r x below=1:=by
   have d1:((a9r x below:Nat):Int)∣bi:=b3o (b6d ..) ⟨g,by rw[hx];exact b1f ..⟩;have d2:((a9r x below:Nat):Int)∣below:=b7p ..;have d3:a9r x below∣a9r bi below:=Nat.dvd_gcd (by simpa using b3i.mpr d1) (by simpa using b3i.mpr d2);rw[hg] at d3;exact Nat.dvd_one.mp d3
  show Nat.gcd x.natAbs (below*y).natAbs=1;rw[b3q];exact b6c.mul_right (show b6c x.natAbs below.natAbs from h1) (show b6c x.natAbs y.natAbs from hc)
 .rw[hx,hy];grind
theorem tK{bi below P T:Int}(hb:0<below)(hP:0<P)(hg:a9r bi below=1)(e:bi*P=T*below):(a9e T P).num=bi/\((a9e T P).den:Int)=below:=by
 have hc:b6c bi.natAbs below.natAbs:=hg;have hc':b6c bi.natAbs below.toNat:=by
  have:below.toNat=below.natAbs:=by lia
  rw[this];exact hc
 have q:(⟨bi,below.toNat,by lia,hc'⟩ : Rat)=a9e T P:=by
  rw[Rat.mk_eq_divInt];have e2:((below.toNat:Nat):Int)=below:=by lia
  rw[e2];exact (Rat.divInt_eq_divInt_iff (by lia) (by lia)).mpr e
 rw[<- q];exact⟨rfl,by show ((below.toNat:Nat):Int)=below;lia⟩
theorem em{q:Rat}{D:Int}{n:Nat}(h:Ov D n q):(q.den:Int)∣D:=by
 obtain⟨m,e,_⟩:=h;have h1:=fW q;have hd:=rV q;have e2:(q.num:Rat)*(D:Rat)=(m:Rat)*((q.den:Int):Rat):=by rw[h1,<- e];grind
 have e3:q.num*D=m*q.den:=by exact_mod_cast e2
 have hr:a9r q.den q.num=1:=by rw[b8l];exact q.reduced
 exact vJ hr ⟨m,by rw[e3];exact b1f ..⟩
theorem rE{W d D:Int}(hd:0<d)(h1:W∣D)(h2:d∣D):d∣W*d.fdiv (a9r W d)/\W*d.fdiv (a9r W d)∣D/\0<d.fdiv (a9r W d)/\0<(a9r W d:Int)/\(a9r W d:Int)∣d:=by
 obtain⟨g,x,y,eg,g0,hx,hy,hc,hyp,ex,ey⟩:=oB W d hd;rw[eg,ey];refine⟨⟨x,by rw[hx,hy];grind⟩,?_,hyp,g0,⟨y,hy⟩⟩;obtain⟨u,hu⟩:=h1;obtain⟨v,hv⟩:=h2;have e:x*u=y*v:=by
  have:g*(x*u)=g*(y*v):=by rw[<- b2q,<- b2q,<- hx,<- hy,<- hu,hv]
  exact Int.eq_of_mul_eq_mul_left (by lia) this
 obtain⟨w,hw⟩:=vJ (y:=y) (x:=x) (u:=u) (by rw[b8l];exact hc) ⟨v,e⟩;exact⟨w,by rw[hu,hw];grind⟩
theorem im{n:Nat}{x D:Int}(hD:D≠0)(h:x∣D)(z:Sz n D):Sz n x:=z.le (b9t (by lia) (b3i.mpr h))
end Cv
namespace Cv
open PySem PySem.Spec PyProof.Rows L2
structure iE(H:Hp)(vs:List V)(qs:List Rat):Prop where
 len:vs.length=qs.length
 get:∀ (i:Nat) v q,vs[i]?=some v->qs[i]?=some q->bh H v q
theorem iE.tup{H H':Hp}{vs:List V}{qs:List Rat}(h:iE H vs qs)(t:bR H H'):iE H' vs qs:=⟨h.len,fun i v q e1 e2=>(h.get i v q e1 e2).tup t⟩
theorem iE.same{H H':Hp}{vs:List V}{qs:List Rat}(h:iE H vs qs)(t:b9 H H'):iE H' vs qs:=h.tup t.tup
theorem iE.atV{H:Hp}{vs:List V}{qs:List Rat}(h:iE H vs qs){i:Nat}{v:V}(hv:vs[i]?=some v):∃ q,qs[i]?=some q/\bh H v q:=by
 have hi:i<vs.length:=(a9c.mp hv).1;have e:qs[i]?=some (qs[i]'(by rw[<- h.len];exact hi)):=a8y _;exact⟨_,e,h.get i v _ hv e⟩
theorem aa.atV{H:Hp}{vs:List V}{ps:List Pt}(h:aa H vs ps){i:Nat}{v:V}(hv:vs[i]?=some v):∃ p,ps[i]?=some p/\lF H v p.1 p.2:=by
 have hi:i<vs.length:=(a9c.mp hv).1;have e:ps[i]?=some (ps[i]'(by rw[<- h.len];exact hi)):=a8y _;exact⟨_,e,h.get i v _ hv e⟩
noncomputable def xP(H:Hp)(v:V)(n:Nat)(tops bs:List Int):Prop:=∃ a lt lb,v=.ref a/\H a=some (.tup [.ref lt,.ref lb])/\H lt=some (.lst (tops.map V.int))/\H lb=some (.lst (bs.map V.int))/\(∀ x∈tops,Sz n x)/\(∀ b∈bs,0<b/\Sz 9000 b)/\bs.length<=100/\tops.length<=1000
theorem xP.same{H H':Hp}{v:V}{n:Nat}{tops bs:List Int}(h:xP H v n tops bs)(s:b9 H H'):xP H' v n tops bs:=by
 obtain⟨a,lt,lb,e,h1,h2,h3,h4⟩:=h;exact⟨a,lt,lb,e,s _ _ h1,s _ _ h2,s _ _ h3,h4⟩
noncomputable def qQ(K:a8z):Sp:=fun vs H Q _=>∃ (a:Addr) (ws:List V) (qs:List Rat) (D:Int),vs=[.ref a]/\o7 K H a ws/\iE H ws qs/\0<D/\Sz 9000 D/\(∀ q∈qs,(q.den:Int)∣D)/\qs.length<=40/\
 ∀ (l:Addr) (bs:List Int) (H':Hp),b9 H H'->H' l=some (.lst (bs.map V.int))->(∀ b∈bs,0<b/\Sz 9000 b)->(∀ q∈qs,(q.den:Int)∣j0 bs)->j0 bs∣D->bs.length<=qs.length->Q (.ref l) H'
noncomputable def gw(K:a8z):Sp:=fun vs H Q _=>∃ (a:Addr) (bs:List Int),vs=[.ref a]/\o7 K H a (bs.map V.int)/\(∀ b∈bs,0<b/\Sz 9000 b)/\bs.length<=100/\Q (.int (j0 bs)) H
noncomputable def oh(K:a8z):Sp:=fun vs H Q _=>∃ (bi:Int) (a:Addr) (bs:List Int),vs=[.int bi,.ref a]/\o7 K H a (bs.map V.int)/\(∀ b∈bs,0<b/\Sz 9000 b)/\bs.length<=100/\∀ v H',b9 H H'->bh H' v (a9e bi (j0 bs))->Q v H'
theorem Q4{bs:List Int}(h:∀ b∈bs,0<b/\Sz 9000 b):Sz (9000*bs.length+1) (j0 bs):=by
 induction bs with
 | nil=>exact⟨by decide⟩
 | cons b r ih=>
   show Sz _ (b*j0 r);exact ((h b (.head _)).2.mul (ih fun c hc=>h c (.tail _ hc))).mono (by rw[b0r];lia)
theorem a2g{q:Rat}{W:Int}(hW:0<W)(h:(q.den:Int)∣W):a9e (q.num*W.fdiv q.den) W=q:=by
 have hd:0<(q.den:Int):=by have:=q.den_pos;lia
 obtain⟨w,hw⟩:=h;have e:W.fdiv q.den=w:=by
  rw[b0v _ (b3j hd)]
  conv=>lhs;rw[hw]
  exact b1e _ (by lia)
 rw[e];symm;refine oE (by lia) ?_;have h1:=fW q;rw[hw];simp only[a9u];rw[h1];grind
theorem pF{n:Nat}{W d:Int}(hW:0<W)(hd:0<d)(h:d∣W)(z:Sz n W):Sz n (W.fdiv d):=by
 obtain⟨w,hw⟩:=h;have e:W.fdiv d=w:=by
  rw[b0v _ (b3j hd)]
  conv=>lhs;rw[hw]
  exact b1e _ (by lia)
 rw[e];exact im (by lia) ⟨d,by rw[hw];exact b1f ..⟩ z
theorem vI{bs:List Int}{i:Nat}{x:V}(h:(bs.map V.int)[i]?=some x):∃ b,bs[i]?=some b/\x=.int b:=by
 rw[a9h] at h;cases e:bs[i]? with
 | none=>rw[e] at h;cases h
 | some b=>rw[e] at h;cases h;exact⟨b,rfl,rfl⟩
theorem jH{α:Type}{bs:List α}{i:Nat}{b:α}(h:bs[i]?=some b):bs.take (i+1)=bs.take i++[b]:=by rw[b4j,h];rfl
theorem lD(t b:List Int):(K8 t b).length=t.length:=by unfold K8;rw[a9a]
theorem W7{α:Type}{ys:List V}{qs:List α}{f:α->Int}(hl:ys.length=qs.length)(h:∀ (i:Nat) v,ys[i]?=some v->∀ q,qs[i]?=some q->v=.int (f q)):ys=(qs.map f).map V.int:=by
 refine b1j fun i=>?_;rw[a9h,a9h];cases e:ys[i]? with
 | none=>
   have:qs[i]?=none:=a9v (by have:=b4z.mp e;lia);rw[this];rfl
 | some v=>
   have hi:i<qs.length:=by have:=(a9c.mp e).1;lia
   have e2:qs[i]?=some qs[i]:=a8y hi;rw[h i v e _ e2,e2];rfl
theorem K7{qs:List Rat}{bs:List Int}(hb:0<j0 bs)(h:∀ q∈qs,(q.den:Int)∣j0 bs):K8 (qs.map fun q=>q.num*(j0 bs).fdiv q.den) bs=qs:=by
 unfold K8;rw[b2h]
 conv=>rhs;rw[<- c0t qs]
 refine b1v fun q hq=>?_;exact a2g hb (h q hq)
theorem iE.map{H:Hp}{ys:List V}{ps:List Pt}{f:Pt->Rat}(hl:ys.length=ps.length)(h:∀ (i:Nat) v,ys[i]?=some v->∀ p,ps[i]?=some p->bh H v (f p)):iE H ys (ps.map f):=by
 refine⟨by rw[hl,a9a],fun i v q e1 e2=>?_⟩;rw[a9h] at e2;cases e3:ps[i]? with
 | none=>rw[e3] at e2;cases e2
 | some p=>rw[e3] at e2;cases e2;exact h i v e1 p e3
theorem C6{t:List Int}{i:Nat}{x:Int}(h:t[i]?=some x):((t.map V.int)[i]?).getD V.non=.int x:=by rw[a9h,h];rfl
noncomputable def au(ts:List Rat)(ps:List Pt):List Pt:=ts.foldl (fun r t=>gW t r) ps
noncomputable def fQ(ts:List Rat)(ps:List Pt):Pt:=((au ts ps)[0]?).getD (0,0)
theorem fN(ts:List Rat)(t:Rat)(ps:List Pt):au (ts++[t]) ps=gW t (au ts ps):=by unfold au;rw[c0o];rfl
theorem iq(ts:List Rat)(ps:List Pt):(au ts ps).length=ps.length - ts.length:=by
 induction ts generalizing ps with
 | nil=>simp[au]
 | cons t r ih=>
   show (au r (gW t ps)).length=_;rw[ih,aY,b0r];lia
theorem dD(t:Rat)(ps:List Pt):∀ r,au (a9s r t) ps=iu t ps r
 | 0=>rfl
 | r+1=>by
   rw[b6h,fN,dD t ps r];rfl
theorem mw(ts:List Rat)(ps:List Pt)(h:ps.length=ts.length+1):au ts ps=[fQ ts ps]:=by
 have hl:=iq ts ps;have e:(au ts ps).length=1:=by lia
 match hq:au ts ps,e with
 | [x],_=>unfold fQ;rw[hq];rfl
noncomputable def a2p(s t:Rat)(ps:List Pt)(k:Nat):Pt:=fQ (a9s (ps.length - 1 - k) s++a9s k t) ps
noncomputable def cg(t:Rat)(ps:List Pt):List Pt:=(b0y ps.length).map fun r=>((iu t ps r)[0]?).getD (0,0)
noncomputable def dH(t:Rat)(ps:List Pt):List Pt:=(b0y ps.length).map fun k=>((iu t ps (ps.length - 1 - k))[k]?).getD (0,0)
theorem tU(t:Rat)(ps:List Pt):(cg t ps).length=ps.length:=by unfold cg;rw[a9a,b1d]
theorem xl(t:Rat)(ps:List Pt):(dH t ps).length=ps.length:=by unfold dH;rw[a9a,b1d]
theorem K5(s t a b c:Rat):dO s (dO t a b) (dO t b c)=dO t (dO s a b) (dO s b c):=by unfold dO;grind
theorem zM(s t:Rat)(ps:List Pt):gW s (gW t ps)=gW t (gW s ps):=by
 have hl:(gW s (gW t ps)).length=(gW t (gW s ps)).length:=by simp only[aY]
 refine b1j fun i=>?_;by_cases hi:i+2<ps.length
 .have e0:ps[i]?=some (ps[i]'(by omega (config:={}))):=a8y _;have e1:ps[i+1]?=some (ps[i+1]'(by omega (config:={}))):=a8y _;have e2:ps[i+1+1]?=some (ps[i+1+1]'(by omega (config:={}))):=a8y _;rw[aZ s _ i (aZ t ps i e0 e1) (aZ t ps (i+1) e1 e2),aZ t _ i (aZ s ps i e0 e1) (aZ s ps (i+1) e1 e2)];unfold ig;simp only[K5]
 .have h1:(gW s (gW t ps))[i]?=none:=a9v (by simp only[aY];lia);have h2:(gW t (gW s ps))[i]?=none:=a9v (by simp only[aY];lia);rw[h1,h2]
theorem aJ(t:Rat)(ts:List Rat)(ps:List Pt):au (t::ts) ps=au ts (gW t ps):=rfl
theorem ks{ts us:List Rat}(h:ts.Perm us)(ps:List Pt):au ts ps=au us ps:=by
 induction h generalizing ps with
 | nil=>rfl
 | cons x _ ih=>rw[aJ,aJ];exact ih _
 | swap x y l=>rw[aJ,aJ,aJ,aJ,zM]
 | trans _ _ ih1 ih2=>rw[ih1,ih2]
theorem ow{ts us:List Rat}(h:ts.Perm us)(ps:List Pt):fQ ts ps=fQ us ps:=by unfold fQ;rw[ks h ps]
theorem a5n(xs:List V)(k:Int)(n:Nat)(e:k=(n:Int)):dN xs none (some k)=xs.take n:=by
 subst e;unfold dN;rw[HT.pE,HT.me,b5s,c0h];rw[List.take_eq_take_iff];lia
end Cv
namespace Cv
noncomputable def mX(u:Rat)(A B:List Pt):List Pt:=b5p (ig u) A B
theorem mW(u:Rat)(A B:List Pt):(mX u A B).length=min A.length B.length:=by unfold mX;rw[b2m]
theorem jw{u:Rat}{A B:List Pt}{i:Nat}{a b:Pt}(h1:A[i]?=some a)(h2:B[i]?=some b):(mX u A B)[i]?=some (ig u a b):=by unfold mX;rw[b2e,h1,h2]
theorem Z9(u s t a b:Rat):dO (dO u s t) a b=dO u (dO s a b) (dO t a b):=by unfold dO;grind
theorem K4(u t a b c d:Rat):dO t (dO u a b) (dO u c d)=dO u (dO t a c) (dO t b d):=by unfold dO;grind
theorem U5(u s t:Rat)(ps:List Pt):gW (dO u s t) ps=mX u (gW s ps) (gW t ps):=by
 refine b1j fun i=>?_;by_cases hi:i+1<ps.length
 .have e0:ps[i]?=some (ps[i]'(by omega (config:={}))):=a8y _;have e1:ps[i+1]?=some (ps[i+1]'(by omega (config:={}))):=a8y _;rw[aZ _ ps i e0 e1,jw (aZ s ps i e0 e1) (aZ t ps i e0 e1)];unfold ig;simp only[Z9]
 .rw[a9v (by rw[aY];lia),a9v (by rw[mW,aY,aY];lia)]
theorem zN(t u:Rat)(A B:List Pt)(h:A.length=B.length):gW t (mX u A B)=mX u (gW t A) (gW t B):=by
 refine b1j fun i=>?_;by_cases hi:i+1<A.length
 .have a0:A[i]?=some (A[i]'(by omega (config:={}))):=a8y _;have a1:A[i+1]?=some (A[i+1]'(by omega (config:={}))):=a8y _;have b0:B[i]?=some (B[i]'(by omega (config:={}))):=a8y _;have b1:B[i+1]?=some (B[i+1]'(by omega (config:={}))):=a8y _;rw[aZ t _ i (jw a0 b0) (jw a1 b1),jw (aZ t A i a0 a1) (aZ t B i b0 b1)];unfold ig;simp only[K4]
 .rw[a9v (by rw[aY,mW];lia),a9v (by rw[mW,aY,aY];lia)]
theorem ku(u:Rat):∀ (ts:List Rat) (A B:List Pt),A.length=B.length->au ts (mX u A B)=mX u (au ts A) (au ts B)
 | [],_,_,_=>rfl
 | t::r,A,B,h=>by
   rw[aJ,aJ,aJ,zN t u A B h];exact ku u r _ _ (by rw[aY,aY,h])
theorem yL(u s t:Rat)(ts:List Rat)(ps:List Pt)(h:ps.length=ts.length+2):fQ (dO u s t::ts) ps=ig u (fQ (s::ts) ps) (fQ (t::ts) ps):=by
 have e:au (dO u s t::ts) ps=mX u (au (s::ts) ps) (au (t::ts) ps):=by
  rw[aJ,U5,ku u ts _ _ (by rw[aY,aY])];rfl
 have h1:=mw (s::ts) ps (by rw[b0r];lia);have h2:=mw (t::ts) ps (by rw[b0r];lia);have h3:=mw (dO u s t::ts) ps (by rw[b0r];lia);rw[h1,h2,h3] at e;simp[mX] at e;exact e
noncomputable def kH(s t:Rat)(ps:List Pt):List Pt:=(b0y ps.length).map (a2p s t ps)
theorem qH(s t:Rat)(ps:List Pt):(kH s t ps).length=ps.length:=by unfold kH;rw[a9a,b1d]
theorem yS(r n k:Nat)(w s t:Rat):(a9s r w++(a9s (n+1) s++a9s k t)).Perm (s::(a9s r w++(a9s n s++a9s k t))):=by
 rw[b6v,b3d];exact b8a
theorem yT(r n k:Nat)(w s t:Rat):(a9s r w++(a9s n s++a9s (k+1) t)).Perm (t::(a9s r w++(a9s n s++a9s k t))):=by
 rw[b6v,<- a9z];refine b8a.trans ?_;rw[a9z]
theorem lJ(u s t:Rat)(ps:List Pt):∀ r k,r+k<ps.length->(iu u (kH s t ps) r)[k]?=some (fQ (a9s r (dO u s t)++(a9s (ps.length - 1 - r - k) s++a9s k t)) ps)
 | 0,k,h=>by
   show (kH s t ps)[k]?=_;unfold kH;rw[a9h,b3r (by lia)];rfl
 | r+1,k,h=>by
   have h1:=lJ u s t ps r k (by lia);have h2:=lJ u s t ps r (k+1) (by lia);show (gW u (iu u (kH s t ps) r))[k]?=_;rw[aZ u _ k h1 h2];have e1:ps.length - 1 - r - k=(ps.length - 1 - (r+1) - k)+1:=by lia
   have e2:ps.length - 1 - r - (k+1)=ps.length - 1 - (r+1) - k:=by lia
   rw[e1,e2,ow (yS r _ k _ s t) ps,ow (yT r _ k _ s t) ps];have hm:=yL u s t (a9s r (dO u s t)++(a9s (ps.length - 1 - (r+1) - k) s++a9s k t)) ps (by simp;lia);rw[<- hm];rw[b6v,b3d]
theorem uO(u s t:Rat)(ps:List Pt)(h:1<=ps.length):pH u (kH s t ps)=pH (dO u s t) ps:=by
 have h1:=lJ u s t ps (ps.length - 1) 0 (by lia);have h2:=O9 u (kH s t ps) (by rw[qH];exact h);rw[qH] at h2;rw[h2] at h1;have e0:ps.length - 1 - (ps.length - 1) - 0=0:=by lia
 rw[e0] at h1;simp only[List.replicate_zero,b2u,b8g,a9t.injEq] at h1;rw[h1];have h3:=dD (dO u s t) ps (ps.length - 1);unfold fQ pH;rw[h3]
theorem K3(a b:Rat):dO 0 a b=a:=by unfold dO;grind
theorem Z8(a b:Rat):dO 1 a b=b:=by unfold dO;grind
theorem zL(ps:List Pt)(i:Nat)(h:i+1<ps.length):(gW 0 ps)[i]?=ps[i]?:=by
 have e0:ps[i]?=some (ps[i]'(by omega (config:={}))):=a8y _;have e1:ps[i+1]?=some (ps[i+1]'(by omega (config:={}))):=a8y _;rw[aZ 0 ps i e0 e1,e0];unfold ig;simp only[K3]
theorem U4(ps:List Pt)(i:Nat)(h:i+1<ps.length):(gW 1 ps)[i]?=ps[i+1]?:=by
 have e0:ps[i]?=some (ps[i]'(by omega (config:={}))):=a8y _;have e1:ps[i+1]?=some (ps[i+1]'(by omega (config:={}))):=a8y _;rw[aZ 1 ps i e0 e1,e1];unfold ig;simp only[Z8]
theorem jM(ps:List Pt):∀ r i,r+i<ps.length->(au (a9s r 0) ps)[i]?=ps[i]?
 | 0,i,h=>rfl
 | r+1,i,h=>by
   rw[b6h,fN,zL _ i (by rw[iq,b0z];lia)];exact jM ps r i (by lia)
theorem mf(ps:List Pt):∀ r i,r+i<ps.length->(au (a9s r 1) ps)[i]?=ps[i+r]?
 | 0,i,h=>rfl
 | r+1,i,h=>by
   rw[b6h,fN,U4 _ i (by rw[iq,b0z];lia),mf ps r (i+1) (by lia)];congr 1;lia
theorem ij(ts us:List Rat)(ps:List Pt):au (ts++us) ps=au us (au ts ps):=by unfold au;rw[c0o]
theorem tS(t:Rat)(ps:List Pt):cg t ps=kH 0 t ps:=by
 unfold cg kH;refine b1v fun k hk=>?_;have hk':=b1c.mp hk;unfold a2p fQ;rw[ks (b6b) ps,ij,dD t ps k,jM _ _ 0 (by rw[jj];lia)]
theorem xk(t:Rat)(ps:List Pt):dH t ps=kH t 1 ps:=by
 unfold dH kH;refine b1v fun k hk=>?_;have hk':=b1c.mp hk;unfold a2p fQ;rw[ij,dD t ps,mf _ _ 0 (by rw[jj];lia),b5q]
theorem rR(u t:Rat)(ps:List Pt)(h:1<=ps.length):pH u (cg t ps)=pH (t*u) ps:=by
 rw[tS,uO u 0 t ps h];congr 1;unfold dO;grind
theorem vF(u t:Rat)(ps:List Pt)(h:1<=ps.length):pH u (dH t ps)=pH (dO u t 1) ps:=by
 rw[xk,uO u t 1 ps h]
end Cv
namespace Cv
open PySem PySem.Spec PyProof.Rows L2
section
variable {X:Cx}
theorem xC:bP X (.type "int") (fun xs H Q=>∃ b:Bool,xs=[.bl b]/\Q (.int (if b=true then 1 else 0)) H):=by
 intro c2t s σ H xs us Q I r h;obtain⟨b,rfl,q⟩:=h;obtain⟨u,rfl,rx⟩:=qC r;cases rx;exact call_int_bool ⟨.int _,H,I.kept (t':=s.toks+1) fun b ob q=>q,⟨_,rfl⟩,q⟩
end
theorem yB(t:Rat)(ps:List Pt):fQ (a9s (ps.length - 1) t) ps=pH t ps:=by
 unfold fQ pH;rw[dD]
theorem iE.nil(H:Hp):iE H [] []:=⟨rfl,fun i v q e=>by simp at e⟩
theorem iE.snoc{H:Hp}{vs:List V}{qs:List Rat}{v:V}{q:Rat}(h:iE H vs qs)(hv:bh H v q):iE H (vs++[v]) (qs++[q]):=by
 refine⟨by rw[a9b,a9b,h.len];rfl,fun i x y e1 e2=>?_⟩;have hl:=h.len;by_cases hi:i<vs.length
 .rw[a9i hi] at e1;rw[a9i (by lia)] at e2;exact h.get i x y e1 e2
 .rw[a9l (by lia)] at e1 e2;rw[hl] at e1;match hj:i - qs.length,e1,e2 with
  | 0,e1,e2=>cases e1;cases e2;exact hv
  | j+1,e1,e2=>simp at e1
theorem len2{α:Type}{l:List α}(h:l.length=2):∃ x y,l=[x,y]:=by
 match l,h with
 | [x,y],_=>exact⟨x,y,rfl⟩
noncomputable def sm(f:Nat->Rat):Nat->Rat
 | 0=>0
 | n+1=>sm f n+f n
theorem ml{α:Type}(f:Nat->α)(n:Nat):(b0y (n+1)).map f=(b0y n).map f++[f n]:=by rw[b6m,b2w];rfl
theorem vo(ps:List Pt){p:Pt}(h:ps[0]?=some p):pH 0 ps=p:=by
 have hl:0<ps.length:=(a9c.mp h).1;rw[<- yB];unfold fQ;rw[jM _ _ 0 (by lia),h];rfl
theorem a3a(ps:List Pt){p:Pt}(h:ps[ps.length - 1]?=some p):pH 1 ps=p:=by
 have hl:=(a9c.mp h).1;rw[<- yB];unfold fQ;rw[mf _ _ 0 (by lia),b5q,h];rfl
theorem J5(xs:List V)(h:1<=xs.length):dN xs (some 1) none=xs.drop 1:=by
 have:=oK (fun v:V=>v) xs 1 1 rfl h;simpa using this
section
variable {X:Cx}
theorem ke(hc:X.calm=true):bP X (.builtin "min") (fun xs H Q=>∃ (p:Addr) (ns:List Int),xs=[.ref p]/\o7 X.K H p (ns.map V.int)/\0<ns.length/\∀ M,M∈ns->(∀ a∈ns,M<=a)->Q (.int M) H):=by
 intro c2t s σ H xs us Q I r h;obtain⟨p,ns,rfl,hq,hne,q⟩:=h;obtain⟨u,rfl,ru⟩:=fG r;cases ru;obtain⟨its,rv,pl,hz⟩:=I.list hq;have hi:a78 its ns:=mH rv;obtain⟨ys,e⟩:=hi.allInts.items;have hns:ns=ys.toList.map (·.1):=by rw[<- hi.numsOf,<- nums_intItems,<- e]
 have hsz:0<ys.size:=by have h3:=hne;rw[hns,a9a,a9d] at h3;exact h3
 have hl':s.heap.IsList p (intItems ys):=e ▸ pl.isList;refine min_intList (show X.A.handled=none from I.ok.hd hc) hl' hsz fun v h' tk hv hk=>?_;obtain⟨t,rfl⟩:=intItems_at hv;obtain⟨h1,h2⟩:=argBest_lt (numAt ys) (ys.size - 1);refine⟨.int _,H,I.kept (h':=h') (t':=tk) hk,⟨_,rfl⟩,q _ ?_ fun a ha=>?_⟩
 .rw[hns,b28];exact getD_mem (by rw[a9a,a9d];lia)
 .rw[hns] at ha;obtain⟨j,hj,rfl⟩:=mem_getD ha;rw[a9a,a9d] at hj;rw[<- b28];exact h2 j (by lia)
theorem kf(hc:X.calm=true):bP X (.builtin "max") (fun xs H Q=>∃ (p:Addr) (ns:List Int),xs=[.ref p]/\o7 X.K H p (ns.map V.int)/\0<ns.length/\∀ M,M∈ns->(∀ a∈ns,a<=M)->Q (.int M) H):=by
 intro c2t s σ H xs us Q I r h;obtain⟨p,ns,rfl,hq,hne,q⟩:=h;obtain⟨u,rfl,ru⟩:=fG r;cases ru;obtain⟨its,rv,pl,hz⟩:=I.list hq;have hi:a78 its ns:=mH rv;obtain⟨ys,e⟩:=hi.allInts.items;have hns:ns=ys.toList.map (·.1):=by rw[<- hi.numsOf,<- nums_intItems,<- e]
 have hsz:0<ys.size:=by have h3:=hne;rw[hns,a9a,a9d] at h3;exact h3
 have hl':s.heap.IsList p (intItems ys):=e ▸ pl.isList;refine max_intList (show X.A.handled=none from I.ok.hd hc) hl' hsz fun v h' tk hv hk=>?_;obtain⟨t,rfl⟩:=intItems_at hv;obtain⟨h1,h2⟩:=argBest_gt (numAt ys) (ys.size - 1);refine⟨.int _,H,I.kept (h':=h') (t':=tk) hk,⟨_,rfl⟩,q _ ?_ fun a ha=>?_⟩
 .rw[hns,b28];exact getD_mem (by rw[a9a,a9d];lia)
 .rw[hns] at ha;obtain⟨j,hj,rfl⟩:=mem_getD ha;rw[a9a,a9d] at hj;rw[<- b28];exact h2 j (by lia)
end
theorem jm{D:Int}{n d:Nat}{p:Pt}(hD:0<D)(zD:Sz d D)(h:ki D n p)(k:Nat)(h1:n<=k)(h2:d<=k):Bd k p.1/\Bd k p.2:=
 ⟨(h.1.bd (by lia) zD).mono (by lia),(h.2.bd (by lia) zD).mono (by lia)⟩
theorem jP{D:Int}{n d:Nat}{x:Rat}(hD:0<D)(zD:Sz d D)(h:Ov D n x)(k:Nat)(h1:n<=k)(h2:d<=k):Bd k x:=(h.bd (by lia) zD).mono (by lia)
section
variable {prog:a15} {w:a20} {A:a19} {E:Value->a01->Prop}
theorem oF{it t:Addr}{itz:Array Value}(hne:t≠it):∀ (n i:Nat) (s:a01) (Q:List Value->a01->Prop),s.heap.IsListIter it t i->s.heap.IsList t itz->i+n<=itz.size->
 (∀ h',h'.IsListIter it t (i+n)->Heap.SameBut it s.heap h'->Q ((itz.toList.drop i).take n) { s with heap:=h' })->a07 (a05 prog w) A (draw (.ref it) n) Q E s
 | 0,i,s,Q,hit,_,_,hQ=>by
   show a07 _ _ (pure []) Q E s;exact a02 (by simpa using hQ s.heap hit (Heap.SameBut.refl ..))
 | n+1,i,s,Q,hit,ht,hle,hQ=>by
   have hl9:i<itz.size:=by lia
   show a07 _ _ (a52 (.ref it) >>= _) Q E s;refine a00 (b17 hit ht (x:=itz[i]) (by simp[hl9]) fun hA hiA hsA=>?_);refine a00 (a16 (oF hne n (i+1) _ _ hiA (ht.extBut hsA.extBut hne) (by lia) fun hB hiB hsB=>a02 ?_));have hd:itz.toList.drop i=itz[i]::itz.toList.drop (i+1):=by simp[b3k,hl9]
   have:=hQ hB (by rw[show i+(n+1)=i+1+n by lia];exact hiB) (hsA.trans hsB);rw[hd,b6u] at this;exact this
variable {s:a01}
theorem jG{t:Addr}{itz:Array Value}{Q:List Value->a01->Prop}(hh:A.handled=none)(ht:s.heap.IsList t itz)(hQ:∀ h',Heap.ExtBut s.heap.objs.size s.heap h'->Q itz.toList { s with heap:=h' }):a07 (a05 prog w) A (b26 (.ref t) itz.size none) Q E s:=by
 have hl9:t≠s.heap.objs.size:=by obtain⟨o,ho,_⟩:=ht;exact b0s (Heap.lt_size ho)
 unfold b26;refine a00 ?_
 .unfold notIterableAtAll;refine a00 (wpAny_specialOf ht.typeIs F.slot_list_iter.lookup ?_);refine a02 ?_;simp only[if_false,c0e];refine a00 (a16 (a82 ht ?_));refine a00 (a16 (oF hl9 itz.size 0 _ _ ⟨_,Heap.get?_push_size _ rfl,rfl,rfl⟩ (Heap.IsList.push ht _) (by lia) fun hA hiA hsA=>?_));have hal0:List.take itz.size (b5b 0 itz.toList)=itz.toList:=by
   rw[b5s];exact b1z (by simp)
  rw[hal0];rw[if_neg (by simp)];have htA:hA.IsList t itz:=(Heap.IsList.push ht _).extBut hsA.extBut hl9;refine a00 (a16 (b23 hh hiA htA (by simp) fun hB heB=>?_));simp only[if_false,c0e,Option.isSome_none];refine a02 (hQ hB fun b o hb e=>heB b o hb (hsA.extBut b o hb (Heap.get?_push_of_some _ e)))
theorem jx{env:Env}{elts:List a13}{x1}{pos:Pos}{t:Addr}{itz:Array Value}{Q:Unit->a01->Prop}(hh:A.handled=none)(ht:s.heap.IsList t itz)(hn:(a24 elts env).length=itz.size)(hstar:(a24 elts env).findIdx? (·.1)=none)(h:∀ h',Heap.ExtBut s.heap.objs.size s.heap h'->a07 (a05 prog w) A (a79 ((a24 elts env).map (·.2)) itz.toList) Q E { s with heap:=h' }) :
 a07 (a05 prog w) A (a29 (.Tuple elts x1 pos) env (.ref t)) Q E s:=by
 rw[arm_assign_Tuple];refine a00 (a17 ?_);unfold unpack;rw[hn,hstar];exact a00 (a16 (jG hh ht h))
end
section
variable {X:Cx}
noncomputable def a1m(K:a8z)(n:Nat)(t:wb):TG:=fun v σ H Q=>∃ a xs,v=.ref a/\o7 K H a xs/\xs.length=n/\t xs σ H Q
theorem R9(K:a8z){es:List a13}{k:Nat}{t:wb}{n:Nat}{pos:Pos}(hc:X.calm=true)(h:a5z X es t)(hK:X.K=K:=by rfl)(hn:(a24 es X.env).length=n:=by rfl)(hst:(a24 es X.env).findIdx? (·.1)=none:=by rfl):PG X (.Tuple es k pos) (a1m K n t):=by
 subst hK;intro c2t s σ H v u Q I r hw;obtain⟨a,xs,e1,hq,hl,hw⟩:=hw;subst e1;cases r;obtain⟨its,rv,ht,hz⟩:=I.list hq;refine jx (I.ok.hd hc) ht.isList (by simp[hn,<- hl,rv.length]) hst fun h' hx=>?_;have I1:n9 X c2t σ H { s with heap:=h' }:=I.kept (t':=s.toks) fun b o e=>hx b o (b0s (Heap.lt_size e)) e;exact h c2t _ σ H xs _ Q I1 (by simpa using rv) hw
theorem yR(K:a8z){es:List a13}{k:Nat}{t:wb}{n:Nat}{pos:Pos}(hc:X.calm=true)(h:L8 X es t)(hK:X.K=K:=by rfl)(hn:(a24 es X.env).length=n:=by rfl)(hst:(a24 es X.env).findIdx? (·.1)=none:=by rfl):qx X (.Tuple es k pos) (a1m K n t):=by with_unfolding_all exact R9 (K:=K) (hc:=hc) (h:=h) (hK:=hK) (hn:=hn) (hst:=hst)
end
abbrev Pl:=Int×Int
structure v7(H:Hp)(vs:List V)(pl:List Pl):Prop where
 len:vs.length=pl.length
 get:∀ (i:Nat) v p,vs[i]?=some v->pl[i]?=some p->wf H v p.1 p.2
section
variable {H H':Hp} {vs:List V} {pl:List Pl}
theorem v7.tup(h:v7 H vs pl)(t:bR H H'):v7 H' vs pl:=⟨h.len,fun i v p e1 e2=>(h.get i v p e1 e2).tup t⟩
theorem v7.same(h:v7 H vs pl)(t:b9 H H'):v7 H' vs pl:=h.tup t.tup
theorem v7.at(h:v7 H vs pl){i:Nat}{p:Pl}(hp:pl[i]?=some p):∃ a,vs[i]?=some (.ref a)/\H a=some (.tup [.int p.1,.int p.2]):=by
 have hi:i<pl.length:=(a9c.mp hp).1;have e:vs[i]?=some (vs[i]'(by rw[h.len];exact hi)):=a8y _;obtain⟨a,e2,h2⟩:=h.get i _ p e hp;exact⟨a,by rw[e,e2],h2⟩
end
theorem eN{K:a8z}{a:Addr}{ws:List V}{pl:List Pl}{H1:Hp}(h:o7 K H1 a ws)(hP:v7 H1 ws pl):gm K (M4 K a) H1 pl.length (fun i=>.int ((pl[i]?).getD (0,0)).1) (fun i=>.int ((pl[i]?).getD (0,0)).2):=fun H2 s i=>by
 refine⟨fun hi=>?_,fun e=>⟨ws,s.seq h,by rw[hP.len];lia⟩⟩;obtain⟨b,e1,hb⟩:=hP.at (a8y hi);refine⟨⟨ws,_,s.seq h,e1⟩,fun x H' y=>?_⟩;obtain⟨rfl,y2⟩:=y;have:=y2 ws (s.seq h);rw[e1] at this;refine⟨L2.b9.refl _,b,(a9t.inj this).symm,aj.of ?_⟩;show H' b=some (.tup [.int ((pl[i]?).getD (0,0)).1,.int ((pl[i]?).getD (0,0)).2]);rw[a8y hi];exact s _ _ hb
noncomputable def ka(a b c d:Rat):b1p:=.tuple [gi a,gi b,gi c,gi d]
theorem oJ(a b c d:Rat):a9y 8 (ka a b c d)=true:=by
 have h1:=eO a 6;have h2:=eO b 6;have h3:=eO c 6;have h4:=eO d 6;simp[ka,a9y,h1,h2,h3,h4]
theorem G9{K:a8z}{H:Hp}{a:Addr}{v1 v2 v3 v4:V}{q1 q2 q3 q4:Rat}(h:H a=some (.tup [v1,v2,v3,v4]))(h1:bh H v1 q1)(h2:bh H v2 q2)(h3:bh H v3 q3)(h4:bh H v4 q4):Dn K H (ka q1 q2 q3 q4) (.ref a):=by
 unfold ka;simp only[Dn,bj];exact⟨a,_,rfl,aj.of h,_,_,rfl,h1.dn,_,_,rfl,h2.dn,_,_,rfl,h3.dn,_,_,rfl,h4.dn,rfl⟩
structure kW(K:a8z)(mg:Str->Option Value)(x:Str)(C:Addr):Prop where
 cl:M0 K C
 makes:b6s K C=true
 kp:b1h K (.ref C)=true
 at_:mg x=some (.ref C)
structure jz(K:a8z)(C:Addr)(m q:Str)(st:Stmt)(ps:List Str):Prop where
 ex:∃ (f:Addr) (fd:a34),a6e K m q st f fd/\a0g K C m f/\fC K fd ps []
structure gt(P:a15)(w:a20)(K:a8z)(mg:Str->Option Value)(base:Heap)(CX:sq)(k:Nat)(C:Addr)(m:Str)(ps:List Str)(sp:Sp):Prop where
 ex:∃ (f:Addr) (fd:a34),jB P w K mg base CX k f fd ps sp/\a0g K C m f/\fC K fd ps []
section
variable {P:a15} {w:a20} {K:a8z} {mg:Str->Option Value} {base:Heap}
theorem jz.mk'{C:Addr}{m q:Str}{st:Stmt}{ps:List Str}{f:Addr}{oc:Value}{od an:Option Addr}{osl:Array (Option Value)}{kV doc pm cdv ct:Value}(hm:b0i K (.ref C) m=some (some (.ref f)))(hi:b5r K (.ref f)=true)(l:K.lookup f=some ⟨oc,od,.func (b1n m q (bu st) (x8 st) (d4 st) .none kV doc pm an cdv ct),osl⟩)(c:b2l K cdv q=true)(k:b1h K (.ref f)=true)(h:∀ (kV doc pm:Value) (an:Option Addr) (cdv ct:Value) (us:List Value),us.length=ps.length->a99 (b1n m q (bu st) (x8 st) (d4 st) .none kV doc pm an cdv ct) ⟨us,[]⟩=pure (ps.zip us)):jz K C m q st ps:=by
 have F:=G0 (st:=st) l c k;exact⟨_,_,F,⟨hm,hi,k⟩,F.binds h⟩
theorem A4{C:Addr}{m q:Str}{st:Stmt}{N ps:List Str}{k:Nat}{sp:Sp}(F:jz K C m q st ps)(S:j6 N ps (d4 st))(len:∀ vs H Q E,sp vs H Q E->vs.length=ps.length)(hbody:∀ (f:Addr) (cdv:Value) (A:a19) (outer:List Env) (s:a01) (H:Hp) (vs:List V) (Q:VK) (E:XK),bI k (A.deeper (a60 q (d4 st) s.heap.objs.size f cdv))->sp vs H Q E->
 ∃ t,fE (dM z8 P w K mg base N q (d4 st) f cdv A outer s H E).nox (x8 st) t/\t { nx:=fun _ H'=>Q .non H',rt:=Q } (eF N vs) H):gt P w K mg base z8 (k+1) C m ps sp:=by
 obtain⟨f,fd,F,hm,hb⟩:=F.ex;refine⟨f,fd,F.ok S len fun cdv A outer s H vs Q E hr h=>?_,hm,hb⟩;obtain⟨t,h1,h2⟩:=hbody f cdv A outer s H vs Q E hr h;exact⟨t,by unfold fE at h1;exact h1,h2⟩
end
section
variable {X:Cx} {CX:sq} {k j:Nat} {ps:List Str} {sp:Sp} {E:XK} {x m:Str} {p pos apos:Pos} {o e:a13} {es:List a13} {t:TA} {ta:TE} {C:Addr}
noncomputable def tMk(C:Addr)(sp:Sp)(E:XK)(t:TA):TE:=fun σ H Q=>t σ H fun vs H1=>∀ x dx,H1 x=none->H1 dx=none->dx≠x->
 sp (.ref x::vs) (upd (upd H1 dx (.own x)) x (.ins C dx [])) (fun v H2=>v=.non/\Q (.ref x) H2) E
theorem a7v(T:kW X.K X.mg x C)(D:gt X.prog X.w X.K X.mg X.base CX k C "__init__" ps sp)(hr:bI j X.A)(hx:bJ CX X E)(ha:PA X (e::es) t)(hk:k+1<=j:=by decide)(hg:Gl X x:=by rfl)(hdb:(x == ("__debug__" : Str))=false:=by decide)(he:a11 (e::es) X.env=(false,eval e X.env)::a11 es X.env:=by rfl)(hpl:(a37 pos (a11 es X.env)).any (·.1)=false:=by rfl) :
 PE X (.Call (.Name x p) (e::es) [] pos) (tMk C sp E t):=by
 obtain⟨f,fd,F,hm,hb⟩:=D.ex;intro c2t s σ H Q I h;have q:=S4 (X:=X) (p:=p) (pos:=pos) ⟨T.makes,hm.at_,hm.fn,T.kp⟩ F (hr.mono hk) hg T.at_ hb .nil hx ha hdb he hpl;refine q c2t s σ H Q I ?_;unfold tMk at h;have e:(fun (vs:List V) (H1:Hp)=>∀ x dx,H1 x=none->H1 dx=none->dx≠x->sp (.ref x::(vs++[])) (upd (upd H1 dx (.own x)) x (.ins C dx [])) (fun v H2=>v=.non/\Q (.ref x) H2) E)=fun vs H1=>∀ x dx,H1 x=none->H1 dx=none->dx≠x->sp (.ref x::vs) (upd (upd H1 dx (.own x)) x (.ins C dx [])) (fun v H2=>v=.non/\Q (.ref x) H2) E:=by
  funext vs H1;rw[b2u]
 unfold a0q;rw[e];exact h
noncomputable def a2l(C:Addr)(m:Str)(sp:Sp)(E:XK)(ta:TE)(t:TA):TE:=fun σ H Q=>ta σ H fun x H1=>∃ a dx fs,x=.ref a/\H1 a=some (.ins C dx fs)/\fs.lookup m=none/\t σ H1 fun vs H2=>sp (x::vs) H2 Q E
theorem S3{pl:Sem Bool}(T:kW X.K X.mg x C)(D:gt X.prog X.w X.K X.mg X.base CX k C m ps sp)(he:PE X o ta)(hr:bI j X.A)(hx:bJ CX X E)(hk:k<=j:=by decide)(ht:eval (.Call (.Attribute o m apos) [] [] pos) X.env=(do
 let ov <- eval o X.env
 a28 apos.atName
 let (f,first) <- a43 [ov] (a87 ov m pl)
 callWith pos f first (a37 pos (a11 [] X.env)) (b00 pos (a73 [] X.env))):=by rfl) :
 PE X (.Call (.Attribute o m apos) [] [] pos) (a2l C m sp E ta q9):=by
 obtain⟨f,fd,F,hm,hb⟩:=D.ex;intro c2t s σ H Q I h;refine yW (X:=X) (pos:=pos) (apos:=apos) (pl:=pl) he T.cl hm F (hr.mono hk) hb .nil hx ht c2t s σ H Q I ?_;unfold a2l at h;unfold a0p;simp only[b2u];exact h
theorem yV(T:kW X.K X.mg x C)(D:gt X.prog X.w X.K X.mg X.base CX k C "__init__" ps sp)(hr:bI j X.A)(hx:bJ CX X E)(ha:uC X (e::es) t)(hk:k+1<=j:=by decide)(hg:Gl X x:=by rfl)(hdb:(x == ("__debug__" : Str))=false:=by decide)(he:a11 (e::es) X.env=(false,eval e X.env)::a11 es X.env:=by rfl)(hpl:(a37 pos (a11 es X.env)).any (·.1)=false:=by rfl) :
 ao X (.Call (.Name x p) (e::es) [] pos) (tMk C sp E t):=by with_unfolding_all exact a7v T D hr hx ha hk hg hdb he hpl
theorem rb{pl:Sem Bool}(T:kW X.K X.mg x C)(D:gt X.prog X.w X.K X.mg X.base CX k C m ps sp)(he:ao X o ta)(hr:bI j X.A)(hx:bJ CX X E)(hk:k<=j:=by decide)(ht:eval (.Call (.Attribute o m apos) [] [] pos) X.env=(do
 let ov <- eval o X.env
 a28 apos.atName
 let (f,first) <- a43 [ov] (a87 ov m pl)
 callWith pos f first (a37 pos (a11 [] X.env)) (b00 pos (a73 [] X.env))):=by rfl) :
 ao X (.Call (.Attribute o m apos) [] [] pos) (a2l C m sp E ta q9):=by with_unfolding_all exact S3 (pl:=pl) T D he hr hx hk ht
theorem aH{f:Str}(he:ao X e ta)(hb:a67 e f X.env (eval e X.env)=eval e X.env:=by rfl):ao X (.Attribute e f pos) (dL X.K ta f):=by with_unfolding_all exact a3z he hb
theorem P8{f:Str}{pos':Pos}{value:a13}{tv:TE}(ha:ao X o ta)(hv:ao X value tv)(hs:a51 value (some (.Attribute o f pos')) pos.line X.env=pure false:=by rfl):qv X (.Assign [.Attribute o f pos'] value pos) (a2t X.K ta tv f):=by with_unfolding_all exact a3h ha hv hs
end
theorem aa.append{H:Hp}{vs ws:List V}{ps qs:List Pt}(h1:aa H vs ps)(h2:aa H ws qs):aa H (vs++ws) (ps++qs):=by
 have l1:=h1.len;have l2:=h2.len;refine⟨by rw[a9b,a9b];lia,fun i v p e1 e2=>?_⟩;by_cases hi:i<vs.length
 .rw[a9i hi] at e1;rw[a9i (by lia)] at e2;exact h1.get i v p e1 e2
 .rw[a9l (by lia)] at e1 e2;rw[<- l1] at e2;exact h2.get _ v p e1 e2
theorem v7.snoc{H:Hp}{vs:List V}{pl:List Pl}{v:V}{p:Pl}(h:v7 H vs pl)(hv:wf H v p.1 p.2):v7 H (vs++[v]) (pl++[p]):=by
 refine⟨by simp[h.len],fun i w q e1 e2=>?_⟩;have hl:=h.len;by_cases hi:i<vs.length
 .rw[a9i hi] at e1;rw[a9i (by lia)] at e2;exact h.get i w q e1 e2
 .rw[a9l (by lia)] at e1 e2;rw[<- hl] at e2;cases hk:i - vs.length with
  | zero=>
    rw[hk] at e1 e2;simp at e1 e2;subst e1 e2;exact hv
  | succ k=>rw[hk] at e1;simp at e1
noncomputable def mQ(p:Pl):b1p:=.tuple [.int p.1,.int p.2]
theorem J1(p:Pl)(n:Nat):a9y (n+1) (mQ p)=true:=by
 have h:∀ i:Int,a9y n (.int i)=true:=fun i=>by cases n<;>simp[a9y]
 simp[mQ,a9y,h]
theorem dnPl{K:a8z}{H:Hp}{a:Addr}{p:Pl}(h:H a=some (.tup [.int p.1,.int p.2])):Dn K H (mQ p) (.ref a):=by
 unfold mQ;simp only[Dn,bj];exact⟨a,_,rfl,aj.of h,_,_,rfl,rfl,_,_,rfl,rfl,rfl⟩
noncomputable def qd(pl:List Pl):b1p:=.list (pl.map mQ)
theorem oI(pl:List Pl)(n:Nat):a9y (n+2) (qd pl)=true:=by
 have h:∀ p:Pl,a9y (n+1) (mQ p)=true:=fun p=>J1 p n;simp[qd,a9y,h]
theorem oG{K:a8z}{H:Hp}:∀ {pl:List Pl} {vs:List V},v7 H vs pl->bj K H (pl.map mQ) vs
 | [],vs,h=>by
   have:vs=[]:=b8h.mp h.len;subst this;simp[bj]
 | p::pl,vs,h=>by
   cases vs with
   | nil=>have:=h.len;simp at this
   | cons v vs=>
     simp only[b1q,bj];obtain⟨a,rfl,ha⟩:=h.get 0 v p rfl rfl;exact⟨_,vs,rfl,dnPl ha,oG ⟨by have:=h.len;simpa using this,fun i w q e1 e2=>h.get (i+1) w q (by simpa using e1) (by simpa using e2)⟩⟩
theorem a1t{K:a8z}{H:Hp}{a:Addr}{vs:List V}{pl:List Pl}(hs:H a=some (.lst vs))(h:v7 H vs pl):Dn K H (qd pl) (.ref a):=by
 unfold qd;simp only[Dn];exact⟨a,vs,rfl,o7.of hs,oG h⟩
section
variable {X:Cx}
theorem Q0{i:Nat}{x:Str}{e:a13}{te:TE}{op:b01}{ti:a8q}{pos pos':Pos}(hN:X.N.Nodup)(hi:X.N[i]?=some x)(hx:a1z X.env.scope x)(he:ao X e te)(ho:PIp X op ti)(hf:X.fn x=true\/X.env.scope.names.lookup x=some .local:=by first | exact .inl rfl | exact .inr rfl | assumption) :
 qv X (.AugAssign (.Name x pos') op e pos) (a7f i te ti):=by with_unfolding_all exact a3i (hN:=hN) (hi:=hi) (hx:=hx) (he:=he) (ho:=ho) (hf:=hf)
end
theorem xw(xs:List V)(k:Int)(n:Nat)(e:k=(n:Int))(h:n<=xs.length):dN xs (some k) none=xs.drop n:=by
 have:=oK (fun v:V=>v) xs k n e h;simpa using this
theorem v7.take{H:Hp}{vs:List V}{pl:List Pl}(h:v7 H vs pl)(n:Nat):v7 H (vs.take n) (pl.take n):=by
 refine⟨by rw[b0d,b0d,h.len],fun i v p e1 e2=>?_⟩;rw[b4a] at e1 e2;by_cases hi:i<n
 .rw[if_pos hi] at e1 e2;exact h.get i v p e1 e2
 .rw[if_neg hi] at e1;cases e1
noncomputable def vc(K:a8z):Sp:=fun vs H Q _=>∃ (a:Addr) (ws:List V) (qs:List Rat) (D:Int) (m:Nat),vs=[.ref a]/\o7 K H a ws/\iE H ws qs/\0<D/\Sz 9000 D/\(∀ q∈qs,(q.den:Int)∣D/\Bd m q)/\m<=9000/\qs.length<=40/\
 ∀ v tops bs H',b9 H H'->xP H' v (m+9000) tops bs->K8 tops bs=qs->bs.length<=qs.length->j0 bs∣D->Q v H'
noncomputable def vd(K:a8z):Sp:=fun vs H Q _=>∃ (a:Addr) (ws:List V) (ps:List Pt) (D:Int) (m:Nat),vs=[.ref a]/\o7 K H a ws/\aa H ws ps/\0<D/\Sz 9000 D/\(∀ p∈ps,((p.1.den:Int)∣D/\Bd m p.1)/\(p.2.den:Int)∣D/\Bd m p.2)/\m<=9000/\ps.length<=40/\
 ∀ c x y t1 b1 t2 b2 H',b9 H H'->H' c=some (.tup [x,y])->xP H' x (m+9000) t1 b1->xP H' y (m+9000) t2 b2->K8 t1 b1=ps.map (·.1)->K8 t2 b2=ps.map (·.2)->b1.length<=ps.length->b2.length<=ps.length->j0 b1∣D->j0 b2∣D->Q (.ref c) H'
end Cv
namespace Cv
noncomputable def tO(c:List Pl):List Pl:=b5p (fun p q=>((p.1+q.1) / 2,(p.2+q.2) / 2)) c (c.drop 1)
noncomputable def cM(c:List Pl):Nat->List Pl
 | 0=>c
 | r+1=>tO (cM c r)
noncomputable def aW(dx dy:Int)(c:List Pl):List Pt:=c.map fun p=>(a9e p.1 dx,a9e p.2 dy)
noncomputable def ko(k:Nat)(c:List Pl):Prop:=∀ p∈c,(2:Int)^k∣p.1/\(2:Int)^k∣p.2
noncomputable def du(n:Nat)(c:List Pl):Prop:=∀ p∈c,Sz n p.1/\Sz n p.2
theorem jq(c:List Pl):(tO c).length=c.length - 1:=by
 unfold tO;rw[b2m,b0e];lia
theorem dI(c:List Pl):∀ r,(cM c r).length=c.length - r
 | 0=>rfl
 | r+1=>by
   show (tO (cM c r)).length=_;rw[jq,dI c r];lia
theorem pU{c:List Pl}{i:Nat}{p q:Pl}(h1:c[i]?=some p)(h2:c[i+1]?=some q):(tO c)[i]?=some ((p.1+q.1) / 2,(p.2+q.2) / 2):=by
 unfold tO;rw[b2e,b2r,h1,b8k 1 i,h2]
theorem vM{c:List Pl}{z:Pl}(h:z∈tO c):∃ p q,p∈c/\q∈c/\z=((p.1+q.1) / 2,(p.2+q.2) / 2):=by
 obtain⟨i,hi,rfl⟩:=a9o h;have hl:=jq c;have e1:c[i]?=some (c[i]'(by omega (config:={}))):=a8y _;have e2:c[i+1]?=some (c[i+1]'(by omega (config:={}))):=a8y _;have e3:=pU e1 e2;rw[a8y hi] at e3;exact⟨_,_,a9n _,a9n _,a9t.inj e3⟩
theorem rM{k:Nat}{x u:Int}(h1:(2:Int)^(k+1)∣x)(h2:(2:Int)^(k+1)∣u):(2:Int)^k∣(x+u) / 2:=by
 obtain⟨a,rfl⟩:=h1;obtain⟨b,rfl⟩:=h2;refine⟨a+b,?_⟩;rw[b4p];have e:(2:Int)^k*2*a+2^k*2*b=2*((2:Int)^k*(a+b)):=by
  rw[c0v,c0v];have e1:(2:Int)^k*2*a=2*(2^k*a):=by rw[b1f ((2:Int)^k) 2,b2q]
  have e2:(2:Int)^k*2*b=2*(2^k*b):=by rw[b1f ((2:Int)^k) 2,b2q]
  rw[e1,e2]
 rw[e,b1e _ (by decide)]
theorem a5g{k:Nat}{c:List Pl}(h:ko (k+1) c):ko k (tO c):=fun z hz=>by
 obtain⟨p,q,hp,hq,rfl⟩:=vM hz;exact⟨rM (h p hp).1 (h q hq).1,rM (h p hp).2 (h q hq).2⟩
theorem a0c{z:Int}{N:Nat}(h:-(N:Int)<z)(h':z<N):z.natAbs<N:=by lia
theorem lE{z:Int}{N:Nat}(h:z.natAbs<N):-(N:Int)<z/\z<N:=⟨by lia,by lia⟩
theorem E6{x u N:Int}(a:-N<x)(b:-N<u):-N<(x+u) / 2:=by lia
theorem xr{x u N:Int}(a:x<N)(b:u<N):(x+u) / 2<N:=by lia
theorem vP{n:Nat}{x u:Int}(h1:Sz n x)(h2:Sz n u):Sz n ((x+u) / 2):=
 ⟨a0c (E6 (lE h1.lt).1 (lE h2.lt).1) (xr (lE h1.lt).2 (lE h2.lt).2)⟩
theorem a8g{n:Nat}{c:List Pl}(h:du n c):du n (tO c):=fun z hz=>by
 obtain⟨p,q,hp,hq,rfl⟩:=vM hz;exact⟨vP (h p hp).1 (h q hq).1,vP (h p hp).2 (h q hq).2⟩
theorem pV{n:Nat}{c:List Pl}(h:du n c):∀ r,du n (cM c r)
 | 0=>h
 | r+1=>a8g (pV h r)
theorem rN{x u d:Int}(h1:(2:Int)∣x)(h2:(2:Int)∣u):a9e ((x+u) / 2) d=dO (1 / 2) (a9e x d) (a9e u d):=by
 obtain⟨a,rfl⟩:=h1;obtain⟨b,rfl⟩:=h2;rw[<- c0v,b1e _ (by decide)];unfold dO;simp only[kF,a9u,b2y];have e2:((2:Int):Rat)=2:=rfl;rw[e2];grind
theorem bL(dx dy:Int)(c:List Pl):(aW dx dy c).length=c.length:=by unfold aW;rw[a9a]
theorem a5e{dx dy:Int}{c:List Pl}(h:ko 1 c):aW dx dy (tO c)=gW (1 / 2) (aW dx dy c):=by
 refine b1j fun i=>?_;by_cases hi:i+1<c.length
 .have e1:c[i]?=some (c[i]'(by omega (config:={}))):=a8y _;have e2:c[i+1]?=some (c[i+1]'(by omega (config:={}))):=a8y _;have d1:=h _ (a9f e1);have d2:=h _ (a9f e2);have f1:(aW dx dy c)[i]?=some (a9e (c[i]'(by omega (config:={}))).1 dx,a9e (c[i]'(by omega (config:={}))).2 dy):=by unfold aW;rw[a9h,e1];rfl
  have f2:(aW dx dy c)[i+1]?=some (a9e (c[i+1]'(by omega (config:={}))).1 dx,a9e (c[i+1]'(by omega (config:={}))).2 dy):=by unfold aW;rw[a9h,e2];rfl
  rw[aZ _ _ i f1 f2];unfold aW;rw[a9h,pU e1 e2];show some (_,_)=some (_,_);rw[rN d1.1 d2.1,rN d1.2 d2.2]
 .rw[a9v (by rw[bL,jq];lia),a9v (by rw[aY,bL];lia)]
theorem uI{j k:Nat}(h:j<=k):(2:Int)^j∣2^k:=⟨2^(k - j),by rw[<- b9i];congr 1;lia⟩
theorem ko.mono{k j:Nat}{c:List Pl}(h:ko k c)(hj:j<=k):ko j c:=fun p hp=>
 ⟨b3o (uI hj) (h p hp).1,b3o (uI hj) (h p hp).2⟩
theorem jr{M:Nat}{c:List Pl}(h:ko M c):∀ r,r<=M->ko (M - r) (cM c r)
 | 0,_=>h
 | r+1,hr=>by
   have:=jr h r (by lia);refine a5g ?_;rw[show M - (r+1)+1=M - r by lia];exact this
theorem mI{dx dy:Int}{M:Nat}{c:List Pl}(h:ko M c):∀ r,r<=M->aW dx dy (cM c r)=iu (1 / 2) (aW dx dy c) r
 | 0,_=>rfl
 | r+1,hr=>by
   show aW dx dy (tO (cM c r))=gW (1 / 2) (iu (1 / 2) (aW dx dy c) r);rw[a5e ((jr h r (by lia)).mono (by lia)),mI h r (by lia)]
noncomputable def kN(c:List Pl):List Pl:=(b0y c.length).map fun r=>((cM c r)[0]?).getD (0,0)
noncomputable def kL(c:List Pl):List Pl:=(b0y c.length).map fun k=>((cM c (c.length - 1 - k))[k]?).getD (0,0)
theorem vS(c:List Pl):(kN c).length=c.length:=by unfold kN;rw[a9a,b1d]
theorem vE(c:List Pl):(kL c).length=c.length:=by unfold kL;rw[a9a,b1d]
theorem qE(dx dy:Int)(c:List Pl)(i:Nat):((aW dx dy c)[i]?).getD (0,0)=(a9e ((c[i]?).getD (0,0)).1 dx,a9e ((c[i]?).getD (0,0)).2 dy):=by
 unfold aW;rw[a9h];cases c[i]? with
 | none=>show ((0:Rat),(0:Rat))=(a9e 0 dx,a9e 0 dy);rw[Rat.zero_divInt,Rat.zero_divInt]
 | some p=>rfl
theorem tV{dx dy:Int}{M:Nat}{c:List Pl}(h:ko M c)(hM:c.length<=M+1):aW dx dy (kN c)=cg (1 / 2) (aW dx dy c):=by
 unfold cg kN;rw[bL];show b9y _ (b9y _ _)=_;rw[b2h];refine b1v fun r hr=>?_;have hr:=b1c.mp hr;rw[<- mI h r (by lia),qE];rfl
theorem tM{dx dy:Int}{M:Nat}{c:List Pl}(h:ko M c)(hM:c.length<=M+1):aW dx dy (kL c)=dH (1 / 2) (aW dx dy c):=by
 unfold dH kL;rw[bL];show b9y _ (b9y _ _)=_;rw[b2h];refine b1v fun k hk=>?_;have hk:=b1c.mp hk;rw[<- mI h (c.length - 1 - k) (by lia),qE];rfl
theorem jt{P:Pl->Prop}{c:List Pl}(h0:P (0,0))(h:∀ p∈c,P p)(i:Nat):P ((c[i]?).getD (0,0)):=by
 cases e:c[i]? with
 | none=>exact h0
 | some p=>exact h p (a9f e)
theorem a5i{M:Nat}{c:List Pl}(h:ko M c)(hM:c.length<=M+1):ko (M - (c.length - 1)) (kN c):=fun p hp=>by
 unfold kN at hp;obtain⟨r,hr,rfl⟩:=a9m.mp hp;have hr:=Nat.le_sub_one_of_lt (b1c.mp hr);exact jt (P:=fun p=>(2:Int)^(M - (c.length - 1))∣p.1/\(2:Int)^(M - (c.length - 1))∣p.2) ⟨⟨0,by simp⟩,⟨0,by simp⟩⟩ (fun p hp=>((jr h r (b0n hr (b9s hM))).mono (b9u hr M)) p hp) 0
theorem a4p{M:Nat}{c:List Pl}(h:ko M c)(hM:c.length<=M+1):ko (M - (c.length - 1)) (kL c):=fun p hp=>by
 unfold kL at hp;obtain⟨k,hk,rfl⟩:=a9m.mp hp;have hr:=Nat.sub_le (c.length - 1) k;exact jt (P:=fun p=>(2:Int)^(M - (c.length - 1))∣p.1/\(2:Int)^(M - (c.length - 1))∣p.2) ⟨⟨0,by simp⟩,⟨0,by simp⟩⟩ (fun p hp=>((jr h (c.length - 1 - k) (b0n hr (b9s hM))).mono (b9u hr M)) p hp) k
theorem gu(n:Nat):Sz n 0:=⟨by simpa using b5i n⟩
theorem a1q{n:Nat}{c:List Pl}(h:du n c):du n (kN c):=fun p hp=>by
 unfold kN at hp;obtain⟨r,hr,rfl⟩:=a9m.mp hp;exact jt (P:=fun p=>Sz n p.1/\Sz n p.2) ⟨gu n,gu n⟩ (fun p hp=>pV h r p hp) 0
theorem a1i{n:Nat}{c:List Pl}(h:du n c):du n (kL c):=fun p hp=>by
 unfold kL at hp;obtain⟨k,hk,rfl⟩:=a9m.mp hp;exact jt (P:=fun p=>Sz n p.1/\Sz n p.2) ⟨gu n,gu n⟩ (fun p hp=>pV h _ p hp) k
noncomputable def x6(css:List (List Pl)):List (List Pl):=css.flatMap fun c=>[kN c,kL c]
theorem fZ:∀ (css:List (List Pl)) (i:Nat),(x6 css)[2*i]?=(css[i]?).map kN/\(x6 css)[2*i+1]?=(css[i]?).map kL
 | [],i=>by simp[x6]
 | c::css,0=>by simp[x6]
 | c::css,i+1=>by
   have ih:=fZ css i;unfold x6 at ih ⊢;rw[b7o];show ((kN c::kL c::css.flatMap _))[2*(i+1)]?=_/\((kN c::kL c::css.flatMap _))[2*(i+1)+1]?=_;rw[show 2*(i+1)=2*i+1+1 by lia,b2j,b2j,b2j,b2j,b2j];exact ih
theorem mK(css:List (List Pl)):(x6 css).length=2*css.length:=by
 unfold x6;induction css with
 | nil=>rfl
 | cons c css ih=>rw[b7o,a9b,ih];show 2+2*css.length=2*(css.length+1);lia
theorem rJ(css:List (List Pl))(c:List Pl):x6 (css++[c])=x6 css++[kN c,kL c]:=by
 unfold x6;rw[b6w];simp
noncomputable def cL(c:List Pl):Nat->List (List Pl)
 | 0=>[c]
 | d+1=>x6 (cL c d)
theorem cc(c:List Pl):∀ d,(cL c d).length=2^d
 | 0=>rfl
 | d+1=>by
   show (x6 (cL c d)).length=_;rw[mK,cc c d,b4o];lia
noncomputable def hp:Nat->Rat
 | 0=>1
 | d+1=>hp d*(1 / 2)
noncomputable def tq(d i:Nat)(u:Rat):Rat:=(((i:Int):Rat)+u)*hp d
structure uF(dx dy:Int)(ps:List Pt)(n m d:Nat)(css:List (List Pl)):Prop where
 len:∀ c∈css,c.length=ps.length
 sz:∀ c∈css,du n c
 dv:∀ c∈css,ko m c
 pt:∀ i c,css[i]?=some c->∀ u,pH u (aW dx dy c)=pH (tq d i u) ps
theorem V4{dx dy:Int}{ps:List Pt}{n m d:Nat}{css:List (List Pl)}(h1:1<=ps.length)(h:uF dx dy ps n (m+(ps.length - 1)) d css):uF dx dy ps n m (d+1) (x6 css):=by
 have mem:∀ e∈x6 css,∃ c∈css,e=kN c\/e=kL c:=fun e he=>by
  unfold x6 at he;obtain⟨c,hc,hm⟩:=b3s.mp he;exact⟨c,hc,by simpa using hm⟩
 refine⟨fun e he=>?_,fun e he=>?_,fun e he=>?_,fun i e he u=>?_⟩
 .obtain⟨c,hc,rfl | rfl⟩:=mem e he
  .rw[vS];exact h.len c hc
  .rw[vE];exact h.len c hc
 .obtain⟨c,hc,rfl | rfl⟩:=mem e he
  .exact a1q (h.sz c hc)
  .exact a1i (h.sz c hc)
 .obtain⟨c,hc,rfl | rfl⟩:=mem e he
  .have hl:=h.len c hc;exact (a5i (h.dv c hc) (by lia)).mono (by lia)
  .have hl:=h.len c hc;exact (a4p (h.dv c hc) (by lia)).mono (by lia)
 .obtain⟨j,hj⟩ : ∃ j,i=2*j\/i=2*j+1:=⟨i / 2,by lia⟩
  rcases hj with rfl | rfl
  .rw[(fZ css j).1] at he;cases ec:css[j]? with
   | none=>rw[ec] at he;cases he
   | some c=>
     rw[ec] at he;obtain rfl:kN c=e:=a9t.inj he;have hc:=a9f ec;have hl:=h.len c hc;rw[tV (h.dv c hc) (by lia),rR u (1 / 2) _ (by rw[bL];lia),h.pt j c ec];congr 1;unfold tq;show _=_*(hp d*(1 / 2));rw[show ((2*j:Nat):Int)=2*(j:Int) by lia,a9u];have e2:((2:Int):Rat)=2:=rfl;rw[e2];grind
  .rw[(fZ css j).2] at he;cases ec:css[j]? with
   | none=>rw[ec] at he;cases he
   | some c=>
     rw[ec] at he;obtain rfl:kL c=e:=a9t.inj he;have hc:=a9f ec;have hl:=h.len c hc;rw[tM (h.dv c hc) (by lia),vF u (1 / 2) _ (by rw[bL];lia),h.pt j c ec];congr 1;unfold tq dO;show _=_*(hp d*(1 / 2));rw[show ((2*j+1:Nat):Int)=2*(j:Int)+1 by lia,b2y,a9u];have e2:((2:Int):Rat)=2:=rfl;have e1:((1:Int):Rat)=1:=rfl;rw[e2,e1];grind
theorem jU{dx dy:Int}{ps:List Pt}{n:Nat}{c:List Pl}(h1:1<=ps.length)(hc:aW dx dy c=ps)(hz:du n c):∀ L d,d<=L->ko (L*(ps.length - 1)) c->uF dx dy ps n ((L - d)*(ps.length - 1)) d (cL c d)
 | L,0,_,hd=>by
   have hl:c.length=ps.length:=by rw[<- hc,bL]
   refine⟨fun e he=>?_,fun e he=>?_,fun e he=>?_,fun i e he u=>?_⟩
   .rw[a9q.mp he];exact hl
   .rw[a9q.mp he];exact hz
   .rw[a9q.mp he];exact hd
   .cases i with
    | zero=>
      cases he;rw[hc];congr 1;unfold tq;show u=(0+u)*1;grind
    | succ i=>simp[cL] at he
 | L,d+1,hd,hv=>by
   have ih:=jU h1 hc hz L d (by lia) hv;refine V4 h1 ?_;rw[show (L - (d+1))*(ps.length - 1)+(ps.length - 1)=(L - d)*(ps.length - 1) by
    rw[show L - d=(L - (d+1))+1 by lia,b6t]]
   exact ih
end Cv
namespace Cv
open PySem PySem.Spec PyProof.Rows L2
noncomputable def sv(R:Int)(t1 t2:List Int):List Pl:=b5p (fun x y=>(x*R,y*R)) t1 t2
noncomputable def yl:Sp:=fun vs H Q _=>∃ n L:Nat,vs=[.int (n:Int),.int (L:Int)]/\1<=n/\n<=1000/\L<=1000/\Q (.int (2^(L*(n - 1)))) H
noncomputable def qI:Sp:=fun vs H Q _=>∃ x y n t1 b1 t2 b2 R,vs=[x,y,.int R]/\xP H x n t1 b1/\xP H y n t2 b2/\t1.length=t2.length/\Sz 100 R/\n<=100000/\
 ∀ (l:Addr) (us:List V) (H':Hp),b9 H H'->H l=none->H' l=some (.lst us)->v7 H' us (sv R t1 t2)->Q (.ref l) H'
noncomputable def qO:Sp:=fun vs H Q _=>∃ (a:Addr) (ws:List V) (c:List Pl),vs=[.ref a]/\H a=some (.lst ws)/\v7 H ws c/\c.length<=1000/\
 ∀ (p l1 l2:Addr) (u1 u2:List V) (H':Hp),b9 H H'->H' p=some (.tup [.ref l1,.ref l2])->H l1=none->H l2=none->H' l1=some (.lst u1)->H' l2=some (.lst u2)->v7 H' u1 (kN c)->v7 H' u2 (kL c)->Q (.ref p) H'
structure cZ(H:Hp)(D:Option Addr)(ys:List V)(css:List (List Pl)):Prop where
 len:ys.length=css.length
 get:∀ (i:Nat) (v:V) (c:List Pl),ys[i]?=some v->css[i]?=some c->∃ (l:Addr) (us:List V),v=.ref l/\some l≠D/\H l=some (.lst us)/\v7 H us c
theorem cZ.same{H H':Hp}{D:Option Addr}{ys:List V}{css:List (List Pl)}(h:cZ H D ys css)(s:b9 H H'):cZ H' D ys css:=
 ⟨h.len,fun i v c e1 e2=>by obtain⟨l,us,r1,r2,r3,r4⟩:=h.get i v c e1 e2;exact⟨l,us,r1,r2,s _ _ r3,r4.same s⟩⟩
theorem cZ.at{H:Hp}{D:Option Addr}{ys:List V}{css:List (List Pl)}(h:cZ H D ys css){i:Nat}{c:List Pl}(hc:css[i]?=some c):∃ (l:Addr) (us:List V),ys[i]?=some (.ref l)/\H l=some (.lst us)/\v7 H us c:=by
 have hi:i<css.length:=(a9c.mp hc).1;have e:ys[i]?=some (ys[i]'(by rw[h.len];exact hi)):=a8y _;obtain⟨l,us,r1,r2,r3,r4⟩:=h.get i _ c e hc;exact⟨l,us,by rw[e,r1],r3,r4⟩
noncomputable def qP(K:a8z):Sp:=fun vs H Q _=>∃ (a:Addr) (ys:List V) (css:List (List Pl)),vs=[.ref a]/\H a=some (.lst ys)/\cZ H none ys css/\css.length<=1000/\(∀ c∈css,c.length<=1000)/\
 ∀ (l:Addr) (us:List V) (H':Hp),b9 H H'->H l=none->H' l=some (.lst us)->cZ H' none us (x6 css)->Q (.ref l) H'
theorem iR{α:Type}{ys:List α}{v w:α}{j:Nat}(e:(ys++[v])[j]?=some w):(j<ys.length/\ys[j]?=some w)\/(j=ys.length/\w=v):=by
 by_cases hj:j<ys.length
 .rw[a9i hj] at e;exact .inl ⟨hj,e⟩
 .rw[a9l (by lia)] at e;have hj0:j - ys.length=0:=by
   cases q:j - ys.length with
   | zero=>rfl
   | succ k=>rw[q] at e;simp at e
  rw[hj0] at e;exact .inr ⟨by lia,by simpa using e.symm⟩
theorem cZ.snoc{H:Hp}{D:Option Addr}{ys:List V}{css:List (List Pl)}{l:Addr}{us:List V}{c:List Pl}(h:cZ H D ys css)(hl:some l≠D)(h1:H l=some (.lst us))(h2:v7 H us c):cZ H D (ys++[.ref l]) (css++[c]):=by
 refine⟨by rw[a9b,a9b,h.len];rfl,fun i v c' e1 e2=>?_⟩;rcases iR e1 with⟨q1,q2⟩ | ⟨q1,rfl⟩
 .rcases iR e2 with⟨p1,p2⟩ | ⟨p1,_⟩
  .exact h.get i v c' q2 p2
  .have:=h.len;lia
 .rcases iR e2 with⟨p1,p2⟩ | ⟨p1,rfl⟩
  .have:=h.len;lia
  .exact⟨l,us,rfl,hl,h1,h2⟩
theorem cZ.upd{H:Hp}{D:Addr}{ys zs ws:List V}{css:List (List Pl)}(h:cZ H (some D) ys css)(hD:H D=some (.lst zs)):cZ (upd H D (.lst ws)) (some D) ys css:=by
 refine⟨h.len,fun i v c e1 e2=>?_⟩;obtain⟨l,us,r1,r2,r3,r4⟩:=h.get i v c e1 e2;have n:l≠D:=fun z=>r2 (by rw[z]);exact⟨l,us,r1,r2,by rw[i9 n];exact r3,r4.tup (bR.lst hD)⟩
theorem rK{K:a8z}{a:Addr}{xs:List V}{css:List (List Pl)}{H1:Hp}{wi2:TI}{te:TE}{cs:L2.St}{Q:VK}(hS:H1 a=some (.lst xs))(hC:cZ H1 none xs css)(hn:css.length<=1000)(hh:∀ (l:Addr) (us:List V) (c:List Pl) (o:Option V) (H2:Hp) (R:It->Hp->Prop),c∈css->H2 l=some (.lst us)->v7 H2 us c->(∀ p l1 l2 u1 u2 H3,b9 H2 H3->H3 p=some (.tup [.ref l1,.ref l2])->H2 l1=none->H2 l2=none->H3 l1=some (.lst u1)->H3 l2=some (.lst u2)->v7 H3 u1 (kN c)->v7 H3 u2 (kL c)->R (a6c K p) H3)->wi2 (some (.ref l)::o::cs) H2 R)(ht:∀ (v:V) (o:Option V) (H2:Hp) (k:VK),k v H2->te (o::some v::cs) H2 k)(hq:∀ D ys H2,H1 D=none->b9 H1 H2->H2 D=some (.lst ys)->cZ H2 none ys (x6 css)->Q (.ref D) H2) :
 oY 2 (M4 K a) H1 (aU 0) wi2 (aU 1) te cs Q:=by
 intro D hD;have nil0:cZ (upd H1 D (.lst [])) (some D) [] (x6 (css.take 0)):=⟨by rw[b9n];rfl,fun i v c e=>by simp at e⟩
 have hxl:=hC.len;refine⟨fun i m ys H2=>m=css.length - i/\i<=css.length/\b9 H1 H2/\H2 D=some (.lst ys)/\cZ H2 (some D) ys (x6 (css.take i)),⟨css.length,by simp,b1m _,b9.new hD,b7,nil0⟩,?_⟩;rintro i m ys H2 ⟨rfl,hi,s2,d2,r2⟩;by_cases hlt:i<css.length
 .have ec:css[i]?=some css[i]:=a8y hlt;obtain⟨l,us,el,hl,hP⟩:=(hC.same s2).at ec;refine .inr ⟨⟨xs,_,o7.of (s2 _ _ hS),el⟩,fun x H' y own ho=>?_⟩;obtain⟨rfl,hy⟩:=y;have hx:=hy xs (o7.of (s2 _ _ hS));rw[el] at hx;obtain rfl:V.ref l=x:=a9t.inj hx;obtain⟨o1,o2,rfl⟩ : ∃ o1 o2,own=[o1,o2]:=by
   match own,ho with
   | [o1,o2],_=>exact⟨o1,o2,rfl⟩
  refine⟨[some (.ref l),o2],rfl,rfl,hh l us _ o2 H' _ (a9n hlt) hl hP fun p l1 l2 u1 u2 H3 s3 hp f1 f2 g1 g2 P1 P2=>?_⟩;have n1:l1≠D:=fun z=>by rw[z,d2] at f1;cases f1
  have n2:l2≠D:=fun z=>by rw[z,d2] at f2;cases f2
  have e12:x6 (css.take (i+1))=x6 (css.take i)++[kN css[i]]++[kL css[i]]:=by
   rw[jH ec,rJ];simp
  have hsz:=r2.len;rw[mK,b0d] at hsz;have hfree:H1 D=none:=hD;refine⟨fun j m2 ys2 own2 H6=>m2=2 - j/\j<=2/\(∃ o,own2=[some (.ref l),o])/\b9 H1 H6/\H6 p=some (.tup [.ref l1,.ref l2])/\H6 l1=some (.lst u1)/\H6 l2=some (.lst u2)/\v7 H6 u1 (kN css[i])/\v7 H6 u2 (kL css[i])/\H6 D=some (.lst ys2)/\ys2.length=ys.length+j/\cZ H6 (some D) ys2 (x6 (css.take i)++([kN css[i],kL css[i]].take j)),
   ⟨2,rfl,by decide,⟨o2,rfl⟩,s2.trans s3,hp,g1,g2,P1,P2,s3 _ _ d2,rfl,by rw[b9n,b2u];exact r2.same s3⟩,?_⟩
  rintro j m2 ys2 own2 H6 ⟨rfl,hj,⟨o,rfl⟩,s6,hp6,h61,h62,Q1,Q2,d6,hl6,r6⟩;have stepU:∀ ws,b9 H1 (upd H6 D (.lst ws)):=fun ws b q e=>by rw[i9 (n8 e hD)];exact s6 _ _ e
  have npD:p≠D:=fun z=>by rw[z,d6] at hp6;cases hp6
  by_cases hj2:j<2
  .refine .inr ⟨⟨_,_,aj.of hp6,a8y (by exact hj2)⟩,fun x2 H7 y2 ho2=>?_⟩;obtain⟨rfl,hy2⟩:=y2;have hx2:=hy2 _ (aj.of hp6);refine⟨[some (.ref l),some x2],rfl,rfl,ht _ _ _ _ ?_⟩;refine⟨d6,j8 (by lia),2 - (j+1),by lia,rfl,by lia,⟨_,rfl⟩,stepU _,by rw[i9 npD];exact hp6,by rw[i9 n1];exact h61,by rw[i9 n2];exact h62,Q1.tup (bR.lst d6),Q2.tup (bR.lst d6),b7,by rw[a9b,hl6];rfl,?_⟩;have hj3:j=0\/j=1:=by lia
   rcases hj3 with rfl | rfl
   .obtain rfl:V.ref l1=x2:=a9t.inj hx2;show cZ _ _ _ (x6 (css.take i)++[kN css[i]]);exact (cZ.upd (by simpa using r6) d6).snoc (fun z=>n1 (a9t.inj z)) (by rw[i9 n1];exact h61) (Q1.tup (bR.lst d6))
   .obtain rfl:V.ref l2=x2:=a9t.inj hx2;show cZ _ _ _ (x6 (css.take i)++[kN css[i],kL css[i]]);have:=(cZ.upd r6 d6 (ws:=ys2++[.ref l2])).snoc (l:=l2) (fun z=>n2 (a9t.inj z)) (by rw[i9 n2];exact h62) (Q2.tup (bR.lst d6));rw[a9z] at this;exact this
  .have hj3:j=2:=by lia
   subst hj3;refine .inl ⟨⟨_,aj.of hp6,by show 2<=2;decide⟩,css.length - (i+1),by lia,rfl,by lia,s6,d6,?_⟩;rw[e12,a9z];exact r6
 .have e:i=css.length:=by lia
  subst e;rw[b3e] at r2;refine .inl ⟨⟨xs,o7.of (s2 _ _ hS),by lia⟩,hq D ys H2 hD s2 d2 ⟨r2.len,fun i v c e1 e2=>?_⟩⟩;obtain⟨l,us,q1,q2,q3,q4⟩:=r2.get i v c e1 e2;exact⟨l,us,q1,fun z=>(by cases z),q3,q4⟩
theorem gm.congr{K:a8z}{J:It}{H1:Hp}{n m:Nat}{f g f' g':Nat->V}(h:gm K J H1 n f g)(hn:n=m)(hf:∀ i,i<n->f i=f' i)(hg:∀ i,i<n->g i=g' i):gm K J H1 m f' g':=fun H2 s i=>by
 subst hn;refine⟨fun hi=>⟨((h H2 s i).1 hi).1,fun x H' y=>?_⟩,(h H2 s i).2⟩;have q:=((h H2 s i).1 hi).2 x H' y;rw[hf i hi,hg i hi] at q;exact q
noncomputable def a6l:V->Addr
 | .ref a=>a
 | _=>0
theorem Z4{K:a8z}{a b:Addr}{rs:List V}{c:List Pl}{H1:Hp}{te:TE}{cs:L2.St}{Q:VK}(h1:H1 a=some (.lst rs))(hP:v7 H1 rs c)(h2:H1 b=some (.lst (rs.drop 1)))(hn:c.length<=100000)(he:∀ (H2:Hp) (k:VK) (x y u v:Int),b9 H1 H2->(∀ w H3,b9 H2 H3->wf H3 w ((x+u) / 2) ((y+v) / 2)->k w H3)->te (some (.int x)::some (.int y)::some (.int u)::some (.int v)::cs) H2 k)(hq:∀ D ys H2,H1 D=none->b9 H1 H2->H2 D=some (.lst ys)->v7 H2 ys (tO c)->Q (.ref D) H2) :
 de 4 (Itz K a b) H1 (mM K 2 (cu (mM K 2 (cu (aU 0) (cu (aU 1) nK))) (cu (mM K 2 (cu (aU 2) (cu (aU 3) nK))) nK))) te cs Q:=by
 have hl:=hP.len;have g0:∀ i,i<c.length->rs[i]?=some (.ref (a6l ((rs[i]?).getD .non)))/\H1 (a6l ((rs[i]?).getD .non))=some (.tup [.int ((c[i]?).getD (0,0)).1,.int ((c[i]?).getD (0,0)).2]):=fun i hi=>by
  obtain⟨z,ez,hz⟩:=hP.at (a8y hi);rw[ez,a8y hi];exact⟨rfl,hz⟩
 have J:=(oy (o7.of (K:=K) h1) (o7.of (K:=K) h2)).congr (m:=c.length - 1) (f':=fun i=>.ref (a6l ((rs[i]?).getD .non))) (g':=fun i=>.ref (a6l ((rs[i+1]?).getD .non))) (by rw[b0e];lia)
  (fun i hi=>by rw[b0e] at hi;show (rs[i]?).getD .non=_;rw[(g0 i (by lia)).1];rfl)
  (fun i hi=>by rw[b0e] at hi;show ((rs.drop 1)[i]?).getD .non=_;rw[b2r,b8k 1 i,(g0 (i+1) (by lia)).1];rfl)
 refine a5o (fa:=fun i=>a6l ((rs[i]?).getD .non)) (ga:=fun i=>a6l ((rs[i+1]?).getD .non)) (x:=fun i=>.int ((c[i]?).getD (0,0)).1) (y:=fun i=>.int ((c[i]?).getD (0,0)).2) (u:=fun i=>.int ((c[i+1]?).getD (0,0)).1) (v:=fun i=>.int ((c[i+1]?).getD (0,0)).2) J
  (fun i hi=>aj.of (g0 i (by lia)).2) (fun i hi=>aj.of (g0 (i+1) (by lia)).2) (by lia)
  (fun i v H=>wf H v ((((c[i]?).getD (0,0)).1+((c[i+1]?).getD (0,0)).1) / 2) ((((c[i]?).getD (0,0)).2+((c[i+1]?).getD (0,0)).2) / 2)) (fun _ _ _ _ t h=>h.tup t)
  (fun i H2 k hi s2 hk=>he H2 k _ _ _ _ s2 fun w H3 s3 hw=>hk w H3 s3 hw) (fun D ys H2 hD s2 hd hyl hr=>hq D ys H2 hD s2 hd ⟨by rw[jq];exact hyl,fun i v p e1 e2=>?_⟩)
 have hi:i<ys.length:=(a9c.mp e1).1;have q:=hr i v e1;have f1:c[i]?=some (c[i]'(by omega (config:={}))):=a8y _;have f2:c[i+1]?=some (c[i+1]'(by omega (config:={}))):=a8y _;rw[pU f1 f2] at e2;cases e2;rw[f1,f2] at q;exact q
noncomputable def a6j(σ:L2.St)(H:Hp):Nat:=match (show List (Option V) from σ)[3]? with
 | some (some (V.ref l))=>(match H l with | some (.lst xs)=>xs.length | _=>0)
 | _=>0
theorem zZ{a b c:Option V}{l:Addr}{H:Hp}{xs:List V}(h:H l=some (.lst xs)):a6j [a,b,c,some (.ref l)] H=xs.length:=by
 unfold a6j;show (match H l with | some (.lst xs)=>xs.length | _=>0)=_;rw[h]
theorem v7.rev{H:Hp}{us:List V}{pl:List Pl}(h:v7 H us pl):v7 H us.reverse pl.reverse:=by
 have hl:=h.len;refine⟨by rw[b0x,b0x,hl],fun i w q e1 e2=>?_⟩;have hi:i<us.length:=by have:=(a9c.mp e1).1;rwa [b0x] at this
 rw[b2p hi] at e1;rw[b2p (by lia)] at e2;rw[hl] at e1;exact h.get _ w q e1 e2
theorem B6(c:List Pl):((b0y c.length).map fun r=>((cM c r)[c.length - 1 - r]?).getD (0,0)).reverse=kL c:=by
 unfold kL;refine b1j fun i=>?_;by_cases hi:i<c.length
 .rw[b2p (by simp;lia),a9h,a9h,b3r hi,a9a,b1d,b3r (by lia)];show some (((cM c (c.length - 1 - i))[c.length - 1 - (c.length - 1 - i)]?).getD (0,0))=some (((cM c (c.length - 1 - i))[i]?).getD (0,0));rw[show c.length - 1 - (c.length - 1 - i)=i by lia]
 .rw[a9v (by simp;lia),a9v (by simp;lia)]
theorem yz{c:List Pl}{r:Nat}(h:r<c.length){rs:List V}{H:Hp}(hP:v7 H rs (cM c r)):∃ v,rs[rs.length - 1]?=some v/\wf H v (((cM c r)[c.length - 1 - r]?).getD (0,0)).1 (((cM c r)[c.length - 1 - r]?).getD (0,0)).2:=by
 have hl:=hP.len;have hr:=dI c r;have e:(cM c r)[c.length - 1 - r]?=some ((cM c r)[c.length - 1 - r]'(by omega (config:={}))):=a8y _;obtain⟨a,ea,ha⟩:=hP.at e;rw[e];refine⟨_,by rw[hl,hr,show c.length - r - 1=c.length - 1 - r by lia];exact ea,a,rfl,ha⟩
theorem iP{x W D:Int}{m:Nat}(hW:0<W)(hD:0<D)(hWD:W∣D)(ho:Ov D m (a9e x W)):Sz m x:=by
 obtain⟨c,rfl⟩:=hWD;have hc:0<c:=by
  rcases b7q c 0 with h | h | h
  .have:=b5c hW h;lia
  .rw[h,Int.mul_zero] at hD;lia
  .exact h
 have w0:(W:Rat)≠0:=fun z=>by have:=Rat.intCast_inj.mp (z.trans (Rat.intCast_zero).symm);lia
 obtain⟨a,ea,za⟩:=ho;rw[kF,a9u] at ea;have e:((x*c:Int):Rat)=(a:Rat):=by
  rw[<- ea,a9u];grind
 have z:Sz m (x*c):=by rw[Rat.intCast_inj.mp e];exact za
 exact z.le (by rw[b3q];exact Nat.le_mul_of_pos_right _ (by lia))
theorem xX{R:Int}{t1 t2:List Int}(h:t1.length=t2.length):(sv R t1 t2).length=t1.length:=by unfold sv;rw[b2m];lia
theorem a2c{R:Int}(hR:R≠0){t1 t2 b1 b2:List Int}{ps:List Pt}(e1:K8 t1 b1=ps.map (·.1))(e2:K8 t2 b2=ps.map (·.2)):aW (j0 b1*R) (j0 b2*R) (sv R t1 t2)=ps:=by
 have l1:t1.length=ps.length:=by have:=congrArg b3g e1;rw[lD,a9a] at this;exact this
 have l2:t2.length=ps.length:=by have:=congrArg b3g e2;rw[lD,a9a] at this;exact this
 refine b1j fun i=>?_;by_cases hi:i<ps.length
 .have f1:t1[i]?=some (t1[i]'(by omega (config:={}))):=a8y _;have f2:t2[i]?=some (t2[i]'(by omega (config:={}))):=a8y _;have g1:=congrArg (fun l=>l[i]?) e1;have g2:=congrArg (fun l=>l[i]?) e2;simp only[K8,a9h,f1,f2,a8y hi,Option.map_some,a9t.injEq] at g1 g2;unfold aW sv;rw[a9h,b2e,f1,f2,a8y hi];show some (a9e _ _,a9e _ _)=_;rw[b4w hR,b4w hR,g1,g2]
 .rw[a9v (by rw[bL,xX (by lia)];lia),a9v (by lia)]
theorem xW{R:Int}{t1 t2:List Int}{p:Pl}(h:p∈sv R t1 t2):∃ x y,x∈t1/\y∈t2/\p=(x*R,y*R):=by
 unfold sv at h;obtain⟨i,hi,rfl⟩:=a9o h;rw[b2m] at hi;rw[List.getElem_zipWith];exact⟨_,_,a9n _,a9n _,rfl⟩
theorem a2d(k:Nat)(t1 t2:List Int):ko k (sv (2^k) t1 t2):=fun p hp=>by
 obtain⟨x,y,_,_,rfl⟩:=xW hp;exact⟨⟨x,b1f _ _⟩,⟨y,b1f _ _⟩⟩
theorem bt(k:Nat):Sz (k+1) ((2:Int)^k):=⟨by
 have e:((2:Int)^k).natAbs=2^k:=by
  rw[Int.natAbs_pow];rfl
 rw[e,b4o];have:=b5i k;lia⟩
theorem a6q{k m:Nat}{t1 t2:List Int}(h1:∀ x∈t1,Sz m x)(h2:∀ x∈t2,Sz m x):du (m+(k+1)) (sv (2^k) t1 t2):=fun p hp=>by
 obtain⟨x,y,hx,hy,rfl⟩:=xW hp;exact⟨(h1 x hx).mul (bt k),(h2 y hy).mul (bt k)⟩
theorem uL{t b:List Int}{qs:List Rat}{D:Int}{m:Nat}(hW:0<j0 b)(hD:0<D)(hWD:j0 b∣D)(e:K8 t b=qs)(ho:∀ q∈qs,Ov D m q):∀ x∈t,Sz m x:=fun x hx=>by
 refine iP hW hD hWD (ho _ ?_);rw[<- e];exact a9m.mpr ⟨x,hx,rfl⟩
theorem bX(k:Nat):(0:Int)<2^k:=by
 have:=b5i k;have e:((2^k:Nat):Int)=(2:Int)^k:=by simp
 rw[<- e];lia
structure a6o(H:Hp)(v:V)(l:Addr)(ws:List V)(ps:List Pt)(B:Int)(mo:Nat):Prop where
 ref:v=.ref l
 lst:H l=some (.lst ws)
 pts:aa H ws ps
 l1:1<=ps.length
 l2:ps.length<=mo
 ov:∀ p∈ps,ki B 110 p
theorem a6o.same{H H':Hp}{v:V}{l:Addr}{ws:List V}{ps:List Pt}{B:Int}{mo:Nat}(h:a6o H v l ws ps B mo)(s:b9 H H'):a6o H' v l ws ps B mo:=⟨h.ref,s _ _ h.lst,h.pts.same s,h.l1,h.l2,h.ov⟩
noncomputable def yn(K:a8z):Sp:=fun vs H Q _=>∃ (a:Addr) (ns:List Int) (mo:Nat),vs=[.ref a,.int (mo:Int)]/\o7 K H a (ns.map V.int)/\1<=mo/\mo<=8/\
 ∀ (lb l0 l1:Addr) (w0 w1:List V) (p0 p1:List Pt) (B:Int) (H':Hp),b9 H H'->H lb=none->H' lb=some (.lst [.ref l0,.ref l1])->a6o H' (.ref l0) l0 w0 p0 B mo->a6o H' (.ref l1) l1 w1 p1 B mo->1<=B->B<=3->Q (.ref lb) H'
theorem eH{c s f:Int}(h1:c.natAbs<=12)(h2:s.natAbs<=10^30)(h3:f.natAbs<=10^30):Sz 110 (c*s+f)/\Sz 110 (c*s - f):=by
 have e:(c*s).natAbs<=12*10^30:=by rw[b3q];exact b4k h1 h2
 have p:(12:Nat)*10^30+10^30<2^110:=by decide
 have q:=b2s (Nat.add_le_add e h3) p;exact⟨⟨b2s (Int.natAbs_add_le _ _) q⟩,⟨b2s (Int.natAbs_sub_le _ _) q⟩⟩
theorem aa.rev{H:Hp}{us:List V}{ps:List Pt}(h:aa H us ps):aa H us.reverse ps.reverse:=by
 have hl:=h.len;refine⟨by rw[b0x,b0x,hl],fun i w q e1 e2=>?_⟩;have hi:i<us.length:=by have:=(a9c.mp e1).1;rwa [b0x] at this
 rw[b2p hi] at e1;rw[b2p (by lia)] at e2;rw[hl] at e1;exact h.get _ w q e1 e2
theorem cZ.drop{H:Hp}{D:Option Addr}{ys:List V}{css:List (List Pl)}(h:cZ H D ys css):cZ H none ys css:=
 ⟨h.len,fun i v c e1 e2=>by obtain⟨l,us,q1,q2,q3,q4⟩:=h.get i v c e1 e2;exact⟨l,us,q1,(fun z=>by cases z),q3,q4⟩⟩
theorem cZ.append{H:Hp}{D:Option Addr}{ys ys':List V}{css css':List (List Pl)}(h:cZ H D ys css)(h':cZ H D ys' css'):cZ H D (ys++ys') (css++css'):=by
 have hl:=h.len;refine⟨by rw[a9b,a9b,hl,h'.len],fun i v c e1 e2=>?_⟩;by_cases hi:i<ys.length
 .rw[a9i hi] at e1;rw[a9i (by lia)] at e2;exact h.get i v c e1 e2
 .rw[a9l (by lia)] at e1;rw[a9l (by lia),<- hl] at e2;exact h'.get _ v c e1 e2
end Cv
namespace Cv
noncomputable def cr(p q:Int×Int):Int:=p.1*q.2 - p.2*q.1
noncomputable def dt(w d:Int×Int):Int:=w.1*d.1+w.2*d.2
theorem lC(p:Int×Int):cr p p=0:=by unfold cr;grind
theorem uf(p q:Int×Int):cr q p=- cr p q:=by unfold cr;grind
noncomputable def sh(r l:Int×Int):Int×Int:=(l.2 - r.2,r.1 - l.1)
theorem wa(r l f:Int×Int):dt (sh r l) f=cr r f+cr f l:=by unfold dt sh cr;grind
theorem J9(r l f d:Int×Int):cr r l*cr d f=cr d l*cr r f+cr r d*cr l f:=by unfold cr;grind
theorem J7(r l f d:Int×Int):cr r l*cr f d=cr d l*cr f r+cr r d*cr f l:=by unfold cr;grind
theorem mv{a b:Int}(ha:0<a)(h:0<=a*b):0<=b:=by
 rcases c0l b 0 with z | z
 .have:=b5c ha z;lia
 .exact z
theorem xx{r l f d:Int×Int}(h:0<cr r l)(h1:0<cr r f)(h2:cr f l<0)(d1:0<=cr r d)(d2:0<=cr d l):0<=cr d f:=by
 refine mv h ?_;rw[J9];have a:=b2k d2 (show 0<=cr r f by lia);have b:=b2k d1 (show 0<=cr l f by rw[uf];lia);lia
theorem uh{r l f d:Int×Int}(h:0<cr r l)(h1:0<cr f l)(h2:cr r f<0)(d1:0<=cr r d)(d2:0<=cr d l):0<=cr f d:=by
 refine mv h ?_;rw[J7];have a:=b2k d2 (show 0<=cr f r by rw[uf];lia);have b:=b2k d1 (show 0<=cr f l by lia);lia
noncomputable def kb(r l d:Int×Int):Bool:=decide (0<=cr r d) && decide (0<=cr d l)
theorem rY{α:Type}{p q:α->Bool}{L:List α}{f:α}(h:∀ d∈L,p d=true->q d=true)(hf:f∈L)(hq:q f=true)(hp:p f=false):L.countP p<L.countP q:=by
 induction L with
 | nil=>cases hf
 | cons a L ih=>
   have le:L.countP p<=L.countP q:=List.countP_mono_left (fun d hd z=>h d (b0f _ hd) z);rw[List.countP_cons,List.countP_cons];rcases a9g.mp hf with rfl | hf'
   .rw[hp,hq];simp;lia
   .have:=ih (fun d hd=>h d (b0f _ hd)) hf';have ha:=h a b5l;cases hpa:p a with
    | false=>simp;split<;>lia
    | true=>rw[ha hpa];simp;lia
noncomputable def M3(L:List (Int×Int))(same:Bool)(r l:Int×Int):Nat:=if same then L.length+1 else L.length - L.countP (kb r l)
theorem rB{L:List (Int×Int)}{r l r' l':Int×Int}:M3 L false r' l' < M3 L true r l:=by
 unfold M3;simp;lia
theorem U7{L:List (Int×Int)}{r l f:Int×Int}(hf:f∈L)(h:0<cr r l)(hw:dt (sh r l) f<=0)(h1:0<cr r f):M3 L false r f<M3 L false r l:=by
 rw[wa] at hw;have h2:cr f l<0:=by lia
 have lt:=rY (p:=kb r l) (q:=kb r f) (L:=L) (f:=f) (fun d _ z=>by
  unfold kb at z ⊢;simp only[b1g,decide_eq_true_eq] at z ⊢;exact⟨z.1,xx h h1 h2 z.1 z.2⟩) hf (by unfold kb;simp[lC];lia) (by unfold kb;simp;intro _;lia)
 have b:=b9g (p:=kb r f) (l:=L);unfold M3;simp;lia
theorem zV{L:List (Int×Int)}{r l f:Int×Int}(hf:f∈L)(h:0<cr r l)(hw:dt (sh r l) f<=0)(h1:0<cr f l):M3 L false f l<M3 L false r l:=by
 rw[wa] at hw;have h2:cr r f<0:=by lia
 have lt:=rY (p:=kb r l) (q:=kb f l) (L:=L) (f:=f) (fun d _ z=>by
  unfold kb at z ⊢;simp only[b1g,decide_eq_true_eq] at z ⊢;exact⟨uh h h1 h2 z.1 z.2,z.2⟩) hf (by unfold kb;simp[lC];lia) (by unfold kb;simp;intro z;lia)
 have b:=b9g (p:=kb f l) (l:=L);unfold M3;simp;lia
end Cv
namespace Cv
open PySem PySem.Spec PyProof.Rows L2
section
variable {X:Cx}
noncomputable def a2u:V->List V->Hp->VK->Prop:=fun x vs H Q=>∃ (l:Addr) (ms:List Int) (y:Int) (j:Nat),x=.ref l/\vs=[.int y]/\H l=some (.lst (ms.map V.int))/\ms[j]?=some y/\(∀ m,m<j->ms[m]?≠some y)/\Q (.int (j:Int)) H
noncomputable def isI(y:Int):Value->Bool
 | .int i _=>i == y
 | _=>false
theorem rD:MtM X "list.index" a2u:=by
 intro c2t s σ H x vs v us Q I rx rv h;obtain⟨l,ms,y,j,rfl,rfl,hH,hj,hno,q⟩:=h;cases rx;obtain⟨u,rfl,ru⟩:=rv.one;obtain⟨tk,rfl⟩:=ru;obtain⟨z,its,n,r,hl,e⟩:=I.lstM hH;rw[a9a] at hl z;have hat:∀ (m:Nat) (i:Int),ms[m]?=some i->∃ t,its[m]?=some (.int i t):=fun m i hm=>by
  obtain⟨u,e1,e2⟩:=x9.get r (show (ms.map V.int)[m]?=some (.int i) by rw[a9h,hm];rfl);obtain⟨t,rfl⟩:=e2;exact⟨t,e1⟩
 have hjl:j<ms.length:=(a9c.mp hj).1;have hss:sizeLine<2^62:=by decide
 refine call_meets F.slot_list_index ⟨_,e,rfl⟩ F.entry_list_index (F.args_list_index_2 _ _) (PySem.SeqAt.list_indexAt l its.toArray n none #[] (.int y tk) (isI y) j (by rw[a9p];lia) (by lia) ?_ ?_) ⟨e,?_,?_⟩
 .obtain⟨t,et⟩:=hat j y hj;have:its.toArray[j]'(by rw[a9p];lia)=.int y t:=by
   rw[b9r];exact (a9c.mp et).2
  rw[this];simp[isI]
 .intro m hm hmj;rw[a9p] at hm;obtain⟨t,et⟩:=hat m (ms[m]'(by omega (config:={}))) (a8y _);have:its.toArray[m]'(by rw[a9p];lia)=.int (ms[m]'(by omega (config:={}))) t:=by
   rw[b9r];exact (a9c.mp et).2
  rw[this];have hne:=hno m hmj;rw[a8y (by lia)] at hne;simp only[isI];exact beq_eq_false_iff_ne.mpr (fun z=>hne (by rw[z]))
 .intro w hw;obtain⟨m,hm,rfl⟩:=a9o (List.mem_toArray.mp hw);obtain⟨t,et⟩:=hat m (ms[m]'(by omega (config:={}))) (a8y _);rw[(a9c.mp et).2];exact (MeetsSeq.EqGives.int _ _ _ _).at _ _
 .exact⟨.int (j:Int),_,I.tok _,⟨_,rfl⟩,q⟩
noncomputable def a0u(te:TE)(g1 g2:TG):TS:=fun D σ H=>te σ H fun x H1=>g1 x σ H1 fun σ' H'=>g2 x σ' H' D.nx
theorem Q3{t1 t2 e:a13}{te:TE}{g1 g2:TG}{pos:Pos}(he:PE X e te)(hg1:PG X t1 g1)(hg2:PG X t2 g2)(hs:a53 [t1,t2] e pos.line X.env=pure false:=by rfl)(hw:a54 [t1,t2] e X.env=pure none:=by rfl)(h1:(a24 [t1,t2] X.env).map (·.2)=[a29 t1 X.env,a29 t2 X.env]:=by rfl):PS X (.Assign [t1,t2] e pos) (a0u te g1 g2):=by
 intro c2t s σ H D I h;refine wpAny_Assign_stores (bA (he c2t s σ H _ I h) fun v s1 ⟨x,H1,I1,r1,q1⟩=>?_) hs hw;rw[h1];exact a00 (a16 (bA (hg1 c2t s1 σ H1 x v _ I1 r1 q1) fun _ s2 ⟨σ2,H2,I2,q2⟩=>bA (hg2 c2t s2 σ2 H2 x v _ I2 r1 q2) fun _ s3 q=>q))
theorem yJ{t1 t2 e:a13}{te:TE}{g1 g2:TG}{pos:Pos}(he:ao X e te)(hg1:qx X t1 g1)(hg2:qx X t2 g2)(hs:a53 [t1,t2] e pos.line X.env=pure false:=by rfl)(hw:a54 [t1,t2] e X.env=pure none:=by rfl)(h1:(a24 [t1,t2] X.env).map (·.2)=[a29 t1 X.env,a29 t2 X.env]:=by rfl):qv X (.Assign [t1,t2] e pos) (a0u te g1 g2):=by with_unfolding_all exact Q3 (he:=he) (hg1:=hg1) (hg2:=hg2) (hs:=hs) (hw:=hw) (h1:=h1)
end
theorem vG{K:a8z}{H:Hp}{B:Addr}{d:Option Addr}{s:Array (Option Value)}{n:Nat}{i j:Int}{t1 t2:Tok}(l:K.lookup B=some ⟨.type "tuple",d,.seq #[.int i t1,.int j t2] n,s⟩):aj K H B [.int i,.int j]:=
 .inr ⟨_,_,_,l,rfl,rfl,by show 2<=sizeLine;decide,.cons ⟨_,rfl⟩ (.cons ⟨_,rfl⟩ .nil)⟩
theorem a8e{K:a8z}{H:Hp}{A B1 B2 B3 B4:Addr}{d:Option Addr}{s:Array (Option Value)}{n:Nat}(l:K.lookup A=some ⟨.type "tuple",d,.seq #[.ref B1,.ref B2,.ref B3,.ref B4] n,s⟩):aj K H A [.ref B1,.ref B2,.ref B3,.ref B4]:=
 .inr ⟨_,_,_,l,rfl,rfl,by show 4<=sizeLine;decide,.cons rfl (.cons rfl (.cons rfl (.cons rfl .nil)))⟩
noncomputable def xI(n:Nat)(p:Pl):Prop:=Sz n p.1/\Sz n p.2
noncomputable def ve(K:a8z):Sp:=fun vs H Q _=>∃ (a b:Addr) (ws:List V) (pl:List Pl) (w:Pl),vs=[.ref a,.ref b]/\H a=some (.lst ws)/\v7 H ws pl/\aj K H b [.int w.1,.int w.2]/\du 2000 pl/\xI 2010 w/\pl.length<=1000/\
 ∀ (l:Addr) (H':Hp),b9 H H'->H l=none->H' l=some (.lst ((pl.map (dt w)).map V.int))->Q (.ref l) H'
noncomputable def pj(K:a8z):Sp:=fun vs H Q _=>∃ (a b:Addr) (ws us:List V) (pl ql:List Pl) (i j:Nat) (p q:Pl),vs=[.ref a,.ref b,.int (i:Int),.int (j:Int)]/\H a=some (.lst ws)/\v7 H ws pl/\H b=some (.lst us)/\v7 H us ql/\pl[i]?=some p/\ql[j]?=some q/\
 ∀ (c:Addr) (H':Hp),b9 H H'->H' c=some (.tup [.int (q.1 - p.1),.int (q.2 - p.2),.int (i:Int),.int (j:Int)])->Q (.ref c) H'
noncomputable def uS(K:a8z):Sp:=fun vs H Q _=>∃ (a b:Addr) (p q:Pl) (i j m n:Int),vs=[.ref a,.ref b]/\H a=some (.tup [.int p.1,.int p.2,.int i,.int j])/\H b=some (.tup [.int q.1,.int q.2,.int m,.int n])/\xI 2010 p/\xI 2010 q/\Q (.int (cr p q)) H
noncomputable def uV(K:a8z):Sp:=fun vs H Q _=>∃ (a b d:Addr) (ws us:List V) (pl ql:List Pl) (w:Pl),vs=[.ref a,.ref b,.ref d]/\H a=some (.lst ws)/\v7 H ws pl/\H b=some (.lst us)/\v7 H us ql/\aj K H d [.int w.1,.int w.2]/\du 2000 pl/\du 2000 ql/\xI 2010 w/\1<=pl.length/\1<=ql.length/\pl.length<=1000/\ql.length<=1000/\
 ∀ (c f:Addr) (i j:Nat) (p q:Pl) (H':Hp),b9 H H'->H' c=some (.tup [.int (dt w p),.int (dt w q),.ref f])->H' f=some (.tup [.int (q.1 - p.1),.int (q.2 - p.2),.int (i:Int),.int (j:Int)])->pl[i]?=some p->ql[j]?=some q->(∀ p'∈pl,dt w p'<=dt w p)->(∀ q'∈ql,dt w q<=dt w q')->Q (.ref c) H'
theorem rS{ms:List Int}{y:Int}(h:y∈ms):∃ j:Nat,ms[j]?=some y/\∀ m,m<j->ms[m]?≠some y:=by
 induction ms with
 | nil=>cases h
 | cons a ms ih=>
   by_cases e:a=y
   .exact⟨0,by rw[e];rfl,fun m hm=>by lia⟩
   .rcases a9g.mp h with z | z
    .exact absurd z.symm e
    .obtain⟨j,h1,h2⟩:=ih z;refine⟨j+1,by simpa using h1,fun m hm=>?_⟩;cases m with
     | zero=>simpa using e
     | succ m=>have:=h2 m (by lia);simpa using this
theorem W8{us:List V}{pl:List Pl}{w:Pl}(hl:us.length=pl.length)(h:∀ (i:Nat) v,us[i]?=some v->v=V.int (dt w ((pl[i]?).getD (0,0)))):us=(pl.map (dt w)).map V.int:=by
 refine b1j fun i=>?_;rw[a9h,a9h];by_cases hi:i<us.length
 .have e:us[i]?=some us[i]:=a8y hi;have e2:pl[i]?=some (pl[i]'(by omega (config:={}))):=a8y _;have:=h i _ e;rw[e2] at this;rw[e,this,e2];rfl
 .rw[a9v (by lia),a9v (by lia)];rfl
abbrev kU:=Pl×Int×Int
noncomputable def StV(H:Hp)(v:V)(s:kU):Prop:=∃ a:Addr,v=.ref a/\H a=some (.tup [.int s.1.1,.int s.1.2,.int s.2.1,.int s.2.2])
noncomputable def gg(s:kU):b1p:=.tuple [.int s.1.1,.int s.1.2,.int s.2.1,.int s.2.2]
theorem hU{s t:kU}:gg s=gg t↔s=t:=by
 obtain⟨⟨a,b⟩,c,d⟩:=s;obtain⟨⟨a',b'⟩,c',d'⟩:=t;unfold gg;simp;constructor
 .rintro⟨h1,h2,h3,h4⟩;exact⟨⟨h1,h2⟩,h3,h4⟩
 .rintro⟨⟨h1,h2⟩,h3,h4⟩;exact⟨h1,h2,h3,h4⟩
theorem jv(s:kU)(n:Nat):a9y (n+2) (gg s)=true:=by
 simp[gg,a9y]
theorem Y8{K:a8z}{H:Hp}{v:V}{s:kU}(h:StV H v s):Dn K H (gg s) v:=by
 obtain⟨a,rfl,h⟩:=h;unfold gg;simp only[Dn,bj];exact⟨a,_,rfl,aj.of h,_,_,rfl,rfl,_,_,rfl,rfl,_,_,rfl,rfl,_,_,rfl,rfl,rfl⟩
noncomputable def cV(r l:kU):Pl:=if r=l then r.1 else sh r.1 l.1
noncomputable def yp(K:a8z):Sp:=fun vs H Q _=>∃ (x y:V) (r l:kU),vs=[x,y]/\StV H x r/\StV H y l/\
 ∀ (c:Addr) (H':Hp),b9 H H'->H' c=some (.tup [.int (cV r l).1,.int (cV r l).2])->Q (.ref c) H'
structure StsV(H:Hp)(vs:List V)(ss:List kU):Prop where
 len:vs.length=ss.length
 get:∀ (i:Nat) v s,vs[i]?=some v->ss[i]?=some s->StV H v s
noncomputable def qo(ss:List kU):Prop:=(∃ r,ss=[r]/\r.1=(0,0))\/(∃ r f,ss=[r,f]/\cr r.1 f.1=0/\dt r.1 f.1<=0/\r.1≠(0,0))\/(∃ r l f,ss=[r,l,f]/\0<cr r.1 l.1/\cr r.1 f.1<=0/\cr f.1 l.1<=0)
noncomputable def eE(pl ql:List Pl)(s:kU):Prop:=∃ (i j:Nat) (p q:Pl),pl[i]?=some p/\ql[j]?=some q/\s=((q.1 - p.1,q.2 - p.2),(i:Int),(j:Int))
noncomputable def qL(K:a8z):Sp:=fun vs H Q _=>∃ (a b:Addr) (ws us:List V) (pl ql:List Pl) (n:Nat),vs=[.ref a,.ref b]/\H a=some (.lst ws)/\v7 H ws pl/\H b=some (.lst us)/\v7 H us ql/\du n pl/\du n ql/\1<=n/\n<=2000/\1<=pl.length/\1<=ql.length/\pl.length<=1000/\ql.length<=1000/\
 (∀ (c d e:Addr) (w p q:Pl) (H':Hp),b9 H H'->H' c=some (.tup [.ref d,.ref e])->H' d=some (.tup [.int w.1,.int w.2,.int (dt w p+dt w q)])->H' e=some (.lst [])->xI (n+2) w->p∈pl->q∈ql->dt w p<dt w q->(∀ p'∈pl,dt w p'<=dt w p)->(∀ q'∈ql,dt w q<=dt w q')->Q (.ref c) H')/\
 (∀ (c e:Addr) (vs:List V) (ss:List kU) (H':Hp),b9 H H'->H' c=some (.tup [.non,.ref e])->H' e=some (.lst vs)->StsV H' vs ss->(∀ s∈ss,eE pl ql s)->qo ss->Q (.ref c) H')
theorem lG{c:TT}{tb:TS}{D:kl}{σ:L2.St}{H:Hp}(Pv:Nat->L2.St->Hp->Prop){m0:Nat}(h0:Pv m0 σ H)(hs:∀ m σ H,Pv m σ H->c σ H fun b H1=>if b=true then tb { D with nx:=fun σ' H'=>∃ m',m' < m/\Pv m' σ' H',ct:=fun σ' H'=>∃ m',m' < m/\Pv m' σ' H',bk:=D.nx } σ H1 else D.nx σ H1)(mono:∀ σ H Q Q',(∀ b H1,Q b H1->Q' b H1)->c σ H Q->c σ H Q'):pd c tb D σ H:=by
 refine⟨Pv,⟨_,h0⟩,?_⟩;intro m σ H p;refine mono σ H _ _ (fun b H1 q=>?_) (hs m σ H p);cases b with
 | true=>exact⟨_,fun σ' H' z=>z,q⟩
 | false=>exact q
noncomputable def a1x(pl ql:List Pl):List Pl:=pl.flatMap fun p=>ql.map fun q=>(q.1 - p.1,q.2 - p.2)
theorem eE.mem{pl ql:List Pl}{s:kU}(h:eE pl ql s):s.1∈a1x pl ql:=by
 obtain⟨i,j,p,q,h1,h2,rfl⟩:=h;exact b3s.mpr ⟨p,a9f h1,a9m.mpr ⟨q,a9f h2,rfl⟩⟩
theorem eE.sz{n:Nat}{pl ql:List Pl}{s:kU}(h:eE pl ql s)(zp:du n pl)(zq:du n ql):xI (n+1) s.1:=by
 obtain⟨i,j,p,q,h1,h2,rfl⟩:=h;have a:=zp _ (a9f h1);have b:=zq _ (a9f h2);exact⟨Sz.mono (Sz.sub b.1 a.1) (by lia),Sz.mono (Sz.sub b.2 a.2) (by lia)⟩
noncomputable def jy(r l:kU):Prop:=(r=l/\r.1≠(0,0))\/0<cr r.1 l.1
noncomputable def mS(L:List Pl)(r l:kU):Nat:=M3 L (decide (r=l)) r.1 l.1
theorem jy.ne{r l:kU}(h:0<cr r.1 l.1):r≠l:=fun e=>by subst e;rw[lC] at h;lia
theorem N1{n:Nat}{r l:kU}(hr:xI n r.1)(hl:xI n l.1):xI (n+1) (cV r l):=by
 unfold cV;split
 .exact⟨Sz.mono hr.1 (by lia),Sz.mono hr.2 (by lia)⟩
 .exact⟨Sz.mono (Sz.sub hl.2 hr.2) (by lia),Sz.mono (Sz.sub hr.1 hl.1) (by lia)⟩
theorem a5l(w p q:Pl):dt w (q.1 - p.1,q.2 - p.2)=dt w q - dt w p:=by unfold dt;grind
theorem wv{L:List Pl}{r l f:kU}(hf:f.1∈L)(h:jy r l)(hw:dt (cV r l) f.1<=0)(h1:0<cr r.1 f.1):jy r f/\mS L r f<mS L r l:=by
 refine⟨.inr h1,?_⟩;have e1:decide (r=f)=false:=decide_eq_false (jy.ne h1);rcases h with⟨rfl,h0⟩ | h
 .unfold mS;rw[e1,decide_eq_true rfl];exact rB
 .have e2:decide (r=l)=false:=decide_eq_false (jy.ne h);have e3:cV r l=sh r.1 l.1:=if_neg (jy.ne h);unfold mS;rw[e1,e2];rw[e3] at hw;exact U7 hf h hw h1
theorem sH{L:List Pl}{r l f:kU}(hf:f.1∈L)(h:jy r l)(hw:dt (cV r l) f.1<=0)(h1:0<cr f.1 l.1):jy f l/\mS L f l<mS L r l:=by
 refine⟨.inr h1,?_⟩;have e1:decide (f=l)=false:=decide_eq_false (jy.ne h1);rcases h with⟨rfl,h0⟩ | h
 .unfold mS;rw[e1,decide_eq_true rfl];exact rB
 .have e2:decide (r=l)=false:=decide_eq_false (jy.ne h);have e3:cV r l=sh r.1 l.1:=if_neg (jy.ne h);unfold mS;rw[e1,e2];rw[e3] at hw;exact zV hf h hw h1
theorem Y6{r f:kU}(h:jy r r)(hw:dt (cV r r) f.1<=0)(h1:¬ 0<cr r.1 f.1)(h2:¬ 0<cr f.1 r.1):qo [r,f]:=by
 rcases h with⟨_,h0⟩ | h
 .have e3:cV r r=r.1:=if_pos rfl;rw[e3] at hw;rw[uf] at h2;exact .inr (.inl ⟨r,f,rfl,by lia,hw,h0⟩)
 .rw[lC] at h;lia
theorem xu{r l f:kU}(h:jy r l)(hn:r≠l)(h1:¬ 0<cr r.1 f.1)(h2:¬ 0<cr f.1 l.1):qo [r,l,f]:=by
 rcases h with⟨h0,_⟩ | h
 .exact absurd h0 hn
 .exact .inr (.inr ⟨r,l,f,rfl,h,by lia,by lia⟩)
theorem du.mono{n m:Nat}{c:List Pl}(h:du n c)(e:n<=m):du m c:=fun p hp=>⟨(h p hp).1.mono e,(h p hp).2.mono e⟩
theorem J4(x y:Int)(n:Nat):a9y (n+2) (.tuple [.int x,.int y])=true:=by simp[a9y]
theorem a1u{K:a8z}{H:Hp}{a:Addr}{x y:Int}(h:aj K H a [.int x,.int y]):Dn K H (.tuple [.int x,.int y]) (.ref a):=by
 simp only[Dn,bj];exact⟨a,_,rfl,h,_,_,rfl,rfl,_,_,rfl,rfl,rfl⟩
theorem a0w(a:Int):0<=a*a:=by
 rcases Int.le_total 0 a with h | h
 .exact b2k h h
 .have:=b2k (show 0<=-a by lia) (show 0<=-a by lia);grind
theorem ky{a b:Int}(ha:0<a)(h:0<a*b):0<b:=by
 rcases c0l 0 b with z | z
 .exact z
 .have:=Int.mul_le_mul_of_nonneg_left z (show 0<=a by lia);simp at this;lia
section
variable {K:a8z} {J:It} {H1:Hp} {te:TE} {cs:L2.St} {Q:VK} {n:Nat}
theorem a8n{fa:Nat->Addr}{x y u v:Nat->V}(hJ:fv J H1 n (fun i=>.ref (fa i)))(hf:∀ i,i<n->aj K H1 (fa i) [x i,y i,u i,v i])(hn:n<=100000)(R:Nat->V->Hp->Prop)(hR:∀ i v H H',bR H H'->R i v H->R i v H')(he:∀ i H2 (k:VK),i<n->b9 H1 H2->(∀ v H3,b9 H2 H3->R i v H3->k v H3)->te (some (x i)::some (y i)::some (u i)::some (v i)::cs) H2 k)(hq:∀ D ys H2,H1 D=none->b9 H1 H2->H2 D=some (.lst ys)->ys.length=n->(∀ i v,ys[i]?=some v->R i v H2)->Q (.ref D) H2) :
 de 4 J H1 (mM K 4 (cu (aU 0) (cu (aU 1) (cu (aU 2) (cu (aU 3) nK))))) te cs Q:=by
 intro D hD;refine⟨fun i m ys H2=>m=n - i/\i<=n/\ys.length=i/\b9 H1 H2/\H2 D=some (.lst ys)/\∀ j v,ys[j]?=some v->R j v H2,⟨n,by simp,b1m _,rfl,b9.new hD,b7,fun j v e=>by simp at e⟩,?_⟩;rintro i m ys H2 ⟨rfl,hi,hl,s2,d2,r2⟩;by_cases hlt:i<n
 .refine .inr ⟨((hJ H2 s2 i).1 hlt).1,fun x' H' y' own ho=>?_⟩;obtain⟨rfl,rfl⟩:=((hJ H2 s2 i).1 hlt).2 x' H' y';obtain⟨o1,o2,o3,o4,rfl⟩ : ∃ o1 o2 o3 o4,own=[o1,o2,o3,o4]:=by
   match own,ho with
   | [o1,o2,o3,o4],_=>exact⟨o1,o2,o3,o4,rfl⟩
  refine⟨fa i,_,rfl,aj.same s2 (hf i hlt),rfl,_,_,rfl,_,_,rfl,_,_,rfl,_,_,rfl,rfl,⟨[some (x i),some (y i),some (u i),some (v i)],rfl,rfl⟩,he i _ _ hlt s2 fun v H3 s3 r3=>⟨s3 _ _ d2,j8 (by lia),n - (i+1),by lia,rfl,hlt,by rw[a9b,hl];rfl,fun b o e=>?_,b7,fun j w e=>?_⟩⟩
  .rw[i9 (n8 e hD)];exact s3 _ _ (s2 _ _ e)
  .have t3:bR H3 (upd H3 D (.lst (ys++[v]))):=bR.lst (s3 _ _ d2);by_cases hj:j<ys.length
   .rw[a9i hj] at e;exact hR _ _ _ _ (s3.tup.trans t3) (r2 j w e)
   .rw[a9l (by lia)] at e;have hj0:j - ys.length=0:=by
     cases q:j - ys.length with
     | zero=>rfl
     | succ k=>rw[q] at e;simp at e
    rw[hj0] at e;have e':v=w:=by simpa using e
    have hji:j=i:=by lia
    rw[<- e',hji];exact hR _ _ _ _ t3 r3
 .have e:i=n:=by lia
  subst e;exact .inl ⟨(hJ H2 s2 i).2 rfl,hq D ys H2 hD s2 d2 hl r2⟩
end
noncomputable def lK:Sp:=fun vs H Q _=>∃ (d:Addr) (w:Pl) (c bx bY rm:Int),vs=[.ref d,.int bx,.int bY,.int rm]/\H d=some (.tup [.int w.1,.int w.2,.int c])/\xI 9000 w/\Sz 9000 bx/\Sz 9000 bY/\Sz 8000 rm/\0<rm/\
 ∀ (t:Addr) (v1 v2 v3:V) (H':Hp),b9 H H'->H' t=some (.tup [v1,v2,v3])->bh H' v1 ((w.1*bx:Int):Rat)->bh H' v2 ((w.2*bY:Int):Rat)->bh H' v3 (a9e c (2*rm))->Q (.ref t) H'
theorem iC{x:Int}{X:Int}(h:0<X):a9e x X*(X:Rat)=(x:Rat):=by
 have hn:(X:Rat)≠0:=Z7 h;rw[b0t];grind
theorem gb{X D:Int}{z:Nat}(h0:0<X)(hD:0<D)(h:X∣D)(zD:Sz z D):Sz z X:=zD.le (by have:=Int.le_of_dvd hD h;lia)
theorem a1s{n m:Nat}{w p:Pl}(hw:xI n w)(h1:Sz m p.1)(h2:Sz m p.2):Sz (n+m+1) (dt w p):=(Sz.add (Sz.mul hw.1 h1) (Sz.mul hw.2 h2)).mono (by lia)
theorem K6{n:Nat}{x:Int}(h:Sz n x)(hn:1<=n):Bd n (x:Rat):=⟨by rw[b8w];exact h,by rw[b8x];exact Sz.one.mono hn⟩
structure oW(ps qs:List Pt)(q1 q2 q3:Rat):Prop where
 lo:∀ p∈ps,q1*p.1+q2*p.2<q3
 hi:∀ p∈qs,q3<q1*p.1+q2*p.2
theorem sQ{K:a8z}{a:Addr}{ws:List V}{ps:List Pt}{H:Hp}(h:o7 K H a ws)(hP:aa H ws ps):∃ fx fy:Nat->V,gm K (M4 K a) H ps.length fx fy/\∀ (i:Nat) p,ps[i]?=some p->bh H (fx i) p.1/\bh H (fy i) p.2:=by
 have hl:=hP.len;have ex:∀ i:Nat,∃ t:Addr×V×V,∀ p,ps[i]?=some p->ws[i]?=some (.ref t.1)/\H t.1=some (.tup [t.2.1,t.2.2])/\bh H t.2.1 p.1/\bh H t.2.2 p.2:=fun i=>by
  cases e:ps[i]? with
  | none=>exact⟨(0,.non,.non),fun p z=>by cases z⟩
  | some p=>
    obtain⟨v,e1,⟨b,vx,vy,rfl,h1,h2,h3⟩⟩:=hP.at e;exact⟨(b,vx,vy),fun p' z=>by cases z;exact⟨e1,h1,h2,h3⟩⟩
 obtain⟨f,hf⟩:=Classical.axiomOfChoice ex;refine⟨fun i=>(f i).2.1,fun i=>(f i).2.2,fun H2 s i=>?_,fun i p e=>⟨(hf i p e).2.2.1,(hf i p e).2.2.2⟩⟩;have q:=ae h H2 s i;rw[hl] at q;refine⟨fun hi=>⟨(q.1 hi).1,fun x H' y=>?_⟩,q.2⟩;obtain⟨rfl,h2⟩:=(q.1 hi).2 x H' y;have g:=hf i _ (a8y hi);refine⟨L2.b9.refl _,(f i).1,?_,aj.of (s _ _ g.2.1)⟩;rw[h2];show (ws[i]?).getD V.non=_;rw[g.1];rfl
end Cv
namespace Cv
noncomputable def fX(a b:Pl):Prop:=a.1<b.1\/(a.1=b.1/\a.2<b.2)
noncomputable def a4o(a b:Pl):Prop:=a.1<b.1\/(a.1=b.1/\a.2<=b.2)
theorem a4o.trans{a b c:Pl}(h:a4o a b)(k:a4o b c):a4o a c:=by unfold a4o at *;lia
end Cv
namespace Cv
open PySem PySem.Spec PyProof.Rows L2
noncomputable def fz(h:Heap)(vs:List Value)(pl:List Pl):Prop:=vs.length=pl.length/\∀ (i:Nat) (v:Value) (p:Pl),vs[i]?=some v->pl[i]?=some p->
 ∃ (t:Addr) (o:Obj) (t1 t2:Tok) (n:Nat),v=.ref t/\h.get? t=some o/\o.cls=.type "tuple" /\ o.data=.seq #[.int p.1 t1,.int p.2 t2] n
instance lxDec (a b:Pl):Decidable (fX a b):=inferInstanceAs (Decidable (a.1<b.1\/(a.1=b.1/\a.2<b.2)))
section
variable {prog:a15} {w:a20} {A:a19} {E:Value->a01->Prop} {s:a01}
theorem xG{vs:List Value}{pl:List Pl}(h:fz s.heap vs pl){i j:Nat}(hi:i<pl.length)(hj:j<pl.length){C:Bool->a01->Prop}(q:C (decide (fX (pl.getD i (0,0)) (pl.getD j (0,0)))) s):b9d prog w A (tuples' true) vs i j C s:=by
 unfold b9d;have ei:pl[i]?=some (pl[i]'hi):=a8y _;have ej:pl[j]?=some (pl[j]'hj):=a8y _;have vi:vs[i]?=some (vs[i]'(by rw[h.1];exact hi)):=a8y _;have vj:vs[j]?=some (vs[j]'(by rw[h.1];exact hj)):=a8y _;obtain⟨a,oa,t1,t2,n1,ea,ha,ca,da⟩:=h.2 i _ _ vi ei;obtain⟨b,ob,u1,u2,n2,eb,hb,cb,db⟩:=h.2 j _ _ vj ej;have e1:vs.getD i .none=.ref a:=by rw[b0h,vi,ea];rfl
 have e2:vs.getD j .none=.ref b:=by rw[b0h,vj,eb];rfl
 have e3:pl.getD i (0,0)=pl[i]'hi:=by rw[b0h,ei];rfl
 have e4:pl.getD j (0,0)=pl[j]'hj:=by rw[b0h,ej];rfl
 rw[e1,e2];rw[e3,e4] at q;generalize pl[i]'hi=p at *;generalize pl[j]'hj=r at *;refine PySem.W.kat_lt ha da hb db ?_;refine c1b (a84 ?_);refine c1h (fun e=>c1e ?_) (fun e=>c1i ?_)
 .have e':p.1=r.1:=by simpa using e
  refine c1b (a84 ?_);refine c1h (fun f=>c1e (PySem.W.kat_nil ?_)) (fun f=>c1i ?_)
  .have f':p.2=r.2:=by simpa using f
   have:decide (fX p r)=false:=decide_eq_false (by unfold fX;lia);rw[this] at q;simpa using q
  .have f':p.2≠r.2:=by simpa using f
   have:decide (fX p r)=decide (p.2<r.2):=decide_eq_decide.mpr (by unfold fX;lia);rw[this] at q;exact PySem.W.kat_one _ _ (lt_int q)
 .have e':p.1≠r.1:=by simpa using e
  have:decide (fX p r)=decide (p.1<r.1):=decide_eq_decide.mpr (by unfold fX;lia);rw[this] at q;exact oneLt_int q
theorem yK{h h':Heap}{vs:List Value}{pl:List Pl}(H:fz h vs pl){a:Addr}(k:∀ b o,b≠a->h.get? b=some o->h'.get? b=some o)(ha:∀ v∈vs,v≠.ref a):fz h' vs pl:=
 ⟨H.1,fun i v p e1 e2=>by
  obtain⟨t,o,t1,t2,n,ev,ht,ct,dt⟩:=H.2 i v p e1 e2;exact⟨t,o,t1,t2,n,ev,k t o (fun z=>ha v (a9f e1) (by rw[ev,z])) ht,ct,dt⟩⟩
theorem rG{h:Heap}:∀ {vs:List Value} {pl:List Pl},fz h vs pl->∃ fs,b9e h vs fs/\fs.length=vs.length/\∀ f∈fs,∃ i t,f=.int i t
 | [],[],_=>⟨[],b9e.nil,rfl,fun f h=>nomatch h⟩
 | [],_::_,H=>absurd H.1 (by simp)
 | _::_,[],H=>absurd H.1 (by simp)
 | v::vs,p::pl,H=>by
   obtain⟨t,o,t1,t2,n,rfl,ht,ct,dt⟩:=H.2 0 v p rfl rfl;obtain⟨fs,h1,h2,h3⟩:=rG (h:=h) (vs:=vs) (pl:=pl) ⟨by simpa using H.1,fun i v p e1 e2=>H.2 (i+1) v p e1 e2⟩;refine⟨.int p.1 t1::fs,b9e.cons ht ct dt rfl h1,by simp[h2],fun f hf=>?_⟩;rcases a9g.mp hf with rfl | hf
   .exact⟨_,_,rfl⟩
   .exact h3 f hf
end
noncomputable def cH(h:Heap):Value->Pl
 | .ref t=>match h.get? t with
   | some o=>match o.data with
     | .seq xs _=>match xs.toList with
       | [.int a _,.int b _]=>(a,b)
       | _=>(0,0)
     | _=>(0,0)
   | none=>(0,0)
 | _=>(0,0)
theorem dZ{h:Heap}{vs:List Value}{pl:List Pl}(H:fz h vs pl){i:Nat}{v:Value}{p:Pl}(e1:vs[i]?=some v)(e2:pl[i]?=some p):cH h v=p:=by
 obtain⟨t,o,t1,t2,n,rfl,ht,ct,dt⟩:=H.2 i v p e1 e2;unfold cH;simp only[ht,dt]
theorem qZ{h:Heap}{vs:List Value}{pl:List Pl}(H:fz h vs pl):vs.map (cH h)=pl:=by
 refine b1j fun i=>?_;rw[a9h];by_cases hi:i<vs.length
 .have hi':i<pl.length:=by rw[<- H.1];exact hi
  rw[a8y hi,a8y hi'];exact congrArg some (dZ H (a8y hi) (a8y hi'))
 .rw[a9v (by lia),a9v (by rw[<- H.1];lia)];rfl
theorem tx{a b:Pl}:¬ fX a b↔a4o b a:=by
 unfold fX a4o;constructor
 .intro h;rcases b7q b.1 a.1 with z | z | z
  .exact .inl z
  .exact .inr ⟨z,Int.not_lt.mp fun y=>h (.inr ⟨z.symm,y⟩)⟩
  .exact absurd (.inl z) h
 .rintro (h | ⟨h,h'⟩) (k | ⟨k,k'⟩)
  .exact Int.lt_asymm h k
  .exact Int.lt_irrefl _ (k ▸ h)
  .exact Int.lt_irrefl _ (h ▸ k)
  .exact Int.not_lt.mpr h' k'
section
variable {prog:a15} {w:a20} {A:a19} {E:Value->a01->Prop} {s:a01}
noncomputable def ItP(vs:List Value)(x:Keyed):Prop:=x.1∈vs
noncomputable def a1h(h:Heap)(x y:Keyed):Bool:=decide (fX (cH h x.1) (cH h y.1))
theorem uw{vs:List Value}{pl:List Pl}(H:fz s.heap vs pl):fw (a05 prog w) A E s (tuples' true) (ItP vs) (a1h s.heap):=by
 refine⟨fun x y st Q ix iy hk q=>?_,fun x y _ _ h=>?_,fun x y z _ _ _ h1 h2=>?_⟩
 .obtain⟨i,hi,ei⟩:=a9o ix;obtain⟨j,hj,ej⟩:=a9o iy;have hl:=H.1;have a:=xG (prog:=prog) (w:=w) (A:=A) H (i:=i) (j:=j) (by lia) (by lia) (C:=fun b s'=>s'=s/\b=a1h s.heap x y) ⟨rfl,by
   unfold a1h;rw[dZ H (i:=i) (v:=x.1) (p:=pl.getD i (0,0)) (by rw[a8y hi,ei]) (by rw[b0h,a8y (show i<pl.length by lia)];rfl),dZ H (i:=j) (v:=y.1) (p:=pl.getD j (0,0)) (by rw[a8y hj,ej]) (by rw[b0h,a8y (show j<pl.length by lia)];rfl)]⟩
  unfold b9d at a;have e1:vs.getD i .none=x.1:=by rw[b0h,a8y hi,ei];rfl
  have e2:vs.getD j .none=y.1:=by rw[b0h,a8y hj,ej];rfl
  rw[e1,e2] at a;rw[lt'_eq];refine a03 (a46 ?_);refine a03 (a70 ?_);rw[hk];refine b05 (a08 a (fun b s' hb=>?_) fun _ _ f=>f.elim);obtain⟨rfl,rfl⟩:=hb;exact⟨rfl,a06 q⟩
 .unfold a1h at *;rw[decide_eq_true_iff] at h;exact decide_eq_false (by unfold fX at *;lia)
 .unfold a1h at *;have h1:=of_decide_eq_false h1;have h2:=of_decide_eq_false h2;exact decide_eq_false (tx.mpr ((tx.mp h1).trans (tx.mp h2)))
theorem mG{a:Addr}{vs:List Value}{pl:List Pl}{n0:Nat}{P:PySem.Fin->a01->Prop}(hS:s.heap.get? a=some (a71 "list" vs.toArray n0))(hv:fz s.heap vs pl)(hnd:pl.Nodup)(h2:2<=pl.length)(hmx:pl.length<=100000)(hQ:∀ (h':Heap) (out:List Value) (c:Nat),(∀ b o,b≠a->s.heap.get? b=some o->h'.get? b=some o)->h'.get? a=some (a71 "list" out.toArray c)->out.Perm vs->(out.map (cH s.heap)).Pairwise fX->P (Fin.done (Flow.ret .none)) { s with heap:=h' }) :
 a07 (a05 prog w) A (Builtin.«list.sort» ⟨[.ref a],[]⟩) P E s:=by
 have hl:vs.length=pl.length:=hv.1;have hva:∀ v∈vs,v≠.ref a:=fun v hm e=>by
  obtain⟨i,hi,ei⟩:=a9o hm;obtain⟨t,o,t1,t2,n,ev,ht,ct,dt⟩:=hv.2 i v (pl[i]'(by omega (config:={}))) (by rw[a8y hi,ei]) (a8y _);rw[e] at ev;cases ev;rw[hS] at ht;cases ht;exact absurd (show Value.type "list" = Value.type "tuple" from ct) (by decide)
 have sl:pl.length<sizeLine:=j8 (by lia);rw[list_sort_plain];refine a00 ?_;unfold Builtin.List.listItems;refine a00 (wpAny_seqItems hS rfl (a02 ?_));refine a00 ?_;show a07 _ _ (b09 a (fun _=>#[])) _ _ _;refine a69 hS rfl ?_ (by simp;lia) (by simp);have hS1:=Heap.get?_update_self (Obj.mapSeq (fun _=>(#[]:Array Value))) hS rfl;have k1:∀ b o,b≠a->s.heap.get? b=some o->(s.heap.update a (Obj.mapSeq (fun _=>(#[]:Array Value)))).get? b=some o:=fun b o hb e=>(Heap.get?_update_other _ _ (Ne.symm hb)).trans e;generalize hH1:s.heap.update a (Obj.mapSeq (fun _=>(#[]:Array Value)))=H1 at *;refine a00 ?_;unfold seqEpoch;refine a00 (a80 hS1 ?_);refine a02 ?_;refine a00 (wpAny_newTuple ?_ (by simp;lia));refine a00 (b03 ?_);refine a16 ?_;dsimp only;have hlt:¬ vs.toArray.size<2:=by simp;lia
 rw[if_neg hlt,if_neg hlt];have hS2:((H1.push { cls:=.type "tuple",data:=.seq vs.toArray.toList.toArray }).push { cls:=.type "list",data:=.seq #[] }).get? a=some (Obj.mapSeq (fun _=>(#[]:Array Value)) (a71 "list" vs.toArray n0)):=Heap.get?_push_of_some _ (Heap.get?_push_of_some _ hS1);have k2:∀ b o,b≠a->s.heap.get? b=some o->((H1.push { cls:=.type "tuple",data:=.seq vs.toArray.toList.toArray }).push { cls:=.type "list",data:=.seq #[] }).get? b=some o:=fun b o hb e=>Heap.get?_push_of_some _ (Heap.get?_push_of_some _ (k1 b o hb e));generalize ((H1.push { cls:=.type "tuple",data:=.seq vs.toArray.toList.toArray }).push { cls:=.type "list",data:=.seq #[] })=H2 at *;have hv2:fz H2 vs pl:=yK hv k2 hva;obtain⟨fs,f1,f2,f3⟩:=rG hv2;refine a00 (PySem.W.kat_kind (s:={ s with heap:=H2 }) (T:=.type "int") f1 (by lia) (fun v hm=>?_) rfl ?_)
 .obtain⟨i,t,rfl⟩:=f3 v hm;exact fun A Q E s _ q=>a02 q
 have e0:(vs.toArray.zip vs.toArray).toList=vs.zip vs:=by simp
 have emap:∀ v∈vs,cH H2 v=cH s.heap v:=fun v hm=>by
  obtain⟨i,hi,ei⟩:=a9o hm;have a1:=dZ hv2 (i:=i) (v:=v) (p:=pl[i]'(by omega (config:={}))) (by rw[a8y hi,ei]) (a8y _);have a2:=dZ hv (i:=i) (v:=v) (p:=pl[i]'(by omega (config:={}))) (by rw[a8y hi,ei]) (a8y _);rw[a1,a2]
 have hit:∀ x∈vs.zip vs,ItP vs x:=fun x hx=>(mem_zip_self hx).2;have hfst:(vs.zip vs).map (fun x=>cH H2 x.1)=pl:=by
  have:(vs.zip vs).map (fun x=>cH H2 x.1)=((vs.zip vs).map Prod.fst).map (cH H2):=by rw[b2h];rfl
  rw[this,List.map_fst_zip (a9j _),qZ hv2]
 have hD:a0i (a1h H2) (vs.zip vs):=by
  unfold a0i;have nd:((vs.zip vs).map (fun x=>cH H2 x.1)).Nodup:=by rw[hfst];exact hnd
  refine (b5w.mp nd).imp fun {x y} h=>?_;unfold a1h;rw[decide_eq_true_iff,decide_eq_true_iff];unfold fX;by_cases e1:(cH H2 x.1).1=(cH H2 y.1).1
  .by_cases e2:(cH H2 x.1).2=(cH H2 y.1).2
   .exact absurd (b6a e1 e2) h
   .lia
  .lia
 have run:=qz (uw (prog:=prog) (w:=w) (A:=A) (E:=E) (s:={ s with heap:=H2 }) hv2) (l₀:=vs.zip vs) (st:=SortSt.mk' (tuples' true) (vs.toArray.zip vs.toArray) #[] 7 none) hit hD ⟨rfl,rfl,by show (vs.toArray.zip vs.toArray).toList.Perm _;rw[e0]⟩ rfl (by rw[List.length_zip];lia) (Q:=fun _ st'=>SB (tuples' true) (vs.zip vs) st'/\(a10 st').toList.Pairwise (fun x y=>a1h H2 y x=false)) fun st' h1 h2=>⟨h1,h2⟩
 unfold wpS at run;refine a00 (a08 run (fun r s' hr=>?_) (fun _ _ x=>x));obtain⟨⟨⟩,st⟩:=r;obtain⟨rfl,hB,hP⟩:=hr;dsimp only at hB hP ⊢;refine a00 (a00 (a80 hS2 ?_));refine a02 ?_;have hsz:(a10 st).size=pl.length:=by rw[hB.size,List.length_zip];lia
 refine a00 ?_;show a07 _ _ (b09 a (fun _=>b6p (fun x=>x.snd) (a10 st))) _ _ _;refine a69 hS2 rfl ?_ (by simp) (by rw[Array.size_map,hsz];lia);have hS3:=Heap.get?_update_self (Obj.mapSeq (fun _=>b6p (fun x=>x.snd) (a10 st))) hS2 rfl;have k3:∀ b o,b≠a->s.heap.get? b=some o->(H2.update a (Obj.mapSeq (fun _=>b6p (fun x=>x.snd) (a10 st)))).get? b=some o:=fun b o hb e=>(Heap.get?_update_other _ _ (Ne.symm hb)).trans (k2 b o hb e);have hmem:∀ x∈(a10 st).toList,x.1=x.2/\x.1∈vs:=fun x hx=>mem_zip_self (hB.perm.mem_iff.mp hx);obtain⟨out,hout⟩ : ∃ out:List Value,out=(a10 st).toList.map (fun x:Keyed=>x.2):=⟨_,rfl⟩
 have eo:b6p (fun x=>x.snd) (a10 st)=out.toArray:=by
  refine Array.ext' ?_;rw[c0y,hout]
 rw[eo] at hS3 k3 ⊢;generalize H2.update a (Obj.mapSeq (fun _=>out.toArray))=H3 at *;rw[hB.fail];dsimp only;rw[if_neg (by simp)];refine a02 (hQ H3 out _ k3 hS3 ?_ ?_)
 .rw[hout];refine (hB.perm.map _).trans (b3l.of_eq ?_);rw[show (fun x:Keyed=>x.2)=Prod.snd from rfl,List.map_snd_zip (a9j _)]
 .rw[hout,b2h,b5w];have d2:=hD.perm hB.perm;have both:=hP.and d2;refine (b4c.and_mem.mp both).imp fun {x y} h=>?_;obtain⟨hx,hy,h1,h2⟩:=h;show fX (cH s.heap x.2) (cH s.heap y.2);rw[<- (hmem x hx).1,<- (hmem y hy).1,<- emap _ (hmem x hx).2,<- emap _ (hmem y hy).2];rcases h2 with h2 | h2
  .exact of_decide_eq_true h2
  .rw[h1] at h2;cases h2
theorem kK{a:Addr}{vs:List Value}{n0:Nat}{P:PySem.Fin->a01->Prop}(hS:s.heap.get? a=some (a71 "list" vs.toArray n0))(h2:vs.length<2)(hQ:∀ (h':Heap) (c:Nat),(∀ b o,b≠a->s.heap.get? b=some o->h'.get? b=some o)->h'.get? a=some (a71 "list" vs.toArray c)->P (Fin.done (Flow.ret .none)) { s with heap:=h' }) :
 a07 (a05 prog w) A (Builtin.«list.sort» ⟨[.ref a],[]⟩) P E s:=by
 rw[list_sort_plain];refine a00 ?_;unfold Builtin.List.listItems;refine a00 (wpAny_seqItems hS rfl (a02 ?_));refine a00 ?_;show a07 _ _ (b09 a (fun _=>#[])) _ _ _;refine a69 hS rfl ?_ (by simp;exact b1x (j8 (by lia))) (by simp);have hS1:=Heap.get?_update_self (Obj.mapSeq (fun _=>(#[]:Array Value))) hS rfl;have k1:∀ b o,b≠a->s.heap.get? b=some o->(s.heap.update a (Obj.mapSeq (fun _=>(#[]:Array Value)))).get? b=some o:=fun b o hb e=>(Heap.get?_update_other _ _ (Ne.symm hb)).trans e;generalize s.heap.update a (Obj.mapSeq (fun _=>(#[]:Array Value)))=H1 at *;refine a00 ?_;unfold seqEpoch;refine a00 (a80 hS1 ?_);refine a02 ?_;refine a00 (wpAny_newTuple ?_ (by simp;exact b1x (j8 (by lia))));refine a00 (b03 ?_);refine a16 ?_;dsimp only;have hlt:vs.toArray.size<2:=by simp;lia
 rw[if_pos hlt,if_pos hlt];have hS2:((H1.push { cls:=.type "tuple",data:=.seq vs.toArray.toList.toArray }).push { cls:=.type "list",data:=.seq #[] }).get? a=some (Obj.mapSeq (fun _=>(#[]:Array Value)) (a71 "list" vs.toArray n0)):=Heap.get?_push_of_some _ (Heap.get?_push_of_some _ hS1);have k2:∀ b o,b≠a->s.heap.get? b=some o->((H1.push { cls:=.type "tuple",data:=.seq vs.toArray.toList.toArray }).push { cls:=.type "list",data:=.seq #[] }).get? b=some o:=fun b o hb e=>Heap.get?_push_of_some _ (Heap.get?_push_of_some _ (k1 b o hb e));generalize ((H1.push { cls:=.type "tuple",data:=.seq vs.toArray.toList.toArray }).push { cls:=.type "list",data:=.seq #[] })=H2 at *;refine a00 (a02 ?_);refine a00 (a02 ?_);dsimp only;refine a00 (a00 (a80 hS2 ?_));refine a02 ?_;have eo:b6p (fun x=>x.snd) (a10 (SortSt.mk' general' (vs.toArray.zip vs.toArray) #[] 7 none))=vs.toArray:=by
  show b6p (fun x=>x.snd) (vs.toArray.zip vs.toArray)=_;refine Array.ext' ?_;rw[c0y,Array.toList_zip,List.map_snd_zip (a9j _)]
 refine a00 ?_;show a07 _ _ (b09 a (fun _=>b6p (fun x=>x.snd) (a10 (SortSt.mk' general' (vs.toArray.zip vs.toArray) #[] 7 none)))) _ _ _;rw[eo];refine a69 hS2 rfl ?_ (by simp) (by simp;exact Nat.le_succ_of_le (b1x (j8 (by lia))));have hS3:=Heap.get?_update_self (Obj.mapSeq (fun _=>vs.toArray)) hS2 rfl;have k3:∀ b o,b≠a->s.heap.get? b=some o->(H2.update a (Obj.mapSeq (fun _=>vs.toArray))).get? b=some o:=fun b o hb e=>(Heap.get?_update_other _ _ (Ne.symm hb)).trans (k2 b o hb e);generalize H2.update a (Obj.mapSeq (fun _=>vs.toArray))=H3 at *;show a07 _ _ (if _ then _ else _) _ _ _;rw[if_neg (by simp)];exact a02 (hQ H3 _ k3 hS3)
theorem qR{l:Addr}{vs:List Value}{pl:List Pl}{Q:Value->a01->Prop}(hl:s.heap.IsList l vs.toArray)(hv:fz s.heap vs pl)(hnd:pl.Nodup)(hmx:pl.length<=100000)(hQ:∀ (hA h':Heap) (out:List Value) (n:Nat),(∀ b o,s.heap.get? b=some o->hA.get? b=some o)->(∀ b o,hA.get? b=some o->h'.get? b=some o)->h'.get? hA.objs.size=some (a71 "list" out.toArray n)->out.Perm vs->(out.map (cH s.heap)).Pairwise fX->Q (.ref hA.objs.size) { s with heap:=h' }) :
 a07 (a05 prog w) A (call (.builtin "sorted") [.ref l]) Q E s:=by
 have hl2:vs.length=pl.length:=hv.1;have sl:pl.length<sizeLine:=j8 (by lia);refine Calls.call_function_entry kind_sorted plain_sorted entry_sorted (args_sorted1 _) ?_;unfold Builtin.«sorted»;refine a00 (m:=checkCount "sorted" 1 1 _) (a02 ?_);refine a00 (collect_list hl ?_ (by lia));have k0:∀ b o,s.heap.get? b=some o->((s.heap.push (a71 "list" #[] 0)).update s.heap.objs.size (Obj.mapSeq (·++vs.toArray))).get? b=some o:=fun b o e=>(Heap.get?_update_other _ _ (Ne.symm (b0s (Heap.lt_size e)))).trans (Heap.get?_push_of_some _ e);generalize ((s.heap.push (a71 "list" #[] 0)).update s.heap.objs.size (Obj.mapSeq (·++vs.toArray)))=hA at *;refine a00 (b03 ?_ (by lia));have hS:(hA.push { cls:=.type "list",data:=.seq vs.toArray }).get? hA.objs.size=some (a71 "list" vs.toArray 0):=Heap.get?_push_size _ rfl;have k1:∀ b o,s.heap.get? b=some o->(hA.push { cls:=.type "list",data:=.seq vs.toArray }).get? b=some o:=fun b o e=>Heap.get?_push_of_some _ (k0 b o e);have hv1:fz (hA.push { cls:=.type "list",data:=.seq vs.toArray }) vs pl:=⟨hv.1,fun i v p e1 e2=>by
  obtain⟨t,o,t1,t2,n,ev,ht,ct,dt⟩:=hv.2 i v p e1 e2;exact⟨t,o,t1,t2,n,ev,k1 t o ht,ct,dt⟩⟩
 have emap:∀ v∈vs,cH (hA.push { cls:=.type "list",data:=.seq vs.toArray }) v=cH s.heap v:=fun v hm=>by
  obtain⟨i,hi,ei⟩:=a9o hm;have a1:=dZ hv1 (i:=i) (v:=v) (p:=pl[i]'(by omega (config:={}))) (by rw[a8y hi,ei]) (a8y _);have a2:=dZ hv (i:=i) (v:=v) (p:=pl[i]'(by omega (config:={}))) (by rw[a8y hi,ei]) (a8y _);rw[a1,a2]
 by_cases h2:2<=pl.length
 .refine a00 (a16 (a85 slot_list_sort ⟨_,hS,rfl⟩ entry_list_sort (mG hS hv1 hnd h2 hmx fun h' out c k2 e1 e2 e3=>⟨_,rfl,a02 ⟨_,rfl,?_⟩⟩) (args_list_sort _)));refine hQ hA h' out c k0 (fun b o e=>k2 b o (b0s (Heap.lt_size e)) (Heap.get?_push_of_some _ e)) e1 e2 ?_;rw[show out.map (cH s.heap)=out.map (cH (hA.push { cls:=.type "list",data:=.seq vs.toArray })) from b1v fun v hm=>(emap v (e2.mem_iff.mp hm)).symm];exact e3
 .refine a00 (a16 (a85 slot_list_sort ⟨_,hS,rfl⟩ entry_list_sort (kK hS (by lia) fun h' c k2 e1=>⟨_,rfl,a02 ⟨_,rfl,?_⟩⟩) (args_list_sort _)));refine hQ hA h' vs c k0 (fun b o e=>k2 b o (b0s (Heap.lt_size e)) (Heap.get?_push_of_some _ e)) e1 (b3l.refl _) ?_;rcases vs with _ | ⟨x,_ | ⟨y,r⟩⟩
  .exact .nil
  .exact b3x _ _
  .simp at hl2;lia
end
section
variable {X:Cx}
theorem uo(K:a8z)(hK:X.K=K:=by rfl):bP X (.builtin "sorted") (fun xs H Q=>∃ (a:Addr) (us:List V) (pl:List Pl),xs=[.ref a]/\o7 K H a us/\v7 H us pl/\pl.Nodup/\pl.length<=100000/\
 ∀ (l:Addr) (vs:List V) (qs:List Pl),H l=none->qs.Perm pl->qs.Pairwise fX->v7 H vs qs->Q (.ref l) (upd H l (.lst vs))):=by
 subst hK;intro c2t s σ H xs us' Q I rv h;obtain⟨a,us,pl,rfl,hS,hP,hnd,hmx,q⟩:=h;obtain⟨u,rfl,ru⟩:=fG rv;cases ru;obtain⟨its,rits,pll,hz⟩:=I.list hS;have l1:=hP.len;have l2:=rits.length;have hget:∀ (i:Nat) v p,its[i]?=some v->pl[i]?=some p->∃ b,v=.ref b/\H b=some (.tup [.int p.1,.int p.2]):=fun i v p e1 e2=>by
  obtain⟨x,ex⟩ : ∃ x,us[i]?=some x:=⟨us[i]'(by have:=(a9c.mp e2).1;lia),a8y _⟩
  obtain⟨T,rfl,hT⟩:=hP.get i x p ex e2;obtain⟨v',e',rr⟩:=rits.get ex;rw[e1] at e';cases e';cases rr;exact⟨T,rfl,hT⟩
 have hv:fz s.heap its pl:=⟨by lia,fun i v p e1 e2=>by
  obtain⟨b,rfl,hb⟩:=hget i v p e1 e2;obtain⟨_,ia,ra,oa,a1,a2,na,a3⟩:=(show bK X.prog X.w H s.heap b (.tup [.int p.1,.int p.2]) from I.hok _ _ hb)
  obtain⟨w1,w2,rfl,⟨t1,rfl⟩,⟨t2,rfl⟩⟩:=iN ra;exact⟨b,oa,t1,t2,na,rfl,a1,a2,a3⟩⟩
 refine qR pll.isList hv hnd hmx fun hA h' out n k1 k2 e1 e2 e3=>?_;have I1:n9 X c2t σ H { s with heap:=hA,toks:=s.toks }:=I.kept k1;have hmem:∀ v∈out,∃ b,v=.ref b/\H b=some (.tup [.int (cH s.heap v).1,.int (cH s.heap v).2]):=fun v hv'=>by
  obtain⟨j,hj,ej⟩:=a9o (e2.mem_iff.mp hv');have hj2:j<pl.length:=by lia
  have e4:=dZ hv (i:=j) (v:=v) (p:=pl[j]'hj2) (by rw[a8y hj,ej]) (a8y _);obtain⟨b,eb,hb⟩:=hget j v (pl[j]'hj2) (by rw[a8y hj,ej]) (a8y _);exact⟨b,eb,by rw[e4];exact hb⟩
 obtain⟨ws,hw1,hw2⟩ : ∃ ws:List V,x9 ws out/\v7 H ws (out.map (cH s.heap)):=by
  clear e1 e2 e3;induction out with
  | nil=>exact⟨[],.nil,rfl,fun i v p e=>by simp at e⟩
  | cons v out ih=>
    obtain⟨b,rfl,hb⟩:=hmem v (by simp);obtain⟨ws,w1,w2⟩:=ih fun x hx=>hmem x (b0f _ hx);refine⟨.ref b::ws,.cons rfl w1,⟨by simp[w2.len],fun i x p e1 e2=>?_⟩⟩;cases i with
    | zero=>cases e1;cases e2;exact⟨b,rfl,hb⟩
    | succ i=>exact w2.get i x p e1 e2
 have hpm:(out.map (cH s.heap)).Perm pl:=by
  have:=e2.map (cH s.heap)
  rwa [qZ hv] at this
 refine⟨.ref hA.objs.size,_,I1.laid (a:=hA.objs.size) (o:=.lst ws) (t':=s.toks) k2 (a9j _) ⟨by rw[hw2.len,hpm.length_eq];exact b1x (j8 (by lia)),out,n,hw1,e1⟩,rfl,q _ ws _ I1.fresh hpm e3 hw2⟩
end
theorem a0z{D:Int}{n:Nat}{x:Rat}(h:Ov D n x):Ov D n (-x):=by
 obtain⟨m,h1,h2⟩:=h;exact⟨-m,by rw[Rat.intCast_neg,<- h1];grind,h2.neg⟩
theorem a1a{D:Int}{n:Nat}{x y:Rat}(h:Ov D n x)(k:Ov D n y):Ov D (n+1) (x+y):=by
 obtain⟨m,h1,h2⟩:=h;obtain⟨m',k1,k2⟩:=k;exact⟨m+m',by rw[b2y,<- h1,<- k1];grind,(Sz.add h2 k2).mono (by lia)⟩
section
variable {X:Cx}
theorem sS{tg elt iter tg2 iter2 tg3 iter3:a13}{os:List Str}{pos:Pos}{scope:Scope}{wi wi2 wi3:TI}{g g2 g3:TG}{te:TE}{caps:List (Nat×Str)}(N:List Str)(sc:Scope)(hi:qw X tg iter wi)(hg:∀ cl C s0 H0 fp,qx (j9 X scope cl (os++caps.map (·.2)) C s0 H0 fp) tg g)(hi2:∀ cl C s0 H0 fp,qw (j9 X scope cl (os++caps.map (·.2)) C s0 H0 fp) tg2 iter2 wi2)(hg2:∀ cl C s0 H0 fp,qx (j9 X scope cl (os++caps.map (·.2)) C s0 H0 fp) tg2 g2)(hi3:∀ cl C s0 H0 fp,qw (j9 X scope cl (os++caps.map (·.2)) C s0 H0 fp) tg3 iter3 wi3)(hg3:∀ cl C s0 H0 fp,qx (j9 X scope cl (os++caps.map (·.2)) C s0 H0 fp) tg3 g3)(he:∀ cl C s0 H0 fp,ao (j9 X scope cl (os++caps.map (·.2)) C s0 H0 fp) elt te)(ok:cG N sc scope caps=true)(hN:X.N=N:=by rfl)(hsc:X.env.scope=sc:=by rfl)(hc:X.calm=true:=by rfl)(hfs:∀ v,a04 iter X.env v=pure v:=by intro _;rfl)(hfs2:∀ cl C v,a04 iter2 (a41 scope cl C X.env) v=pure v:=by intro _ _ _;rfl)(hfs3:∀ cl C v,a04 iter3 (a41 scope cl C X.env) v=pure v:=by intro _ _ _;rfl) :
 ao X (.ListComp elt [⟨tg,iter,[],0⟩,⟨tg2,iter2,[],0⟩,⟨tg3,iter3,[],0⟩] scope pos) (pe os.length wi g wi2 g2 wi3 g3 te (caps.map (·.1))):=by with_unfolding_all exact wJ (N:=N) (sc:=sc) (hi:=hi) (hg:=hg) (hi2:=hi2) (hg2:=hg2) (hi3:=hi3) (hg3:=hg3) (he:=he) (ok:=ok) (hN:=hN) (hsc:=hsc) (hc:=hc) (hfs:=hfs) (hfs2:=hfs2) (hfs3:=hfs3)
end
noncomputable def uv(p:Pl):List Pl:=[(2*p.1,2*p.2),(2*p.1,2*p.2+1),(2*p.1+1,2*p.2),(2*p.1+1,2*p.2+1)]
noncomputable def below(pl:List Pl):List Pl:=pl.flatMap uv
theorem ie(pl:List Pl):(below pl).length=4*pl.length:=by
 induction pl with
 | nil=>rfl
 | cons p r ih=>
   show (uv p++below r).length=_;rw[a9b,ih,b0r];show 4+_=_;lia
theorem qi{p q:Pl}:q∈uv p↔q.1 / 2=p.1/\q.2 / 2=p.2:=by
 have two:∀ x y:Int,x / 2=y↔x=2*y\/x=2*y+1:=fun x y=>by lia
 rw[two,two];obtain⟨a,b⟩:=q;unfold uv;simp only[a9g,a9w,or_false,b5e.injEq,and_or_left,or_and_right,or_assoc];constructor<;>(rintro (h | h | h | h)<;>simp only[h,and_self,true_or,or_true])
theorem cP{pl:List Pl}{q:Pl}:q∈below pl↔(q.1 / 2,q.2 / 2)∈pl:=by
 unfold below;rw[b3s];constructor
 .rintro⟨p,hp,hq⟩;obtain⟨h1,h2⟩:=qi.mp hq;rw[h1,h2];exact hp
 .intro h;exact⟨_,h,qi.mpr ⟨rfl,rfl⟩⟩
theorem xF(p:Pl):(uv p).Nodup:=by
 unfold uv;simp only[b4b,a9g,a9w,or_false,Prod.ext_iff,not_false_eq_true,List.nodup_nil,and_true];lia
theorem gk{pl:List Pl}(h:pl.Nodup):(below pl).Nodup:=by
 induction pl with
 | nil=>exact List.nodup_nil
 | cons p r ih=>
   obtain⟨h1,h2⟩:=b4b.mp h;show (uv p++below r).Nodup;refine List.nodup_append.mpr ⟨xF p,ih h2,fun a ha b hb e=>?_⟩;subst e;obtain⟨e1,e2⟩:=qi.mp ha;have:=cP.mp hb;rw[e1,e2] at this;exact h1 this
theorem ur(pl:List Pl)(p:Pl):below (pl++[p])=below pl++uv p:=by unfold below;rw[b6w];simp
noncomputable def uZ(K:a8z):Sp:=fun vs H Q _=>∃ (a:Addr) (us:List V) (pl:List Pl),vs=[.ref a]/\H a=some (.lst us)/\v7 H us pl/\pl.Nodup/\pl.length<=1000/\(∀ p∈pl,Sz 100 p.1/\Sz 100 p.2)/\
 ∀ (l:Addr) (vs:List V) (qs:List Pl) (H':Hp),b9 H H'->H l=none->H' l=some (.lst vs)->v7 H' vs qs->qs.Perm (below pl)->qs.Pairwise fX->Q (.ref l) H'
theorem mx{H:Hp}{vs:List V}{pl:List Pl}{t:Addr}{p:Pl}(h:v7 H vs pl)(ht:H t=some (.tup [.int p.1,.int p.2])):v7 H (vs++[.ref t]) (pl++[p]):=by
 refine⟨by simp[h.len],fun i v q e1 e2=>?_⟩;have hl:=h.len;by_cases hi:i<vs.length
 .rw[a9i hi] at e1;rw[a9i (by lia)] at e2;exact h.get i v q e1 e2
 .rw[a9l (by lia)] at e1 e2;rw[hl] at e1;cases hz:i - pl.length with
  | zero=>rw[hz] at e1 e2;cases e1;cases e2;exact⟨t,rfl,ht⟩
  | succ k=>rw[hz] at e1;simp at e1
theorem ut{K:a8z}{a:Addr}{us:List V}{pl:List Pl}{H1:Hp}{g:TG}{wi:TI}{te:TE}{cs:L2.St}{Q:VK}(hS:H1 a=some (.lst us))(hP:v7 H1 us pl)(hn:pl.length<=1000)(hg:∀ (v:V) (p:Pl) (o1 o2 o3 o4:Option V) (H2:Hp) (R:L2.St->Hp->Prop),p∈pl->wf H2 v p.1 p.2->R ([some (.int p.1),some (.int p.2),o3,o4]++cs) H2->g v ([o1,o2,o3,o4]++cs) H2 R)(hw:∀ (σ:L2.St) (H2:Hp) (R:It->Hp->Prop),(∀ t,H2 t=none->R (a6c K t) (upd H2 t (.tup [.int 0,.int 1])))->wi σ H2 R)(ht:∀ (p:Pl) (x y:Int) (H2:Hp) (R:VK),p∈pl->(∀ t,H2 t=none->R (.ref t) (upd H2 t (.tup [.int (2*p.1+x),.int (2*p.2+y)])))->te ([some (.int p.1),some (.int p.2),some (.int x),some (.int y)]++cs) H2 R)(hq:∀ D ys H2,H1 D=none->b9 H1 H2->H2 D=some (.lst ys)->v7 H2 ys (below pl)->Q (.ref D) H2) :
 oX 4 (M4 K a) H1 g wi (aU 2) wi (aU 3) te cs Q:=by
 intro D hD;have hul:=hP.len;refine⟨fun i m ys H2=>m=pl.length - i/\i<=pl.length/\b9 H1 H2/\H2 D=some (.lst ys)/\v7 H2 ys (below (pl.take i)),⟨pl.length,rfl,b1m _,b9.new hD,b7,by simp[below],fun i v p e=>by simp at e⟩,?_⟩;rintro i m ys H2 ⟨rfl,hi,s2,d2,r2⟩;by_cases hlt:i<pl.length
 .have ep:pl[i]?=some pl[i]:=a8y hlt;obtain⟨b,eb,hb⟩:=(hP.same s2).at ep;have hmem:pl[i]∈pl:=a9n hlt;have eS:pl.take (i+1)=pl.take i++[pl[i]]:=by rw[b4j,ep];rfl
  have hbl:(below (pl.take i)).length<=4000:=by rw[ie,b0d];lia
  generalize pl[i]=p at *;refine .inr ⟨⟨us,_,o7.of (s2 _ _ hS),eb⟩,fun x H' y own ho=>?_⟩;obtain⟨rfl,hy⟩:=y;have hx:=hy us (o7.of (s2 _ _ hS));rw[eb] at hx;obtain rfl:V.ref b=x:=a9t.inj hx;obtain⟨o1,o2,o3,o4,rfl⟩ : ∃ o1 o2 o3 o4,own=[o1,o2,o3,o4]:=by
   match own,ho with
   | [o1,o2,o3,o4],_=>exact⟨o1,o2,o3,o4,rfl⟩
  refine hg (.ref b) p o1 o2 o3 o4 H' _ hmem ⟨b,rfl,hb⟩ ⟨[some (.int p.1),some (.int p.2),o3,o4],rfl,rfl,hw _ _ _ fun t ht0=>?_⟩;have ntD:t≠D:=fun z=>by rw[z,d2] at ht0;cases ht0
  refine⟨fun j m2 ys2 own2 H6=>m2=2 - j/\j<=2/\(∃ o3 o4,own2=[some (.int p.1),some (.int p.2),o3,o4])/\b9 H1 H6/\H6 t=some (.tup [.int 0,.int 1])/\H6 D=some (.lst ys2)/\v7 H6 ys2 (below (pl.take i)++(uv p).take (2*j)),
   ⟨2,rfl,by decide,⟨o3,o4,rfl⟩,s2.trans (b9.new ht0),b7,by rw[i9 (Ne.symm ntD)];exact d2,by simpa using r2.same (b9.new ht0)⟩,?_⟩
  rintro j m2 ys2 own2 H6 ⟨rfl,hj,⟨o3',o4',rfl⟩,s6,t6,d6,r6⟩;by_cases hj2:j<2
  .refine .inr ⟨⟨_,_,aj.of t6,a8y (by exact hj2)⟩,fun x2 H7 y2 ho2=>?_⟩;obtain⟨rfl,hy2⟩:=y2;have hx2:=hy2 _ (aj.of t6);have ex2:x2=.int (j:Int):=by
    have hj3:j=0\/j=1:=by lia
    rcases hj3 with rfl | rfl
    .exact (a9t.inj hx2).symm
    .exact (a9t.inj hx2).symm
   subst ex2;refine⟨[some (.int p.1),some (.int p.2),some (.int (j:Int)),o4'],rfl,rfl,hw _ _ _ fun u hu0=>?_⟩;have nuD:u≠D:=fun z=>by rw[z,d6] at hu0;cases hu0
   have nut:u≠t:=fun z=>by rw[z,t6] at hu0;cases hu0
   refine⟨fun l m3 ys3 own4 H9=>m3=2 - l/\l<=2/\(∃ o4,own4=[some (.int p.1),some (.int p.2),some (.int (j:Int)),o4])/\b9 H1 H9/\H9 t=some (.tup [.int 0,.int 1])/\H9 u=some (.tup [.int 0,.int 1])/\H9 D=some (.lst ys3)/\v7 H9 ys3 (below (pl.take i)++(uv p).take (2*j+l)),
    ⟨2,rfl,by decide,⟨o4',rfl⟩,s6.trans (b9.new hu0),by rw[i9 (Ne.symm nut)];exact t6,b7,by rw[i9 (Ne.symm nuD)];exact d6,r6.same (b9.new hu0)⟩,?_⟩
   rintro l m3 ys3 own4 H9 ⟨rfl,hl,⟨o4'',rfl⟩,s9,t9,u9,d9,r9⟩;by_cases hl2:l<2
   .refine .inr ⟨⟨_,_,aj.of u9,a8y (by exact hl2)⟩,fun x3 H10 y3 ho3=>?_⟩;obtain⟨rfl,hy3⟩:=y3;have hx3:=hy3 _ (aj.of u9);have ex3:x3=.int (l:Int):=by
     have hl3:l=0\/l=1:=by lia
     rcases hl3 with rfl | rfl
     .exact (a9t.inj hx3).symm
     .exact (a9t.inj hx3).symm
    subst ex3;refine⟨[some (.int p.1),some (.int p.2),some (.int (j:Int)),some (.int (l:Int))],rfl,rfl,ht p j l _ _ hmem fun q hq0=>?_⟩;have nqD:q≠D:=fun z=>by rw[z,d9] at hq0;cases hq0
    have nqt:q≠t:=fun z=>by rw[z,t9] at hq0;cases hq0
    have nqu:q≠u:=fun z=>by rw[z,u9] at hq0;cases hq0
    have ntD:t≠D:=fun z=>by rw[z,d9] at t9;cases t9
    have nuD:u≠D:=fun z=>by rw[z,d9] at u9;cases u9
    have hdq:(upd H10 q (.tup [.int (2*p.1+(j:Int)),.int (2*p.2+(l:Int))])) D=some (.lst ys3):=by rw[i9 (Ne.symm nqD)];exact d9
    have hy9:ys3.length<=4004:=by
     rw[r9.len,a9b,b0d];have:(uv p).length=4:=rfl;lia
    refine⟨hdq,j8 (by lia),2 - (l+1),by lia,rfl,by lia,⟨_,rfl⟩,fun c o e=>?_,?_,?_,b7,?_⟩
    .rw[i9 (n8 e hD),i9 (fun z=>by rw[z] at e;have:=s9 _ _ e;rw[hq0] at this;cases this)];exact s9 _ _ e
    .rw[i9 ntD,i9 (Ne.symm nqt)];exact t9
    .rw[i9 nuD,i9 (Ne.symm nqu)];exact u9
    .have r10:v7 (upd (upd H10 q (.tup [.int (2*p.1+(j:Int)),.int (2*p.2+(l:Int))])) D (.lst (ys3++[.ref q]))) ys3 (below (pl.take i)++(uv p).take (2*j+l)):=(r9.same (b9.new hq0)).tup (bR.lst hdq);have:=mx (p:=(2*p.1+(j:Int),2*p.2+(l:Int))) r10 (t:=q) (by rw[i9 nqD,b7]);have e4:below (pl.take i)++(uv p).take (2*j+(l+1))=below (pl.take i)++(uv p).take (2*j+l)++[(2*p.1+(j:Int),2*p.2+(l:Int))]:=by
      rw[a9z];congr 1;have hj3:j=0\/j=1:=by lia
      have hl3:l=0\/l=1:=by lia
      rcases hj3 with rfl | rfl<;>rcases hl3 with rfl | rfl<;>simp[uv]
     rw[e4];exact this
   .have hl3:l=2:=by lia
    subst hl3;exact .inl ⟨⟨_,aj.of u9,by show 2<=2;decide⟩,2 - (j+1),by lia,rfl,by lia,⟨_,_,rfl⟩,s9,t9,d9,by rw[show 2*(j+1)=2*j+2 by lia];exact r9⟩
  .have hj3:j=2:=by lia
   subst hj3;refine .inl ⟨⟨_,aj.of t6,by show 2<=2;decide⟩,pl.length - (i+1),by lia,rfl,by lia,s6,d6,?_⟩;rw[eS,ur];exact r6
 .have e:i=pl.length:=by lia
  subst e;rw[b3e] at r2;exact .inl ⟨⟨us,o7.of (s2 _ _ hS),by lia⟩,hq D ys H2 hD s2 d2 r2⟩
section
variable {X:Cx} {pos:Pos} {o:a13} {to:TE}
noncomputable def a8k(K:a8z)(to:TE)(f:Str):TG:=fun v σ H Q=>to σ H fun x H2=>∃ a C dx fs,x=.ref a/\H2 a=some (.ins C dx fs)/\M0 K C/\u7 K C f/\fs.length<1000/\Q σ (upd H2 a (.ins C dx (aB f v fs)))
theorem a3p{f:Str}(ho:PE X o to):PG X (.Attribute o f pos) (a8k X.K to f):=by
 intro c2t s σ H v u Q I r h;refine a00 (a16 (bA (ho c2t s σ H _ I h) fun ov s1 ⟨x,H1,I1,rx,a,C,dx,fs,ex,ea,c,n,l,q⟩=>?_));subst ex;obtain rfl:ov=Value.ref a:=rx;refine a00 (a17 (a00 (a16 (lQ I1 ea c n l r fun s3 I3=>wpAny_release ⟨σ,_,I3,q⟩))))
theorem gV{f:Str}(K:a8z)(ho:ao X o to)(hK:X.K=K:=by rfl):qx X (.Attribute o f pos) (a8k K to f):=by subst hK;with_unfolding_all exact a3p ho
end
noncomputable def ee(R:Int)(lx ly lo lt:Addr):List (Str×V):=aB "others" (.ref lt) (aB "ones" (.ref lo) (aB "y_bottoms" (.ref ly) (aB "x_bottoms" (.ref lx) (aB "room" (.int R) []))))
noncomputable def il(H H':Hp):Prop:=(∀ b xs,H b=some (.lst xs)->H' b=some (.lst xs))/\bR H H'
theorem il.upd{H:Hp}{x C dx:Addr}{fs:List (Str×V)}{o:HO}(h:H x=some (.ins C dx fs)):il H (upd H x o):=
 ⟨fun b xs e=>by rw[i9 (fun z=>by rw[z,h] at e;cases e)];exact e,fun b xs e=>by rw[i9 (fun z=>by rw[z,h] at e;cases e)];exact e⟩
theorem il.trans{H H1 H2:Hp}(a:il H H1)(b:il H1 H2):il H H2:=⟨fun c xs e=>b.1 c xs (a.1 c xs e),a.2.trans b.2⟩
theorem il.same{H H':Hp}(s:b9 H H'):il H H':=⟨fun b xs e=>s _ _ e,s.tup⟩
theorem xP.ins{H H':Hp}{v:V}{n:Nat}{tops bs:List Int}(h:xP H v n tops bs)(i:il H H'):xP H' v n tops bs:=by
 obtain⟨a,lt,lb,e,h1,h2,h3,h4⟩:=h;exact⟨a,lt,lb,e,i.2 _ _ h1,i.1 _ _ h2,i.1 _ _ h3,h4⟩
noncomputable def dP(x:Addr)(H H':Hp):Prop:=∀ b o,b≠x->H b=some o->H' b=some o
theorem dP.same{x:Addr}{H H':Hp}(s:b9 H H'):dP x H H':=fun b o _ e=>s b o e
theorem dP.upd{x:Addr}{H:Hp}{o:HO}:dP x H (upd H x o):=fun b q hb e=>by rw[i9 hb];exact e
theorem dP.trans{x:Addr}{H H1 H2:Hp}(a:dP x H H1)(b:dP x H1 H2):dP x H H2:=fun c o hc e=>b c o hc (a c o hc e)
theorem dP.back{x:Addr}{H H':Hp}{o:HO}(a:dP x H H')(h:H x=some o):b9 H (L2.upd H' x o):=fun b q e=>by
 by_cases z:b=x
 .subst z;rw[b7];rw[<- e,h]
 .rw[i9 z];exact a b q z e
theorem cZ.ins{H H':Hp}{D:Option Addr}{ys:List V}{css:List (List Pl)}(h:cZ H D ys css)(s:il H H'):cZ H' D ys css:=
 ⟨h.len,fun i v c e1 e2=>by obtain⟨l,us,r1,r2,r3,r4⟩:=h.get i v c e1 e2;exact⟨l,us,r1,r2,s.1 _ _ r3,r4.tup s.2⟩⟩
theorem dP.free{x l:Addr}{H H':Hp}{o:HO}(a:dP x H H')(hx:H' x=some o)(h:H' l=none):H l=none:=by
 cases e:H l with
 | none=>rfl
 | some q=>
   by_cases z:l=x
   .rw[z,hx] at h;cases h
   .rw[a l q z e] at h;cases h
theorem N0{R:Int}{t1 t2 b1 b2:List Int}{ps qs:List Pt}(h:aW (j0 b1*R) (j0 b2*R) (sv R t1 t2)=ps++qs):aW (j0 b1*R) (j0 b2*R) ((sv R t1 t2).take ps.length)=ps/\aW (j0 b1*R) (j0 b2*R) ((sv R t1 t2).drop ps.length)=qs:=by
 unfold aW at *;rw[List.map_take,b7l,h];simp
theorem Q7{H:Hp}{vs:List V}{pl:List Pl}(h:v7 H vs pl)(n:Nat):v7 H (vs.drop n) (pl.drop n):=by
 refine⟨by rw[b0e,b0e,h.len],fun i v p e1 e2=>?_⟩;rw[b2r] at e1 e2;exact h.get _ v p e1 e2
theorem ue{H:Hp}{l:Addr}{us:List V}{c:List Pl}(h:H l=some (.lst us))(hP:v7 H us c):cZ H none [.ref l] [c]:=⟨rfl,fun i v e e1 e2=>by
 cases i with
 | zero=>cases e1;cases e2;exact⟨l,us,rfl,(fun z=>by cases z),h,hP⟩
 | succ i=>simp at e1⟩
theorem rO(R:Int)(lx ly lo lt l:Addr):aB "ones" (.ref l) (ee R lx ly lo lt)=ee R lx ly l lt:=by
 first | rfl | kernel_rfl
theorem tP(R:Int)(lx ly lo lt l:Addr):aB "others" (.ref l) (ee R lx ly lo lt)=ee R lx ly lo l:=by
 first | rfl | kernel_rfl
theorem vQ(R:Int)(lx ly lo lt:Addr):(ee R lx ly lo lt).length=5:=by
 first | rfl | kernel_rfl
theorem dj(R:Int)(lx ly lo lt:Addr):(ee R lx ly lo lt).lookup (Str.ofString "ones")=some (.ref lo):=by
 unfold ee;rw[o6,if_neg (by decide),o6,if_pos rfl]
theorem cE(R:Int)(lx ly lo lt:Addr):(ee R lx ly lo lt).lookup (Str.ofString "others")=some (.ref lt):=by
 unfold ee;rw[o6,if_pos rfl]
theorem cD(R:Int)(lx ly lo lt:Addr):(ee R lx ly lo lt).lookup (Str.ofString "room")=some (.int R):=by
 unfold ee;rw[o6,if_neg (by decide),o6,if_neg (by decide),o6,if_neg (by decide),o6,if_neg (by decide),o6,if_pos rfl]
theorem jZ(R:Int)(lx ly lo lt:Addr):(ee R lx ly lo lt).lookup (Str.ofString "x_bottoms")=some (.ref lx):=by
 unfold ee;rw[o6,if_neg (by decide),o6,if_neg (by decide),o6,if_neg (by decide),o6,if_pos rfl]
theorem jY(R:Int)(lx ly lo lt:Addr):(ee R lx ly lo lt).lookup (Str.ofString "y_bottoms")=some (.ref ly):=by
 unfold ee;rw[o6,if_neg (by decide),o6,if_neg (by decide),o6,if_pos rfl]
noncomputable def pr(K:a8z)(C:Addr):Sp:=fun vs H Q _=>∃ (g dx lx ly lo lt:Addr) (R:Int) (yo yt:List V) (As Bs:List (List Pl)),vs=[.ref g]/\H g=some (.ins C dx (ee R lx ly lo lt))/\H lo=some (.lst yo)/\cZ H none yo As/\H lt=some (.lst yt)/\cZ H none yt Bs/\As.length<=1000/\(∀ c∈As,c.length<=1000)/\Bs.length<=1000/\(∀ c∈Bs,c.length<=1000)/\
 ∀ (lo' lt':Addr) (yo' yt':List V) (H':Hp),b9 H H'->H lo'=none->H lt'=none->H' lo'=some (.lst yo')->cZ H' none yo' (x6 As)->H' lt'=some (.lst yt')->cZ H' none yt' (x6 Bs)->Q .non (upd H' g (.ins C dx (ee R lx ly lo' lt')))
noncomputable def gC(css:List (List Pl))(i:Int):List Pl:=(css[i.toNat]?).getD []
noncomputable def L9(X Y R:Int)(A B:List Pl)(q1 q2 q3:Rat):Prop:=∃ w p q:Pl,q1=((w.1*X:Int):Rat)/\q2=((w.2*Y:Int):Rat)/\q3=a9e (dt w p+dt w q) (2*R)/\p∈A/\q∈B/\dt w p<dt w q/\(∀ p'∈A,dt w p'<=dt w p)/\(∀ q'∈B,dt w q<=dt w q')
noncomputable def si(A B:List Pl):Prop:=∃ ss:List kU,(∀ s∈ss,eE A B s)/\qo ss
structure uA(H:Hp)(vs:List V)(tl:List Pl)(Ln:Pl->Rat->Rat->Rat->Prop):Prop where
 len:vs.length=tl.length
 get:∀ (i:Nat) (v:V) (p:Pl),vs[i]?=some v->tl[i]?=some p->∃ (t:Addr) (w1 w2 w3:V) (q1 q2 q3:Rat),v=.ref t/\H t=some (.tup [.int p.1,.int p.2,w1,w2,w3])/\bh H w1 q1/\bh H w2 q2/\bh H w3 q3/\Ln p q1 q2 q3
theorem uA.tup{H H':Hp}{vs:List V}{tl:List Pl}{Ln:Pl->Rat->Rat->Rat->Prop}(h:uA H vs tl Ln)(s:bR H H'):uA H' vs tl Ln:=
 ⟨h.len,fun i v p e1 e2=>by obtain⟨t,w1,w2,w3,q1,q2,q3,r1,r2,r3,r4,r5,r6⟩:=h.get i v p e1 e2;exact⟨t,w1,w2,w3,q1,q2,q3,r1,s _ _ r2,r3.tup s,r4.tup s,r5.tup s,r6⟩⟩
theorem uA.snoc{H:Hp}{vs:List V}{tl:List Pl}{Ln:Pl->Rat->Rat->Rat->Prop}{t:Addr}{p:Pl}{w1 w2 w3:V}{q1 q2 q3:Rat}(h:uA H vs tl Ln)(ht:H t=some (.tup [.int p.1,.int p.2,w1,w2,w3]))(h1:bh H w1 q1)(h2:bh H w2 q2)(h3:bh H w3 q3)(hl:Ln p q1 q2 q3):uA H (vs++[.ref t]) (tl++[p]) Ln:=by
 refine⟨by simp[h.len],fun i v q e1 e2=>?_⟩;have hl':=h.len;by_cases hi:i<vs.length
 .rw[a9i hi] at e1;rw[a9i (by lia)] at e2;exact h.get i v q e1 e2
 .rw[a9l (by lia)] at e1 e2;rw[hl'] at e1;cases hz:i - tl.length with
  | zero=>rw[hz] at e1 e2;cases e1;cases e2;exact⟨t,w1,w2,w3,q1,q2,q3,rfl,ht,h1,h2,h3,hl⟩
  | succ k=>rw[hz] at e1;simp at e1
inductive wj:List Pl->List Pl->List Pl->Prop
 | nil:wj [] [] []
 | fst {l f t:List Pl} (p:Pl):wj l f t->wj (l++[p]) (f++[p]) t
 | snd {l f t:List Pl} (p:Pl):wj l f t->wj (l++[p]) f (t++[p])
theorem wj.perm{l f t:List Pl}(h:wj l f t):(f++t).Perm l:=by
 induction h with
 | nil=>exact b3l.refl _
 | fst p _ ih=>
   rw[a9z];exact (b3l.append_left _ b6b).trans (by rw[<- a9z];exact ih.append_right [p])
 | snd p _ ih=>rw[<- a9z];exact ih.append_right [p]
theorem wj.sub{l f t:List Pl}(h:wj l f t):f.Sublist l/\t.Sublist l:=by
 induction h with
 | nil=>exact⟨b8i.refl _,b8i.refl _⟩
 | fst p _ ih=>exact⟨ih.1.append (b8i.refl _),ih.2.trans (b7u _ _)⟩
 | snd p _ ih=>exact⟨ih.1.trans (b7u _ _),ih.2.append (b8i.refl _)⟩
theorem a1n{H:Hp}{ys:List V}{css:List (List Pl)}{i:Int}(h:cZ H none ys css)(h0:0<=i)(h1:i<css.length):∃ (l:Addr) (us:List V),ys[i.toNat]?=some (.ref l)/\H l=some (.lst us)/\v7 H us (gC css i)/\gC css i∈css:=by
 have hi:i.toNat<css.length:=by lia
 have e:css[i.toNat]?=some css[i.toNat]:=a8y hi;have eg:gC css i=css[i.toNat]:=by unfold gC;rw[e];rfl
 obtain⟨l,us,r1,r2,r3⟩:=h.at e;exact⟨l,us,r1,r2,by rw[eg];exact r3,by rw[eg];exact a9n hi⟩
noncomputable def a8t(X Y R:Int)(As Bs:List (List Pl))(p:Pl)(q1 q2 q3:Rat):Prop:=L9 X Y R (gC As p.1) (gC Bs p.2) q1 q2 q3
inductive aA (M:Nat->Pl->Prop):Nat->List Pl->List (Nat×Pl)->Prop
 | zero {f t:List Pl}:wj [((0:Int),(0:Int))] f t->(∀ p∈f,M 0 p)->(∀ p∈t,¬ M 0 p)->aA M 0 f (t.map (b5e 0))
 | step {d:Nat} {f:List Pl} {tt:List (Nat×Pl)} {qs f' t':List Pl}:aA M d f tt->qs.Perm (below f)->qs.Pairwise fX->wj qs f' t'->(∀ p∈f',M (d+1) p)->(∀ p∈t',¬ M (d+1) p)->aA M (d+1) f' (tt++t'.map (b5e (d+1)))
theorem aA.sort{M:Nat->Pl->Prop}{d:Nat}{f:List Pl}{tt:List (Nat×Pl)}(h:aA M d f tt):f.Pairwise fX:=by
 cases h with
 | zero p _ _=>exact b4c.sublist p.sub.1 (b3x _ _)
 | step _ _ s p _ _=>exact b4c.sublist p.sub.1 s
theorem aA.all{M:Nat->Pl->Prop}{d:Nat}{f:List Pl}{tt:List (Nat×Pl)}(h:aA M d f tt):∀ p∈f,M d p:=by
 cases h with
 | zero _ m _=>exact m
 | step _ _ _ _ m _=>exact m
theorem aA.nodup{M:Nat->Pl->Prop}{d:Nat}{f:List Pl}{tt:List (Nat×Pl)}(h:aA M d f tt):f.Nodup:=by
 induction h with
 | zero p _ _=>exact a9x.sublist p.sub.1 (by simp)
 | step _ hp _ p _ _ ih=>exact a9x.sublist p.sub.1 (hp.nodup_iff.mpr (gk ih))
theorem aA.len{M:Nat->Pl->Prop}{d:Nat}{f:List Pl}{tt:List (Nat×Pl)}(h:aA M d f tt):f.length<=4^d:=by
 induction h with
 | zero p _ _=>exact p.sub.1.length_le
 | step _ hp _ p _ _ ih=>
   have h1:=p.sub.1.length_le;rw[hp.length_eq,ie] at h1;rw[b4o];lia
noncomputable def nh(d:Nat)(p:Pl):Prop:=0<=p.1/\p.1<2^d/\0<=p.2/\p.2<2^d
theorem nh.below{d:Nat}{q:Pl}(h:nh d (q.1 / 2,q.2 / 2)):nh (d+1) q:=by
 obtain⟨a,b,c,e⟩:=h;have:(2:Int)^(d+1)=2*2^d:=by rw[b4p,b1f]
 refine⟨?_,?_,?_,?_⟩<;>simp only at *<;>lia
theorem aA.ins{M:Nat->Pl->Prop}{d:Nat}{f:List Pl}{tt:List (Nat×Pl)}(h:aA M d f tt):(∀ p∈f,nh d p)/\∀ r∈tt,r.1<=d/\nh r.1 r.2:=by
 induction h with
 | zero p _ _=>
   have z:nh 0 ((0:Int),(0:Int)):=⟨by decide,by decide,by decide,by decide⟩
   refine⟨fun q hq=>?_,fun r hr=>?_⟩
   .rw[a9q.mp (p.sub.1.subset hq)];exact z
   .obtain⟨q,hq,rfl⟩:=a9m.mp hr;refine⟨a9j _,?_⟩;show nh 0 q;rw[a9q.mp (p.sub.2.subset hq)];exact z
 | step _ hp _ p _ _ ih=>
   have up:∀ q,q∈_->nh _ q:=fun q hq=>(ih.1 _ (cP.mp (hp.subset hq))).below;refine⟨fun q hq=>up q (p.sub.1.subset hq),fun r hr=>?_⟩;rcases a9k.mp hr with hr | hr
   .exact⟨Nat.le_succ_of_le (ih.2 r hr).1,(ih.2 r hr).2⟩
   .obtain⟨q,hq,rfl⟩:=a9m.mp hr;exact⟨a9j _,up q (p.sub.2.subset hq)⟩
noncomputable def a6d(d:Nat)(s:Pl)(r:Nat×Pl):Bool:=decide (r.2=(s.1 / 2^(d - r.1),s.2 / 2^(d - r.1)))
theorem rZ{f:List Pl}(h:f.Nodup)(s:Pl):(below f).count s=f.count (s.1 / 2,s.2 / 2):=by
 by_cases hm:(s.1 / 2,s.2 / 2)∈f
 .rw[a9x.count h,if_pos hm,a9x.count (gk h),if_pos (cP.mpr hm)]
 .rw[b4d hm,b4d fun z=>hm (cP.mp z)]
theorem oM(d:Nat)(s:Pl)(t:List Pl):(t.map (b5e d)).countP (a6d d s)=t.count s:=by
 rw[List.countP_map];unfold List.count;apply c0p;intro q _;simp only[Function.comp,a6d,c0i,c0m,Int.ediv_one,decide_eq_true_eq,beq_iff_eq]
theorem rL(x:Int)(k:Nat):x / 2 / 2^k=x / 2^(k+1):=by
 rw[b8m (by decide),b4p,b1f]
theorem aA.fill{M:Nat->Pl->Prop}{d:Nat}{f:List Pl}{tt:List (Nat×Pl)}(h:aA M d f tt):∀ s,nh d s->f.count s+tt.countP (a6d d s)=1:=by
 induction h with
 | zero p _ _=>
   intro s hs;obtain⟨a,b,c,e⟩:=hs;rw[oM,<- c0q,p.perm.count_eq];have e1:s=(0,0):=b6a (by simp at *;lia) (by simp at *;lia);rw[e1];rfl
 | @step d f tt qs f' t' ht hp hs p _ _ ih=>
   intro s hs;have h2:nh d (s.1 / 2,s.2 / 2):=by
    obtain⟨a,b,c,e⟩:=hs;have:(2:Int)^(d+1)=2*2^d:=by rw[b4p,b1f]
    refine⟨?_,?_,?_,?_⟩<;>simp only<;>lia
   have hc:tt.countP (a6d (d+1) s)=tt.countP (a6d d (s.1 / 2,s.2 / 2)):=by
    apply c0p;intro r hr;have hle:=(ht.ins.2 r hr).1;simp only[a6d,decide_eq_true_eq];rw[show d+1 - r.1=(d - r.1)+1 by lia,<- rL,<- rL]
   have h3:=ih _ h2;have h4:f'.count s+t'.count s=f.count (s.1 / 2,s.2 / 2):=by
    rw[<- c0q,p.perm.count_eq,hp.count_eq,rZ ht.nodup]
   rw[List.countP_append,oM,hc];lia
theorem fY{X Y R:Int}{A B:List Pl}{q1 q2 q3:Rat}(h:L9 X Y R A B q1 q2 q3):¬ si A B:=by
 rintro⟨ss,ha,hh⟩;obtain⟨w,p,q,_,_,_,_,_,hlt,hA,hB⟩:=h;have pos:∀ s∈ss,0<dt w s.1:=fun s hs=>by
  obtain⟨i,j,a,b,e1,e2,rfl⟩:=ha s hs;have z1:=hA a (a9f e1);have z2:=hB b (a9f e2);unfold dt at *;simp only at *;grind
 rcases hh with⟨r,rfl,h1⟩ | ⟨r,f,rfl,h1,h2,h3⟩ | ⟨r,l,f,rfl,h1,h2,h3⟩
 .have:=pos r (by simp);rw[h1] at this;unfold dt at this;simp at this
 .have a:=pos r (by simp);have b:=pos f (by simp);have e:(r.1.1*r.1.1+r.1.2*r.1.2)*dt w f.1=dt w r.1*dt r.1 f.1:=by
   unfold cr at h1;unfold dt;grind
  have n1:=a0w r.1.1;have n2:=a0w r.1.2;have rp:0<r.1.1*r.1.1+r.1.2*r.1.2:=by
   rcases c0l 0 (r.1.1*r.1.1+r.1.2*r.1.2) with z | z
   .exact z
   .exfalso;have y1:r.1.1*r.1.1=0:=by lia
    have y2:r.1.2*r.1.2=0:=by lia
    exact h3 (b6a ((Int.mul_eq_zero.mp y1).elim id id) ((Int.mul_eq_zero.mp y2).elim id id))
  have c1:=b1b rp b;rw[e] at c1;have:=ky a c1;lia
 .have a:=pos r (by simp);have b:=pos l (by simp);have c:=pos f (by simp);have e:cr r.1 l.1*dt w f.1=cr f.1 l.1*dt w r.1+cr r.1 f.1*dt w l.1:=by
   unfold cr dt;grind
  have c1:=b1b h1 c;have c2:=b2k (show 0<=- cr f.1 l.1 by lia) (b3j a);have c3:=b2k (show 0<=- cr r.1 f.1 by lia) (b3j b);rw[Int.neg_mul] at c2 c3;lia
theorem aA.mem{M:Nat->Pl->Prop}{d:Nat}{f f':List Pl}{tt tt':List (Nat×Pl)}(h:aA M d f tt)(h':aA M d f' tt'):∀ p,p∈f->p∈f':=by
 induction h generalizing f' tt' with
 | zero p m n=>
   intro q hq;cases h' with
   | zero p' m' n'=>
     have:=p'.perm.mem_iff.mpr (p.sub.1.subset hq);rcases a9k.mp this with z | z
     .exact z
     .exact absurd (m q hq) (n' q z)
 | step _ hp _ p m n ih=>
   intro q hq;cases h' with
   | step h2 hp' _ p' m' n'=>
     have a:=cP.mp (hp.subset (p.sub.1.subset hq));have b:=hp'.mem_iff.mpr (cP.mpr (ih h2 _ a));rcases a9k.mp (p'.perm.mem_iff.mpr b) with z | z
     .exact z
     .exact absurd (m q hq) (n' q z)
structure qm(H:Hp)(vs:List V)(tt:List (Nat×Pl))(Ln:Nat->Pl->Rat->Rat->Rat->Prop):Prop where
 len:vs.length=tt.length
 get:∀ (i:Nat) (v:V) (r:Nat×Pl),vs[i]?=some v->tt[i]?=some r->∃ (t:Addr) (w1 w2 w3:V) (q1 q2 q3:Rat),v=.ref t/\H t=some (.tup [.int (r.1:Int),.int r.2.1,.int r.2.2,w1,w2,w3])/\bh H w1 q1/\bh H w2 q2/\bh H w3 q3/\Ln r.1 r.2 q1 q2 q3
theorem qm.tup{H H':Hp}{vs:List V}{tt:List (Nat×Pl)}{Ln:Nat->Pl->Rat->Rat->Rat->Prop}(h:qm H vs tt Ln)(s:bR H H'):qm H' vs tt Ln:=
 ⟨h.len,fun i v p e1 e2=>by obtain⟨t,w1,w2,w3,q1,q2,q3,r1,r2,r3,r4,r5,r6⟩:=h.get i v p e1 e2;exact⟨t,w1,w2,w3,q1,q2,q3,r1,s _ _ r2,r3.tup s,r4.tup s,r5.tup s,r6⟩⟩
theorem qm.append{H:Hp}{vs ws:List V}{tt ss:List (Nat×Pl)}{Ln:Nat->Pl->Rat->Rat->Rat->Prop}(h:qm H vs tt Ln)(k:qm H ws ss Ln):qm H (vs++ws) (tt++ss) Ln:=by
 have hl:=h.len;refine⟨by rw[a9b,a9b,hl,k.len],fun i v r e1 e2=>?_⟩;by_cases hi:i<vs.length
 .rw[a9i hi] at e1;rw[a9i (by lia)] at e2;exact h.get i v r e1 e2
 .rw[a9l (by lia)] at e1 e2;rw[hl] at e1;exact k.get _ v r e1 e2
noncomputable def jA(c1 c2:List Pl)(d:Nat)(p:Pl):Prop:=si (gC (cL c1 d) p.1) (gC (cL c2 d) p.2)
noncomputable def a8u(X Y R:Int)(c1 c2:List Pl)(d:Nat)(p:Pl)(q1 q2 q3:Rat):Prop:=a8t X Y R (cL c1 d) (cL c2 d) p q1 q2 q3
theorem a1v{H:Hp}{ys vh:List V}{css:List (List Pl)}{ld:Addr}{tt:List (Nat×Pl)}{Ln:Nat->Pl->Rat->Rat->Rat->Prop}(h:cZ H none ys css)(h1:∀ c∈css,1<=c.length)(hd:H ld=some (.lst vh))(hT:qm H vh tt Ln):cZ H (some ld) ys css:=by
 refine⟨h.len,fun i v c e1 e2=>?_⟩;obtain⟨l,us,r1,_,r3,r4⟩:=h.get i v c e1 e2;refine⟨l,us,r1,fun z=>?_,r3,r4⟩;cases z;rw[hd] at r3;cases r3;have hc:=h1 c (a9f e2);have hl:=r4.len;have hl2:=hT.len;have a1:vh[0]?=some (vh[0]'(by omega (config:={}))):=a8y (by lia);have a2:c[0]?=some (c[0]'(by omega (config:={}))):=a8y (by lia);have a3:tt[0]?=some (tt[0]'(by omega (config:={}))):=a8y (by lia);obtain⟨t,w1,w2,w3,_,_,_,b1,b2,_⟩:=hT.get 0 _ _ a1 a3;obtain⟨b,c1,c2⟩:=r4.get 0 _ _ a1 a2;rw[b1] at c1;cases c1;rw[b2] at c2;simp at c2
theorem mL(R:Int)(lx ly lo lt:Addr):(ee R lx ly lo lt).lookup (Str.ofString "go_down")=none:=by
 unfold ee;rw[o6,if_neg (by decide),o6,if_neg (by decide),o6,if_neg (by decide),o6,if_neg (by decide),o6,if_neg (by decide)];rfl
theorem kr{f f':List Pl}(h:f.Pairwise fX)(h':f'.Pairwise fX)(ir:∀ p,¬ fX p p)(as:∀ p q,fX p q->fX q p->False)(e:∀ p,p∈f↔p∈f'):f=f':=by
 induction f generalizing f' with
 | nil=>
   cases f' with
   | nil=>rfl
   | cons b r=>exact absurd ((e b).mpr (by simp)) (by simp)
 | cons a l ih=>
   cases f' with
   | nil=>exact absurd ((e a).mp (by simp)) (by simp)
   | cons b r=>
     rw[b7c] at h h';have ab:a=b:=by
      rcases a9g.mp ((e a).mp (by simp)) with z | z
      .exact z
      .rcases a9g.mp ((e b).mpr (by simp)) with y | y
       .exact y.symm
       .exact (as _ _ (h.1 b y) (h'.1 a z)).elim
     subst ab;congr 1;refine ih h.2 h'.2 fun p=>⟨fun hp=>?_,fun hp=>?_⟩
     .rcases a9g.mp ((e p).mp (by simp[hp])) with z | z
      .subst z;exact (ir _ (h.1 _ hp)).elim
      .exact z
     .rcases a9g.mp ((e p).mpr (by simp[hp])) with z | z
      .subst z;exact (ir _ (h'.1 _ hp)).elim
      .exact z
theorem aA.same{M:Nat->Pl->Prop}{d:Nat}{f f':List Pl}{tt tt':List (Nat×Pl)}(h:aA M d f tt)(h':aA M d f' tt'):f=f':=
 kr h.sort h'.sort (fun p z=>by unfold fX at z;lia) (fun p q z y=>by unfold fX at z y;lia) fun p=>⟨h.mem h' p,h'.mem h p⟩
noncomputable def aK(ps:List Pt):Nat->List (List Pt)
 | 0=>[ps]
 | d+1=>(aK ps d).flatMap fun c=>[cg (1 / 2) c,dH (1 / 2) c]
theorem mJ{dx dy:Int}{M:Nat}:∀ css:List (List Pl),(∀ c∈css,ko M c/\c.length<=M+1)->(x6 css).map (aW dx dy)=(css.map (aW dx dy)).flatMap fun c=>[cg (1 / 2) c,dH (1 / 2) c]
 | [],_=>rfl
 | c::r,h=>by
   have ih:=mJ (dx:=dx) (dy:=dy) r fun e he=>h e (b0f _ he);obtain⟨a,b⟩:=h c (by simp);show (aW dx dy (kN c))::(aW dx dy (kL c))::(x6 r).map (aW dx dy)=_;rw[ih,tV a b,tM a b];rfl
theorem mF{dx dy:Int}{ps:List Pt}{n L:Nat}{c:List Pl}(h1:1<=ps.length)(hc:aW dx dy c=ps)(hz:du n c)(hd:ko (L*(ps.length - 1)) c):∀ d,d<=L->(cL c d).map (aW dx dy)=aK ps d
 | 0,_=>by show [aW dx dy c]=[ps];rw[hc]
 | d+1,h=>by
   have ih:=mF h1 hc hz hd d (by lia);have O:=jU h1 hc hz L d (by lia) hd;have hm:ps.length - 1<=(L - d)*(ps.length - 1):=Nat.le_mul_of_pos_left _ (by lia);show (x6 (cL c d)).map (aW dx dy)=(aK ps d).flatMap _;rw[<- ih];exact mJ (M:=(L - d)*(ps.length - 1)) _ fun e he=>⟨O.dv e he,by rw[O.len e he];lia⟩
theorem iQ{α:Type}(f:α->Nat)(c:Nat):∀ l:List α,(∀ x∈l,f x=c)->(l.map f).sum=l.length*c
 | [],_=>by simp
 | x::r,h=>by rw[b1q,List.sum_cons,iQ f c r fun y hy=>h y (b0f _ hy),h x (by simp),b0r,b6t];lia
structure ng(ps qs:List Pt)(L:Nat)(X Y R:Int)(c1 c2:List Pl):Prop where
 x:0<X
 y:0<Y
 r:0<R
 p1:aW (X*R) (Y*R) c1=ps
 p2:aW (X*R) (Y*R) c2=qs
 d1:ko (L*(max ps.length qs.length - 1)) c1
 d2:ko (L*(max ps.length qs.length - 1)) c2
 z:∃ n,du n c1/\du n c2
noncomputable def gP(css:List (List Pt))(i:Int):List Pt:=(css[i.toNat]?).getD []
noncomputable def uE(ps qs:List Pt):Prop:=∀ q1 q2 q3,¬ oW ps qs q1 q2 q3
noncomputable def MQ(ps qs:List Pt)(d:Nat)(p:Pl):Prop:=uE (gP (aK ps d) p.1) (gP (aK qs d) p.2)
theorem pc{dx dy:Int}{As:List (List Pl)}{css:List (List Pt)}(e:As.map (aW dx dy)=css)(i:Int):aW dx dy (gC As i)=gP css i:=by
 subst e;unfold gC gP;rw[a9h];cases As[i.toNat]? with
 | none=>rfl
 | some a=>rfl
theorem tE(w:Pl):∀ A:List Pl,A≠[]->∃ p∈A,∀ p'∈A,dt w p'<=dt w p
 | [a],_=>⟨a,by simp,fun p' hp=>by rw[a9q.mp hp];exact b3u _⟩
 | a::b::r,_=>by
   obtain⟨p,hp,h⟩:=tE w (b::r) (by simp);by_cases hc:dt w p<=dt w a
   .refine⟨a,by simp,fun p' hp'=>?_⟩;rcases a9g.mp hp' with rfl | z
    .exact b3u _
    .exact b4q (h p' z) hc
   .refine⟨p,b0f _ hp,fun p' hp'=>?_⟩;rcases a9g.mp hp' with rfl | z
    .lia
    .exact h p' z
theorem G8(w p:Pl):dt (-w.1,-w.2) p=- dt w p:=by unfold dt;simp only;grind
theorem a4n(w:Pl)(A:List Pl)(h:A≠[]):∃ p∈A,∀ p'∈A,dt w p<=dt w p':=by
 obtain⟨p,hp,h⟩:=tE (-w.1,-w.2) A h;refine⟨p,hp,fun p' hp'=>?_⟩;have:=h p' hp';rw[G8,G8] at this;lia
theorem V2{A B:List Pl}(h:si A B):A≠[]/\B≠[]:=by
 obtain⟨ss,ha,hh⟩:=h;have:∃ s,s∈ss:=by
  rcases hh with⟨r,rfl,_⟩ | ⟨r,f,rfl,_⟩ | ⟨r,l,f,rfl,_⟩
  .exact⟨r,by simp⟩
  .exact⟨r,by simp⟩
  .exact⟨r,by simp⟩
 obtain⟨s,hs⟩:=this;obtain⟨i,j,p,q,e1,e2,_⟩:=ha s hs;exact⟨fun z=>by rw[z] at e1;simp at e1,fun z=>by rw[z] at e2;simp at e2⟩
theorem wm(a b:Rat){X Y:Int}(hX:0<X)(hY:0<Y):∃ (w:Pl) (k:Rat),0<k/\∀ P:Pl,(a*a9e P.1 X+b*a9e P.2 Y)*k=((dt w P:Int):Rat):=by
 refine⟨(a.num*(b.den:Int)*Y,b.num*(a.den:Int)*X),((a.den:Int):Rat)*((b.den:Int):Rat)*(X:Rat)*(Y:Rat),?_,fun P=>?_⟩
 .have h1:(0:Rat)<((a.den:Int):Rat):=by exact_mod_cast a.den_pos
  have h2:(0:Rat)<((b.den:Int):Rat):=by exact_mod_cast b.den_pos
  have h3:(0:Rat)<(X:Rat):=by exact_mod_cast hX
  have h4:(0:Rat)<(Y:Rat):=by exact_mod_cast hY
  exact b7i (b7i (b7i h1 h2) h3) h4
 .have e1:=iC (x:=P.1) hX;have e2:=iC (x:=P.2) hY;have ea:a*((a.den:Int):Rat)=(a.num:Rat):=(fW a).symm;have eb:b*((b.den:Int):Rat)=(b.num:Rat):=(fW b).symm;unfold dt;rw[b2y,a9u,a9u,a9u,a9u,a9u,a9u,<- ea,<- eb,<- e1,<- e2];grind
theorem xf{X Y:Int}(hX:0<X)(hY:0<Y){A B:List Pl}(h:si A B):uE (aW X Y A) (aW X Y B):=by
 intro q1 q2 q3 hq;obtain⟨nA,nB⟩:=V2 h;obtain⟨w,k,k0,hk⟩:=wm q1 q2 hX hY;obtain⟨p,hp,hmx⟩:=tE w A nA;obtain⟨q,hq',hmn⟩:=a4n w B nB;refine fY (X:=1) (Y:=1) (R:=1) ⟨w,p,q,rfl,rfl,rfl,hp,hq',?_,hmx,hmn⟩ h;have h1:=hq.lo _ (a9m.mpr ⟨p,hp,rfl⟩);have h2:=hq.hi _ (a9m.mpr ⟨q,hq',rfl⟩);have h3:=b4m (show q1*a9e p.1 X+q2*a9e p.2 Y<q1*a9e q.1 X+q2*a9e q.2 Y by grind) k0;rw[hk,hk] at h3
 exact_mod_cast h3
theorem tL{X Y R:Int}(hX:0<X)(hY:0<Y)(hR:0<R){A B:List Pl}{q1 q2 q3:Rat}(h:L9 X Y R A B q1 q2 q3):oW (aW (X*R) (Y*R) A) (aW (X*R) (Y*R) B) q1 q2 q3:=by
 obtain⟨w,p,q,rfl,rfl,rfl,hp,hq,hlt,hmx,hmn⟩:=h;have R0:(0:Rat)<(R:Rat):=by exact_mod_cast hR
 have key:∀ P:Pl,(((w.1*X:Int):Rat)*a9e P.1 (X*R)+((w.2*Y:Int):Rat)*a9e P.2 (Y*R))*(R:Rat)=((dt w P:Int):Rat):=fun P=>by
  have e1:=iC (x:=P.1) (b1b hX hR);have e2:=iC (x:=P.2) (b1b hY hR);unfold dt;rw[b2y,a9u,a9u,a9u,a9u,<- e1,<- e2,a9u,a9u];grind
 have e3:a9e (dt w p+dt w q) (2*R)*(2*(R:Rat))=((dt w p+dt w q:Int):Rat):=by
  have:=iC (x:=dt w p+dt w q) (X:=2*R) (by lia);rw[a9u] at this;exact this
 have fin:∀ (z:Rat) (m:Int),z*(R:Rat)=(m:Rat)->(2*m<dt w p+dt w q->z<a9e (dt w p+dt w q) (2*R))/\(dt w p+dt w q<2*m->a9e (dt w p+dt w q) (2*R)<z):=fun z m hz=>by
  have h2R:(0:Rat)<2*(R:Rat):=by grind
  have hz2:z*(2*(R:Rat))=((2*m:Int):Rat):=by rw[a9u,<- hz];grind
  refine⟨fun h=>?_,fun h=>?_⟩
  .have h':((2*m:Int):Rat)<((dt w p+dt w q:Int):Rat):=by exact_mod_cast h
   rw[<- hz2,<- e3] at h';exact b7j h' (b4r h2R)
  .have h':((dt w p+dt w q:Int):Rat)<((2*m:Int):Rat):=by exact_mod_cast h
   rw[<- hz2,<- e3] at h';exact b7j h' (b4r h2R)
 refine⟨fun x hx=>?_,fun x hx=>?_⟩
 .obtain⟨P,hP,rfl⟩:=a9m.mp hx;exact (fin _ _ (key P)).1 (by have:=hmx P hP;lia)
 .obtain⟨P,hP,rfl⟩:=a9m.mp hx;exact (fin _ _ (key P)).2 (by have:=hmn P hP;lia)
theorem ng.lv{ps qs:List Pt}{L:Nat}{X Y R:Int}{c1 c2:List Pl}(h1:1<=ps.length)(h2:1<=qs.length)(h:ng ps qs L X Y R c1 c2){e:Nat}(he:e<=L):(cL c1 e).map (aW (X*R) (Y*R))=aK ps e/\(cL c2 e).map (aW (X*R) (Y*R))=aK qs e:=by
 obtain⟨n,z1,z2⟩:=h.z;have m1:L*(ps.length - 1)<=L*(max ps.length qs.length - 1):=b0m _ (by lia);have m2:L*(qs.length - 1)<=L*(max ps.length qs.length - 1):=b0m _ (by lia);exact⟨mF h1 h.p1 z1 (h.d1.mono m1) e he,mF h2 h.p2 z2 (h.d2.mono m2) e he⟩
theorem ng.line{ps qs:List Pt}{L:Nat}{X Y R:Int}{c1 c2:List Pl}(h1:1<=ps.length)(h2:1<=qs.length)(h:ng ps qs L X Y R c1 c2){e:Nat}(he:e<=L){p:Pl}{q1 q2 q3:Rat}(hl:a8u X Y R c1 c2 e p q1 q2 q3):oW (gP (aK ps e) p.1) (gP (aK qs e) p.2) q1 q2 q3:=by
 obtain⟨a,b⟩:=h.lv h1 h2 he;rw[<- pc a,<- pc b];exact tL h.x h.y h.r hl
theorem ng.mq{ps qs:List Pt}{L:Nat}{X Y R:Int}{c1 c2:List Pl}(h1:1<=ps.length)(h2:1<=qs.length)(h:ng ps qs L X Y R c1 c2){e:Nat}(he:e<=L){p:Pl}(hm:jA c1 c2 e p):MQ ps qs e p:=by
 obtain⟨a,b⟩:=h.lv h1 h2 he;unfold MQ;rw[<- pc a,<- pc b];exact xf (b1b h.x h.r) (b1b h.y h.r) hm
theorem aA.conv{M M':Nat->Pl->Prop}{d:Nat}{f:List Pl}{tt:List (Nat×Pl)}(h:aA M d f tt)(hM:∀ e,e<=d->∀ p,M e p->M' e p)(hT:∀ r∈tt,¬ M' r.1 r.2):aA M' d f tt:=by
 induction h with
 | @zero f t p m n=>exact .zero p (fun q hq=>hM 0 (a9j _) q (m q hq)) fun q hq=>hT (0,q) (a9m.mpr ⟨q,hq,rfl⟩)
 | @step d f tt qs f' t' h hp hs p m n ih=>
   refine .step (ih (fun e he=>hM e (by lia)) fun r hr=>hT r (a9k.mpr (.inl hr))) hp hs p (fun q hq=>hM _ (a9j _) q (m q hq)) fun q hq=>hT (d+1,q) (a9k.mpr (.inr (a9m.mpr ⟨q,hq,rfl⟩)))
noncomputable def LnQ(ps qs:List Pt)(d:Nat)(p:Pl)(q1 q2 q3:Rat):Prop:=oW (gP (aK ps d) p.1) (gP (aK qs d) p.2) q1 q2 q3
theorem qm.ln{H:Hp}{vs:List V}{tt:List (Nat×Pl)}{Ln Ln':Nat->Pl->Rat->Rat->Rat->Prop}(h:qm H vs tt Ln)(k:∀ r∈tt,∀ q1 q2 q3,Ln r.1 r.2 q1 q2 q3->Ln' r.1 r.2 q1 q2 q3):qm H vs tt Ln':=
 ⟨h.len,fun i v r e1 e2=>by
  obtain⟨t,w1,w2,w3,q1,q2,q3,r1,r2,r3,r4,r5,r6⟩:=h.get i v r e1 e2;exact⟨t,w1,w2,w3,q1,q2,q3,r1,r2,r3,r4,r5,k r (a9f e2) q1 q2 q3 r6⟩⟩
theorem qm.ex{H:Hp}{vs:List V}{tt:List (Nat×Pl)}{Ln:Nat->Pl->Rat->Rat->Rat->Prop}(h:qm H vs tt Ln):∀ r∈tt,∃ q1 q2 q3,Ln r.1 r.2 q1 q2 q3:=fun r hr=>by
 obtain⟨i,hi,e⟩:=a9o hr;have hl:=h.len;obtain⟨t,w1,w2,w3,q1,q2,q3,_,_,_,_,_,r6⟩:=h.get i _ r (a8y (by lia)) (by rw[a8y hi,e]);exact⟨q1,q2,q3,r6⟩
end Cv
namespace Cv
noncomputable def ovr(Px Py:Int)(p:Pl):Pt:=(a9e p.1 Px,a9e p.2 Py)
noncomputable def gq(l:List Pt)(i:Nat):Pt:=l.getD i (0,0)
theorem pZ{l:List Pt}{i:Nat}(h:i<l.length):l[i]?=some (gq l i):=by
 unfold gq;rw[b0h,a8y h];rfl
theorem E7{l:List Pt}{i:Nat}(h:i<l.length):gq l i∈l:=a9f (pZ h)
end Cv
namespace Cv
open PySem PySem.Spec PyProof.Rows L2
theorem rf{q:Rat}{B:Int}(hB:0<B)(h:(q.den:Int)∣B):q=a9e (q.num*(B / (q.den:Int))) B:=by
 obtain⟨c,rfl⟩:=h;have hd:(q.den:Int)≠0:=by have:=q.den_pos;lia
 rw[b1e _ hd];have hc:c≠0:=fun z=>by rw[z] at hB;simp at hB
 have hc':(c:Rat)≠0:=by exact_mod_cast hc
 have hd':((q.den:Int):Rat)≠0:=by exact_mod_cast hd
 have e:=fW q;rw[b0t,a9u,a9u];grind
theorem mO(B:Int)(q:Rat):B.fdiv (q.den:Int)=B / (q.den:Int):=b0v B (by lia)
theorem I0{B:Int}{q:Rat}{n:Nat}(hB:0<B)(z:Sz n B):Sz n (B / (q.den:Int)):=z.le (by
 have h1:=Int.ediv_le_self (q.den:Int) (b3j hB);have h2:=Int.ediv_nonneg (b3j hB) (show (0:Int)<=q.den by lia);lia)
noncomputable def M9(B:Int)(p:Pt):Pl:=(p.1.num*(B / (p.1.den:Int)),p.2.num*(B / (p.2.den:Int)))
theorem kX{B:Int}{p:Pt}(hB:0<B)(h1:(p.1.den:Int)∣B)(h2:(p.2.den:Int)∣B):ovr B B (M9 B p)=p:=b6a (rf hB h1).symm (rf hB h2).symm
theorem xh{b d B:Int}(hb:0<b)(hd:0<d)(h1:b∣B)(h2:d∣B):0<b.fdiv (a9r b d:Int)*d/\b∣b.fdiv (a9r b d:Int)*d/\d∣b.fdiv (a9r b d:Int)*d/\b.fdiv (a9r b d:Int)*d∣B:=by
 obtain⟨_,a2,a3,a4,⟨y,hy⟩⟩:=rE hd h1 h2;obtain⟨x,hx⟩ : (a9r b d:Int)∣b:=b6d ..;generalize (a9r b d:Int)=g at *;have ex:b.fdiv g=x:=by rw[b0v _ (by lia),hx,b1e _ (by lia)]
 have ey:d.fdiv g=y:=by rw[b0v _ (by lia),hy,b1e _ (by lia)]
 have e:b.fdiv g*d=b*d.fdiv g:=by rw[ex,ey,hx,hy];grind
 rw[e];refine⟨b1b hb a3,⟨_,rfl⟩,?_,a2⟩;rw[<- e];exact⟨_,b1f ..⟩
noncomputable def eV(m:Int)(c:List Pl):List Pl:=c.map fun p=>(p.1*m,p.2*m)
noncomputable def sN(c:List Pl):List Pl:=b5p (fun p q=>(p.1+q.1,p.2+q.2)) c (c.drop 1)
noncomputable def cv(c:List Pl):Nat->List Pl
 | 0=>c
 | r+1=>sN (cv c r)
theorem vg(c:List Pl):(sN c).length=c.length - 1:=by unfold sN;rw[b2m,b0e];lia
theorem be(c:List Pl):∀ r,(cv c r).length=c.length - r
 | 0=>rfl
 | r+1=>by show (sN (cv c r)).length=_;rw[vg,be c r];lia
theorem a5f(m:Int)(c:List Pl):tO (eV (2*m) c)=eV m (sN c):=by
 unfold tO eV sN;rw[<- b7l,List.zipWith_map,List.map_zipWith];refine congrArg (fun f=>b5p f c (c.drop 1)) ?_;funext p q;refine b6a ?_ ?_
 .show (p.1*(2*m)+q.1*(2*m)) / 2=(p.1+q.1)*m;rw[show p.1*(2*m)+q.1*(2*m)=2*((p.1+q.1)*m) by grind];lia
 .show (p.2*(2*m)+q.2*(2*m)) / 2=(p.2+q.2)*m;rw[show p.2*(2*m)+q.2*(2*m)=2*((p.2+q.2)*m) by grind];lia
theorem rH(c:List Pl)(n:Nat):∀ r,r<=n->cM (eV (2^n) c) r=eV (2^(n - r)) (cv c r)
 | 0,_=>rfl
 | r+1,h=>by
   show tO (cM (eV (2^n) c) r)=eV _ (sN (cv c r));rw[rH c n r (by lia),show n - r=(n - (r+1))+1 by lia,b4p,b1f,a5f]
theorem O1(m:Int)(c:List Pl)(i:Nat):((eV m c)[i]?).getD (0,0)=(((c[i]?).getD (0,0)).1*m,((c[i]?).getD (0,0)).2*m):=by
 unfold eV;rw[a9h];cases c[i]? with
 | none=>simp
 | some p=>rfl
theorem vm{dx dy m:Int}(hm:m≠0)(c:List Pl):aW (dx*m) (dy*m) (eV m c)=aW dx dy c:=by
 unfold aW eV;rw[b2h];refine b1v fun p _=>?_;show (a9e (p.1*m) (dx*m),a9e (p.2*m) (dy*m))=_;rw[b4w hm,b4w hm]
theorem vn(n:Nat)(c:List Pl):ko n (eV (2^n) c):=fun p hp=>by
 obtain⟨q,_,rfl⟩:=a9m.mp hp;exact⟨Int.dvd_mul_left ..,Int.dvd_mul_left ..⟩
theorem gD(m:Int)(c:List Pl):(eV m c).length=c.length:=by unfold eV;rw[a9a]
theorem pB{n k:Nat}{c:List Pl}(h:du n c):du (n+(k+1)) (eV (2^k) c):=fun p hp=>by
 obtain⟨q,hq,rfl⟩:=a9m.mp hp;exact⟨(h q hq).1.mul (bt k),(h q hq).2.mul (bt k)⟩
noncomputable def xS(c:List Pl):List Pl:=kN (eV (2^(c.length - 1)) c)
noncomputable def B7(c:List Pl):List Pl:=kL (eV (2^(c.length - 1)) c)
theorem X9(c:List Pl):(xS c).length=c.length:=by unfold xS;rw[vS,gD]
theorem V7(c:List Pl):(B7 c).length=c.length:=by unfold B7;rw[vE,gD]
theorem X8{b:Int}(c:List Pl):aW (b*2^(c.length - 1)) (b*2^(c.length - 1)) (xS c)=cg (1 / 2) (aW b b c):=by
 unfold xS;rw[tV (vn _ c) (by rw[gD];lia),vm (Int.ne_of_gt (bX _))]
theorem V6{b:Int}(c:List Pl):aW (b*2^(c.length - 1)) (b*2^(c.length - 1)) (B7 c)=dH (1 / 2) (aW b b c):=by
 unfold B7;rw[tM (vn _ c) (by rw[gD];lia),vm (Int.ne_of_gt (bX _))]
theorem a5j{n:Nat}{c:List Pl}(h:du n c):du (n+c.length+1) (xS c):=a1q fun p hp=>⟨(pB h p hp).1.mono (by lia),(pB h p hp).2.mono (by lia)⟩
theorem a4q{n:Nat}{c:List Pl}(h:du n c):du (n+c.length+1) (B7 c):=a1i fun p hp=>⟨(pB h p hp).1.mono (by lia),(pB h p hp).2.mono (by lia)⟩
noncomputable def cU(css:List (List Pl)):List (List Pl):=css.flatMap fun c=>[xS c,B7 c]
noncomputable def nJ(c:List Pl):Nat->List (List Pl)
 | 0=>[c]
 | d+1=>cU (nJ c d)
theorem kC{b:Int}{n:Nat}:∀ css:List (List Pl),(∀ c∈css,c.length=n)->(cU css).map (aW (b*2^(n - 1)) (b*2^(n - 1)))=(css.map (aW b b)).flatMap fun c=>[cg (1 / 2) c,dH (1 / 2) c]
 | [],_=>rfl
 | c::r,h=>by
   have ih:=kC (b:=b) r fun e he=>h e (b0f _ he);have hc:=h c (by simp);show (aW _ _ (xS c))::(aW _ _ (B7 c))::(cU r).map _=_;rw[ih,<- hc,X8,V6];rfl
structure a1y(b:Int)(ps:List Pt)(m d:Nat)(css:List (List Pl)):Prop where
 eq:css.map (aW (b*2^(d*(ps.length - 1))) (b*2^(d*(ps.length - 1))))=aK ps d
 len:∀ c∈css,c.length=ps.length
 sz:∀ c∈css,du (m+d*(ps.length+1)) c
 n:css.length=2^d
theorem a1y.step{b:Int}{ps:List Pt}{m d:Nat}{css:List (List Pl)}(h:a1y b ps m d css):a1y b ps m (d+1) (cU css):=by
 refine⟨?_,fun c hc=>?_,fun c hc=>?_,?_⟩
 .rw[show (d+1)*(ps.length - 1)=d*(ps.length - 1)+(ps.length - 1) by rw[b6t],b9i,<- b2q,kC css h.len,h.eq];rfl
 .obtain⟨e,he,hc⟩:=b3s.mp hc;simp only[a9g,a9w,or_false] at hc;rcases hc with rfl | rfl
  .rw[X9];exact h.len e he
  .rw[V7];exact h.len e he
 .obtain⟨e,he,hc⟩:=b3s.mp hc;simp only[a9g,a9w,or_false] at hc;have hl:=h.len e he;have e1:m+(d+1)*(ps.length+1)=m+d*(ps.length+1)+e.length+1:=by rw[b6t,hl];lia
  rw[e1];rcases hc with rfl | rfl
  .exact a5j (h.sz e he)
  .exact a4q (h.sz e he)
 .unfold cU;rw[b6x];exact (iQ _ 2 _ fun _ _=>rfl).trans (by rw[h.n,b4o])
theorem a1y.all{b:Int}{ps:List Pt}{m:Nat}{c:List Pl}(hc:aW b b c=ps)(hz:du m c):∀ d,a1y b ps m d (nJ c d)
 | 0=>⟨by show [aW _ _ c]=[ps];rw[c0k,c0m,b9h,hc],fun e he=>by rw[a9q.mp he,<- hc,bL],fun e he=>by rw[a9q.mp he,c0k];exact hz,rfl⟩
 | d+1=>(a1y.all hc hz d).step
theorem uP{n:Nat}{c:List Pl}(h:du n c):∀ r,du (n+r) (cv c r)
 | 0=>h
 | r+1=>fun z hz=>by
   have ih:=uP h r;obtain⟨i,hi,e⟩:=a9o hz;have hz':(sN (cv c r))[i]?=some z:=by rw[<- e];exact a8y hi
   unfold sN at hz';rw[b2e] at hz';cases h1:(cv c r)[i]? with
   | none=>rw[h1] at hz';simp at hz'
   | some p=>
     cases h2:((cv c r).drop 1)[i]? with
     | none=>rw[h1,h2] at hz';simp at hz'
     | some q=>
       rw[h1,h2] at hz';simp only[a9t.injEq] at hz';subst hz';have a:=ih p (a9f h1);have b:=ih q (b1l (a9f h2));exact⟨(a.1.add b.1).mono (by lia),(a.2.add b.2).mono (by lia)⟩
theorem N6{c:List Pl}{i:Nat}{p q:Pl}(h1:c[i]?=some p)(h2:c[i+1]?=some q):(sN c)[i]?=some (p.1+q.1,p.2+q.2):=by
 unfold sN;rw[b2e,h1,b2r,b8k 1 i,h2]
noncomputable def jX(c:List Pl)(r i:Nat):Pl:=((cM (eV (2^(c.length - 1)) c) r)[i]?).getD (0,0)
theorem vN(c:List Pl)(r i:Nat)(h:r<=c.length - 1):jX c r i=(((cv c r)[i]?.getD (0,0)).1*2^(c.length - 1 - r),((cv c r)[i]?.getD (0,0)).2*2^(c.length - 1 - r)):=by
 unfold jX;rw[rH c _ r h,O1]
theorem a5k(c:List Pl):(b0y c.length).map (fun r=>jX c r 0)=xS c:=by
 unfold xS kN jX;rw[gD]
theorem a4r(c:List Pl):((b0y c.length).map fun r=>jX c r (c.length - 1 - r)).reverse=B7 c:=by
 have:=B6 (eV (2^(c.length - 1)) c);rw[gD] at this;exact this
theorem yM{H:Hp}{rs:List V}{c:List Pl}(h:v7 H rs c)(h1:1<=c.length):∃ v,rs[rs.length - 1]?=some v/\wf H v ((c[c.length - 1]?).getD (0,0)).1 ((c[c.length - 1]?).getD (0,0)).2:=by
 have hl:=h.len;have e1:rs[rs.length - 1]?=some (rs[rs.length - 1]'(by omega (config:={}))):=a8y _;have e2:c[rs.length - 1]?=some (c[rs.length - 1]'(by omega (config:={}))):=a8y _;refine⟨_,e1,?_⟩;rw[<- hl,e2];exact h.get _ _ _ e1 e2
section
variable {X:Cx}
theorem yY{tg elt iter:a13}{os:List Str}{pos:Pos}{scope:Scope}{wi:TI}{g:TG}{te:TE}{caps:List (Nat×Str)}(hi:PI X tg iter wi)(hg:∀ cl C s0 H0 fp,PG (j9 X scope cl (os++caps.map (·.2)) C s0 H0 fp) tg g)(he:∀ cl C s0 H0 fp,PE (j9 X scope cl (os++caps.map (·.2)) C s0 H0 fp) elt te)(ok:cG X.N X.env.scope scope caps=true)(hc:X.calm=true:=by rfl)(hfs:∀ v,a04 iter X.env v=pure v:=by intro _;rfl) :
 PE X (.ListComp elt [⟨tg,iter,[],0⟩] scope pos) (eU os.length wi g te (caps.map (·.1))):=rc X.N X.env.scope hi hg he ok rfl rfl hc hfs
theorem wI{tg elt iter:a13}{os:List Str}{pos:Pos}{scope:Scope}{wi:TI}{g:TG}{te:TE}{caps:List (Nat×Str)}(hi:qw X tg iter wi)(hg:∀ cl C s0 H0 fp,qx (j9 X scope cl (os++caps.map (·.2)) C s0 H0 fp) tg g)(he:∀ cl C s0 H0 fp,ao (j9 X scope cl (os++caps.map (·.2)) C s0 H0 fp) elt te)(ok:cG X.N X.env.scope scope caps=true)(hc:X.calm=true:=by rfl)(hfs:∀ v,a04 iter X.env v=pure v:=by intro _;rfl) :
 ao X (.ListComp elt [⟨tg,iter,[],0⟩] scope pos) (eU os.length wi g te (caps.map (·.1))):=by with_unfolding_all exact yY (hi:=hi) (hg:=hg) (he:=he) (ok:=ok) (hc:=hc) (hfs:=hfs)
end
noncomputable def qJ(K:a8z):Sp:=fun vs H Q _=>∃ (a:Addr) (ws:List V) (ps:List Pt) (B:Int) (m:Nat),vs=[.ref a]/\H a=some (.lst ws)/\aa H ws ps/\0<B/\Sz 60 B/\m<=2000/\(∀ p∈ps,ki B m p)/\ps.length<=100/\
 ∀ (t l:Addr) (us:List V) (c:List Pl) (b:Int) (H':Hp),b9 H H'->H' t=some (.tup [.int b,.ref l])->H l=none->H' l=some (.lst us)->v7 H' us c->0<b->b∣B->aW b b c=ps->du m c->Q (.ref t) H'
noncomputable def oi(K:a8z):Sp:=fun vs H Q _=>∃ (a:Addr) (ws:List V) (c:List Pl) (n:Nat),vs=[.ref a]/\H a=some (.lst ws)/\v7 H ws c/\1<=c.length/\c.length<=12/\du n c/\n<=2000/\
 ∀ (r l1 l2:Addr) (u1 u2:List V) (H':Hp),b9 H H'->H' r=some (.lst [.ref l1,.ref l2])->H r=none->H l1=none->H l2=none->H' l1=some (.lst u1)->H' l2=some (.lst u2)->v7 H' u1 (xS c)->v7 H' u2 (B7 c)->Q (.ref r) H'
noncomputable def sL(K:a8z):Sp:=fun vs H Q _=>∃ (a:Addr) (ws:List V) (ps:List Pt) (B:Int) (m L:Nat),vs=[.ref a,.int (L:Int)]/\H a=some (.lst ws)/\aa H ws ps/\0<B/\Sz 60 B/\m<=300/\(∀ p∈ps,ki B m p)/\1<=ps.length/\ps.length<=12/\L<=6/\L*(ps.length+1)<=100/\
 ∀ (D:Addr) (ys:List V) (H':Hp),b9 H H'->H D=none->H' D=some (.lst ys)->ys.length=2^L->(∀ (i:Nat) v,ys[i]?=some v->∃ l xs,v=.ref l/\H l=none/\H' l=some (.lst xs)/\aa H' xs (gP (aK ps L) i))->Q (.ref D) H'
noncomputable def BdL(q1 q2 q3:Rat):Prop:=Bd 1100 q1/\Bd 1100 q2/\Bd 1100 q3
noncomputable def sj(X Y R:Int)(As Bs:List (List Pl))(p:Pl)(q1 q2 q3:Rat):Prop:=a8t X Y R As Bs p q1 q2 q3/\BdL q1 q2 q3
noncomputable def kj(X Y R:Int)(c1 c2:List Pl)(d:Nat)(p:Pl)(q1 q2 q3:Rat):Prop:=sj X Y R (cL c1 d) (cL c2 d) p q1 q2 q3
theorem uA.notB{H:Hp}{vs:List V}{tl:List Pl}{X Y R:Int}{As Bs:List (List Pl)}(h:uA H vs tl (sj X Y R As Bs)):∀ p∈tl,¬ si (gC As p.1) (gC Bs p.2):=fun p hp=>by
 obtain⟨i,hi,e⟩:=a9o hp;have hl:=h.len;obtain⟨_,_,_,_,_,_,_,_,_,_,_,_,l⟩:=h.get i vs[i] p (a8y (by lia)) (by rw[a8y hi,e]);exact fY l.1
theorem V5{n:Nat}{w p q:Pl}{X Y R:Int}{A B:List Pl}(zw:xI (n+2) w)(hn:n<=500)(zX:Sz 500 X)(zY:Sz 500 Y)(zR:Sz 41 R)(R0:0<R)(zA:du n A)(zB:du n B)(hp:p∈A)(hq:q∈B):BdL ((w.1*X:Int):Rat) ((w.2*Y:Int):Rat) (a9e (dt w p+dt w q) (2*R)):=by
 have a:=a1s zw (zA p hp).1 (zA p hp).2;have b:=a1s zw (zB q hq).1 (zB q hq).2;have z2:Sz 2 (2:Int):=⟨by decide⟩
 refine⟨(K6 (zw.1.mul zX) (by lia)).mono (by lia),(K6 (zw.2.mul zY) (by lia)).mono (by lia),(Bd.of (a.add b) (z2.mul zR) (by lia)).mono (by lia)⟩
noncomputable def a6b(ps qs:List Pt)(d:Nat)(p:Pl)(q1 q2 q3:Rat):Prop:=LnQ ps qs d p q1 q2 q3/\BdL q1 q2 q3
theorem a6u{ps qs:List Pt}{L:Nat}{X Y R:Int}{c1 c2 f:List Pl}{tt:List (Nat×Pl)}{H:Hp}{vh:List V}(h1:1<=ps.length)(h2:1<=qs.length)(h:ng ps qs L X Y R c1 c2)(hT:qm H vh tt (kj X Y R c1 c2))(t:aA (jA c1 c2) L f tt):qm H vh tt (a6b ps qs)/\aA (MQ ps qs) L f tt:=by
 have a:qm H vh tt (a6b ps qs):=hT.ln fun r hr q1 q2 q3 hl=>⟨h.line h1 h2 (t.ins.2 r hr).1 hl.1,hl.2⟩
 refine⟨a,t.conv (fun e he p hm=>h.mq h1 h2 he hm) fun r hr hm=>?_⟩;obtain⟨q1,q2,q3,hl⟩:=a.ex r hr;exact hm q1 q2 q3 hl.1
theorem zj{D:Int}{n j:Nat}{x:Rat}(h:Ov D n x):Ov (D*2^j) (n+(j+1)) x:=by
 obtain⟨m,e,z⟩:=h;refine⟨m*2^j,?_,z.mul (bt j)⟩;rw[a9u,a9u,<- e];grind
theorem a2i{D:Int}{n:Nat}(hD:0<D){c:List Pl}(z:du n c):∀ p∈aW D D c,ki D n p:=fun p hp=>by
 obtain⟨q,hq,rfl⟩:=a9m.mp hp;exact⟨⟨q.1,iC hD,(z q hq).1⟩,⟨q.2,iC hD,(z q hq).2⟩⟩
theorem vC{ps:List Pt}{B:Int}{m M d:Nat}(hB:0<B)(ho:∀ p∈ps,ki B m p)(hM:ps.length<=M)(i:Int):∀ p∈gP (aK ps d) i,ki (B*2^(d*(M - 1))) (m+d*(ps.length+1)+(d*(M - 1)+1)) p:=fun p hp=>by
 have e:aW B B (ps.map (M9 B))=ps:=by
  unfold aW;rw[b2h];exact (b1v fun q hq=>kX hB (em (ho q hq).1) (em (ho q hq).2)).trans (c0t _)
 have z:du m (ps.map (M9 B)):=fun x hx=>by
  obtain⟨q,hq,rfl⟩:=a9m.mp hx;have h:=ho q hq;rw[<- kX hB (em h.1) (em h.2)] at h;exact⟨iP hB hB (Int.dvd_refl _) h.1,iP hB hB (Int.dvd_refl _) h.2⟩
 have L:=a1y.all e z d;rw[<- L.eq] at hp;unfold gP at hp;rw[a9h] at hp;cases hc:(nJ (ps.map (M9 B)) d)[i.toNat]? with
 | none=>rw[hc] at hp;simp at hp
 | some c=>
   rw[hc] at hp;have hm:=a9f hc;have o:=a2i (b1b hB (bX _)) (L.sz c hm) p hp;have ej:d*(M - 1)=d*(ps.length - 1)+d*(M - ps.length):=by
    rcases Nat.eq_zero_or_pos ps.length with h0 | h0
    .have:c=[]:=b8h.mp ((L.len c hm).trans h0);subst this;simp[aW] at hp
    .rw[<- Nat.mul_add];congr 1;lia
   rw[ej,b9i,<- b2q];exact⟨(zj o.1).mono (by lia),(zj o.2).mono (by lia)⟩
theorem jT{ps:List Pt}:∀ d,(aK ps d).length=2^d/\∀ c∈aK ps d,c.length=ps.length
 | 0=>⟨rfl,fun c hc=>by rw[a9q.mp hc]⟩
 | d+1=>by
   obtain⟨a,b⟩:=jT (ps:=ps) d;refine⟨?_,fun c hc=>?_⟩
   .show ((aK ps d).flatMap _).length=_;rw[b6x];exact (iQ _ 2 _ fun _ _=>rfl).trans (by rw[a,b4o])
   .obtain⟨e,he,hc⟩:=b3s.mp hc;simp only[a9g,a9w,or_false] at hc;rcases hc with rfl | rfl
    .rw[tU];exact b e he
    .rw[xl];exact b e he
theorem qc{ps:List Pt}{d:Nat}{i:Int}(h0:0<=i)(h1:i<2^d):(gP (aK ps d) i).length=ps.length:=by
 obtain⟨a,b⟩:=jT (ps:=ps) d;have e2:(2:Int)^d=((2^d:Nat):Int):=by rw[Int.natCast_pow];rfl
 have e:(aK ps d)[i.toNat]?=some ((aK ps d)[i.toNat]'(by omega (config:={}))):=a8y _;unfold gP;rw[e];exact b _ (a9n _)
theorem a1p{α β:Type}(f g:α->β):∀ (l:List α) (i:Nat),(l.flatMap fun c=>[f c,g c])[2*i]?=(l[i]?).map f/\(l.flatMap fun c=>[f c,g c])[2*i+1]?=(l[i]?).map g
 | [],i=>⟨by simp,by simp⟩
 | a::r,0=>⟨rfl,rfl⟩
 | a::r,i+1=>by
   obtain⟨h1,h2⟩:=a1p f g r i;rw[b7o,show 2*(i+1)=2*i+2 by lia,show 2*i+2+1=2*i+1+2 by lia];exact⟨h1,h2⟩
theorem vB{ps:List Pt}(h1:1<=ps.length):∀ (d i:Nat),i<2^d->∀ u,pH u (gP (aK ps d) (i:Int))=pH (tq d i u) ps
 | 0,i,hi,u=>by
   have:i=0:=by simpa using hi
   subst this;show pH u ps=_;congr 1;unfold tq hp;show u=(((0:Int):Rat)+u)*1;have:((0:Int):Rat)=0:=by decide
   rw[this];grind
 | d+1,i,hi,u=>by
   have p2:(2:Nat)^(d+1)=2*2^d:=by rw[b4o,Nat.mul_comm]
   obtain⟨k,hk⟩ : ∃ k,i=2*k\/i=2*k+1:=⟨i / 2,by lia⟩
   have hk2:k<2^d:=by lia
   obtain⟨ll,lc⟩:=jT (ps:=ps) d;have ek:(aK ps d)[k]?=some ((aK ps d)[k]'(by omega (config:={}))):=a8y _;have eg:gP (aK ps d) (k:Int)=(aK ps d)[k]'(by omega (config:={})):=by unfold gP;rw[b1o,ek];rfl
   have hl:=lc _ (a9n (show k<(aK ps d).length by lia));have ih:=vB h1 d k hk2;rw[eg] at ih;obtain⟨f1,f2⟩:=a1p (cg (1 / 2)) (dH (1 / 2)) (aK ps d) k;have hh:hp (d+1)=hp d*(1 / 2):=rfl;rcases hk with rfl | rfl
   .have e2:gP (aK ps (d+1)) ((2*k:Nat):Int)=cg (1 / 2) ((aK ps d)[k]'(by omega (config:={}))):=by
     unfold gP;rw[b1o,show (aK ps (d+1))[2*k]?=_ from f1,ek];rfl
    rw[e2,rR _ _ _ (by lia),ih];congr 1;unfold tq;rw[hh,b8t,a9u];have:((2:Nat):Int)=(2:Int):=rfl;rw[this];have e3:((2:Int):Rat)=2:=by decide
    rw[e3];grind
   .have e2:gP (aK ps (d+1)) ((2*k+1:Nat):Int)=dH (1 / 2) ((aK ps d)[k]'(by omega (config:={}))):=by
     unfold gP;rw[b1o,show (aK ps (d+1))[2*k+1]?=_ from f2,ek];rfl
    rw[e2,vF _ _ _ (by lia),ih];congr 1;unfold tq dO;rw[hh,b8u,b8t,b2y,a9u];have:((2:Nat):Int)=(2:Int):=rfl;have e3:((2:Int):Rat)=2:=by decide
    have e4:(((1:Nat):Int):Rat)=1:=by decide
    rw[this,e3,e4];grind
structure GrdC(ps qs:List Pt)(KK m:Nat)(xb yb:List Int)(c1 c2:List Pl):Prop where
 w1:0<j0 xb
 w2:0<j0 yb
 bx:∀ b∈xb,0<b/\Sz 9000 b
 bY:∀ b∈yb,0<b/\Sz 9000 b
 lx:xb.length<=24
 ly:yb.length<=24
 p1:aW (j0 xb*2^KK) (j0 yb*2^KK) c1=ps
 p2:aW (j0 xb*2^KK) (j0 yb*2^KK) c2=qs
 d1:ko KK c1
 d2:ko KK c2
 z1:du (m+(KK+1)) c1
 z2:du (m+(KK+1)) c2
 zx:Sz 150 (j0 xb)
 zy:Sz 150 (j0 yb)
noncomputable def lO(K:a8z)(C:Addr):Sp:=fun vs H Q _=>∃ (x a b dx:Addr) (us ws:List V) (ps qs:List Pt) (D:Int) (m L:Nat),vs=[.ref x,.ref a,.ref b,.int (L:Int)]/\H x=some (.ins C dx [])/\H a=some (.lst us)/\aa H us ps/\H b=some (.lst ws)/\aa H ws qs/\1<=ps.length/\ps.length<=12/\1<=qs.length/\qs.length<=12/\0<D/\Sz 150 D/\m<=350/\(∀ p∈ps++qs,ki D m p)/\L<=6/\L*(max ps.length qs.length - 1)<=40/\
 ∀ (xb yb:List Int) (c1 c2:List Pl) (lx ly lo lt:Addr) (yo yt:List V) (H':Hp),b9 H H'->H' lx=some (.lst (xb.map V.int))->H' ly=some (.lst (yb.map V.int))->H' lo=some (.lst yo)->cZ H' none yo [c1]->H' lt=some (.lst yt)->cZ H' none yt [c2]->GrdC ps qs (L*(max ps.length qs.length - 1)) m xb yb c1 c2->H lo=none->H lt=none->Q .non (upd H' x (.ins C dx (ee (2^(L*(max ps.length qs.length - 1))) lx ly lo lt)))
noncomputable def nZ(K:a8z)(C T:Addr):Sp:=fun vs H Q E=>∃ (g a dx lx ly lo lt:Addr) (R:Int) (xb yb:List Int) (yo yt us:List V) (As Bs:List (List Pl)) (pl:List Pl) (n:Nat),vs=[.ref g,.ref a]/\H g=some (.ins C dx (ee R lx ly lo lt))/\H lx=some (.lst (xb.map V.int))/\H ly=some (.lst (yb.map V.int))/\H lo=some (.lst yo)/\cZ H none yo As/\H lt=some (.lst yt)/\cZ H none yt Bs/\
 (∀ b∈xb,0<b/\Sz 9000 b)/\(∀ b∈yb,0<b/\Sz 9000 b)/\xb.length<=24/\yb.length<=24/\Sz 500 (j0 xb)/\Sz 500 (j0 yb)/\0<R/\Sz 41 R/\(∀ c∈As,1<=c.length/\c.length<=12/\du n c)/\(∀ c∈Bs,1<=c.length/\c.length<=12/\du n c)/\1<=n/\n<=500/\
 H a=some (.lst us)/\v7 H us pl/\pl.length<=1024/\(∀ p∈pl,0<=p.1/\p.1<As.length/\0<=p.2/\p.2<Bs.length)/\
 (∀ (c lf lh:Addr) (vf vh:List V) (fl tl:List Pl) (H':Hp),b9 H H'->H' c=some (.tup [.ref lf,.ref lh])->H lf=none->H lh=none->H' lf=some (.lst vf)->H' lh=some (.lst vh)->v7 H' vf fl->uA H' vh tl (sj (j0 xb) (j0 yb) R As Bs)->wj pl fl tl->(∀ p∈fl,si (gC As p.1) (gC Bs p.2))->fl.length<=256->Q (.ref c) H')/\
 (∀ (vh:List V) (fl tl:List Pl) (H':Hp),b9 H H'->uA H' vh tl (sj (j0 xb) (j0 yb) R As Bs)->wj pl fl tl->(∀ p∈fl,si (gC As p.1) (gC Bs p.2))->256<fl.length->E (.ref T) none H')
noncomputable def a0h(ps qs:List Pt)(d:Nat):Prop:=∀ e,e<=d->∃ f tt,aA (MQ ps qs) e f tt/\f.length<=256
noncomputable def lN(K:a8z)(T:Addr):Sp:=fun vs H Q E=>∃ (a b:Addr) (us ws:List V) (ps qs:List Pt) (D:Int) (m L:Nat),vs=[.ref a,.ref b,.int (L:Int)]/\H a=some (.lst us)/\aa H us ps/\H b=some (.lst ws)/\aa H ws qs/\1<=ps.length/\ps.length<=12/\1<=qs.length/\qs.length<=12/\0<D/\Sz 150 D/\m<=350/\(∀ p∈ps++qs,ki D m p)/\L<=6/\L*(max ps.length qs.length - 1)<=40/\
 (∀ (c lf lh:Addr) (vf vh:List V) (fl:List Pl) (tt:List (Nat×Pl)) (H':Hp),b9 H H'->H' c=some (.tup [.ref lf,.ref lh])->H lf=none->H lh=none->H' lf=some (.lst vf)->H' lh=some (.lst vh)->lf≠lh->v7 H' vf fl->qm H' vh tt (a6b ps qs)->aA (MQ ps qs) L fl tt->a0h ps qs L->Q (.ref c) H')/\
 (∀ (d:Nat) (fl:List Pl) (tt:List (Nat×Pl)) (H':Hp),d<=L->b9 H H'->aA (MQ ps qs) d fl tt->256<fl.length->E (.ref T) none H')
theorem mi{J:It}{te:TE}{cs:L2.St}{Q:VK}{H1:Hp}{d:Nat}{vh:List V}{tl:List Pl}{Ln:Nat->Pl->Rat->Rat->Rat->Prop}{f:Nat->V}(hJ:fv J H1 vh.length f)(hf:∀ i v,vh[i]?=some v->f i=v)(hT:uA H1 vh tl (Ln d))(hn:tl.length<=2000)(he:∀ (t:Addr) (xs:List V) (H2:Hp) (k:VK),H2 t=some (.tup xs)->xs≠[]->xs.length<=6->(∀ c H3,b9 H2 H3->H3 c=some (.tup (.int (d:Int)::xs))->k (.ref c) H3)->te (some (.ref t)::cs) H2 k)(hq:∀ D ys H2,H1 D=none->b9 H1 H2->H2 D=some (.lst ys)->qm H2 ys (tl.map (b5e d)) Ln->Q (.ref D) H2):de 1 J H1 (aU 0) te cs Q:=by
 have hl:=hT.len;refine en hJ (by lia) (fun i v H=>∀ p,tl[i]?=some p->∃ (t:Addr) (w1 w2 w3:V) (q1 q2 q3:Rat),v=.ref t/\H t=some (.tup [.int (d:Int),.int p.1,.int p.2,w1,w2,w3])/\bh H w1 q1/\bh H w2 q2/\bh H w3 q3/\Ln d p q1 q2 q3) (fun i v H H' s h p e=>?_) (fun i H2 k hi s2 hk=>?_) (fun D ys H2 hD s2 hd hy hr=>?_)
 .obtain⟨t,w1,w2,w3,q1,q2,q3,r1,r2,r3,r4,r5,r6⟩:=h p e;exact⟨t,w1,w2,w3,q1,q2,q3,r1,s _ _ r2,r3.tup s,r4.tup s,r5.tup s,r6⟩
 .have e1:vh[i]?=some vh[i]:=a8y hi;have e2:tl[i]?=some (tl[i]'(by omega (config:={}))):=a8y (by lia);obtain⟨t,w1,w2,w3,q1,q2,q3,r1,r2,r3,r4,r5,r6⟩:=hT.get i _ _ e1 e2;rw[hf i _ e1,r1];refine he t _ H2 k (s2 _ _ r2) (by simp) (by simp) (fun c H3 s3 hc=>hk _ _ s3 (fun p hp=>?_));rw[e2] at hp;cases hp;exact⟨c,w1,w2,w3,q1,q2,q3,rfl,hc,(r3.same s2).same s3,(r4.same s2).same s3,(r5.same s2).same s3,r6⟩
 .refine hq D ys H2 hD s2 hd ⟨by rw[a9a];lia,fun i v r e1 e2=>?_⟩;rw[a9h] at e2;cases hz:tl[i]? with
  | none=>rw[hz] at e2;cases e2
  | some p=>
    rw[hz] at e2;cases e2;exact hr i v e1 p hz
noncomputable def a6f(X Y R:Int)(c1 c2:List Pl)(tt:List (Nat×Pl)):Prop:=∀ r∈tt,∃ q1 q2 q3,kj X Y R c1 c2 r.1 r.2 q1 q2 q3
theorem uA.ex{H:Hp}{vs:List V}{tl:List Pl}{Ln:Pl->Rat->Rat->Rat->Prop}(h:uA H vs tl Ln):∀ p∈tl,∃ q1 q2 q3,Ln p q1 q2 q3:=fun p hp=>by
 obtain⟨i,hi,e⟩:=a9o hp;have hl:=h.len;obtain⟨t,w1,w2,w3,q1,q2,q3,_,_,_,_,_,r6⟩:=h.get i _ p (a8y (by lia)) (by rw[a8y hi,e]);exact⟨q1,q2,q3,r6⟩
theorem a6f.add{H:Hp}{vs:List V}{X Y R:Int}{c1 c2 tl:List Pl}{tt:List (Nat×Pl)}{d:Nat}(h:a6f X Y R c1 c2 tt)(hT:uA H vs tl (kj X Y R c1 c2 d)):a6f X Y R c1 c2 (tt++tl.map (b5e d)):=fun r hr=>by
 rcases a9k.mp hr with hr | hr
 .exact h r hr
 .obtain⟨p,hp,rfl⟩:=a9m.mp hr;exact hT.ex p hp
theorem a0j{ps qs:List Pt}{L d:Nat}{X Y R:Int}{c1 c2 f:List Pl}{tt:List (Nat×Pl)}(h1:1<=ps.length)(h2:1<=qs.length)(h:ng ps qs L X Y R c1 c2)(hd:d<=L)(hT:a6f X Y R c1 c2 tt)(t:aA (jA c1 c2) d f tt):aA (MQ ps qs) d f tt:=by
 refine t.conv (fun e he p hm=>h.mq h1 h2 (b0n he hd) hm) fun r hr hm=>?_;obtain⟨q1,q2,q3,hl⟩:=hT r hr;exact hm q1 q2 q3 (h.line h1 h2 (b0n (t.ins.2 r hr).1 hd) hl.1)
noncomputable def xO(X Y R:Int)(c1 c2:List Pl)(d:Nat):Prop:=∀ e,e<=d->∃ (f:List Pl) (tt:List (Nat×Pl)),a6f X Y R c1 c2 tt/\aA (jA c1 c2) e f tt/\f.length<=256
theorem xO.step{X Y R:Int}{c1 c2:List Pl}{d:Nat}{f:List Pl}{tt:List (Nat×Pl)}(h:xO X Y R c1 c2 d)(hT:a6f X Y R c1 c2 tt)(t:aA (jA c1 c2) (d+1) f tt)(hn:f.length<=256):xO X Y R c1 c2 (d+1):=by
 intro e he;by_cases z:e=d+1
 .subst z;exact⟨f,tt,hT,t,hn⟩
 .exact h e (by lia)
theorem xO.few{ps qs:List Pt}{L d:Nat}{X Y R:Int}{c1 c2:List Pl}(h1:1<=ps.length)(h2:1<=qs.length)(h:ng ps qs L X Y R c1 c2)(k:xO X Y R c1 c2 d)(e:d=L):a0h ps qs L:=by
 subst e;intro e he;obtain⟨f,tt,hT,t,hn⟩:=k e he;exact⟨f,tt,a0j h1 h2 h he hT t,hn⟩
theorem aA.out{M:Nat->Pl->Prop}{d:Nat}{f:List Pl}{tt:List (Nat×Pl)}(h:aA M d f tt):∀ r∈tt,¬ M r.1 r.2:=by
 induction h with
 | zero p _ n=>
   intro r hr;obtain⟨q,hq,rfl⟩:=a9m.mp hr;exact n q hq
 | step _ _ _ _ _ n ih=>
   intro r hr;rcases a9k.mp hr with hr | hr
   .exact ih r hr
   .obtain⟨q,hq,rfl⟩:=a9m.mp hr;exact n q hq
theorem aA.dues{M:Nat->Pl->Prop}{d:Nat}{f:List Pl}{tt:List (Nat×Pl)}(h:aA M d f tt)(hH:∀ e,e<=d->∀ s,nh d s->M d s->M e (s.1 / 2^(d - e),s.2 / 2^(d - e)))(s:Pl):s∈f↔nh d s/\M d s:=by
 refine⟨fun z=>⟨h.ins.1 s z,h.all s z⟩,fun⟨i,m⟩=>?_⟩;have c:=h.fill s i;by_cases z:s∈f
 .exact z
 .rw[b4d z,b5q] at c;obtain⟨r,hr,e⟩:=List.countP_pos_iff.mp (by lia:0<tt.countP (a6d d s));have e':=of_decide_eq_true e;refine absurd ?_ (h.out r hr);rw[e'];exact hH r.1 (h.ins.2 r hr).1 s i m
theorem aA.due{M:Nat->Pl->Prop}{d:Nat}{f g:List Pl}{tt:List (Nat×Pl)}(h:aA M d f tt)(hH:∀ e,e<=d->∀ s,nh d s->M d s->M e (s.1 / 2^(d - e),s.2 / 2^(d - e)))(hs:g.Pairwise fX)(hg:∀ s,s∈g↔nh d s/\M d s):f=g:=
 kr h.sort hs (fun p z=>by unfold fX at z;lia) (fun p q z y=>by unfold fX at z y;lia) fun p=>(h.dues hH p).trans (hg p).symm
noncomputable def oV(d:Nat):List Pl:=(b0y (2^d*2^d)).map fun k=>(((k / 2^d:Nat):Int),((k % 2^d:Nat):Int))
theorem oU{d:Nat}(s:Pl):s∈oV d↔nh d s:=by
 have h2:0<2^d:=b5i d;have c:((2^d:Nat):Int)=2^d:=by simp
 unfold oV nh;rw[a9m];constructor
 .rintro⟨k,hk,rfl⟩;have hk:=b1c.mp hk;have a:=Nat.div_lt_of_lt_mul hk;have b:=Nat.mod_lt k h2;refine⟨b5n _,by rw[<- c];exact Int.ofNat_lt.mpr a,b5n _,by rw[<- c];exact Int.ofNat_lt.mpr b⟩
 .rintro⟨a,b,e,g⟩;obtain⟨s1,s2⟩:=s;dsimp only at *;obtain⟨x,rfl⟩:=b8n a;obtain⟨y,rfl⟩:=b8n e;rw[<- c] at b g;have b':x<2^d:=by exact_mod_cast b
  have g':y<2^d:=by exact_mod_cast g
  refine⟨2^d*x+y,b1c.mpr ?_,?_⟩
  .calc 2^d*x+y<2^d*x+2^d:=by lia
    _=2^d*(x+1):=by rw[Nat.mul_succ]
    _<=2^d*2^d:=b0m _ b'
  .rw[Nat.mul_add_div h2,Nat.div_eq_of_lt g',Nat.mul_add_mod,Nat.mod_eq_of_lt g'];simp
theorem ux(d:Nat):(oV d).Pairwise fX:=by
 have h2:0<2^d:=b5i d;unfold oV;rw[b5w];refine b4c.imp (fun {a b} (h:a<b)=>?_) List.pairwise_lt_range;unfold fX;dsimp only;have l:=Nat.div_le_div_right (c:=2^d) (b1x h);rcases Nat.lt_or_eq_of_le l with l | l
 .exact .inl (by exact_mod_cast l)
 .refine .inr ⟨by rw[l],?_⟩;have p:=Nat.div_add_mod a (2^d);have q:=Nat.div_add_mod b (2^d);rw[l] at p;lia
abbrev qt:=Int×Int×Int
noncomputable def uJ(t:qt):List qt:=[(4*t.1,2*(t.1+t.2.1),t.1+2*t.2.1+t.2.2),(t.1+2*t.2.1+t.2.2,2*(t.2.1+t.2.2),4*t.2.2)]
noncomputable def a6t:Nat->List qt
 | 0=>[(0,1,0)]
 | d+1=>(a6t d).flatMap uJ
noncomputable def wr(d:Nat):List qt:=(b0y (2^d)).map fun (k:Nat)=>(2*(k:Int)*(2^d - k),2^d*(2*(k:Int)+1) - 2*k*(k+1),2*((k:Int)+1)*(2^d - k - 1))
theorem a2f(d:Nat)(h:d<=6):a6t d=wr d:=by
 have:d=0\/d=1\/d=2\/d=3\/d=4\/d=5\/d=6:=by lia
 rcases this with rfl | rfl | rfl | rfl | rfl | rfl | rfl<;>decide
noncomputable def wQ(B W:Pt)(q:Rat)(a:Int):Pt:=(B.1+W.1*((a:Rat)*q),B.2+W.2*((a:Rat)*q))
noncomputable def rg(B W:Pt)(q:Rat)(t:qt):List Pt:=[wQ B W q t.1,wQ B W q t.2.1,wQ B W q t.2.2]
theorem zC(B W:Pt)(q:Rat)(t:qt):[cg (1 / 2) (rg B W q t),dH (1 / 2) (rg B W q t)]=(uJ t).map (rg B W (q / 4)):=by
 obtain⟨a,b,c⟩:=t;simp only[cg,dH,rg,uJ,b0r,b6n,b1q,b4n,iu,gW,b6m,List.range_zero,b6o,b3d,List.drop_succ_cons,b5s,List.zipWith_cons_cons,List.zipWith_nil_right,ig,dO,wQ,b5q,c0h,b8g,b2j,b8e,Nat.reduceSub,Nat.reduceAdd,b2y,a9u];simp only[List.cons.injEq,b5e.injEq,and_true];refine⟨⟨⟨?_,?_⟩,⟨?_,?_⟩,?_,?_⟩,⟨?_,?_⟩,⟨?_,?_⟩,?_,?_⟩<;>grind
theorem A9(B W:Pt):∀ d,aK [B,(B.1+W.1,B.2+W.2),B] d=(a6t d).map (rg B W (1 / 4^d))
 | 0=>by
   obtain⟨x,y⟩:=B;obtain⟨u,v⟩:=W;simp only[aK,a6t,rg,wQ,b1q,b4n];simp only[List.cons.injEq,b5e.injEq,and_true];refine⟨⟨?_,?_⟩,⟨?_,?_⟩,?_,?_⟩<;>grind
 | d+1=>by
   show (aK _ d).flatMap _=((a6t d).flatMap uJ).map _;rw[A9 B W d,List.flatMap_map,List.map_flatMap];congr 1;funext t;rw[zC];congr 2;grind
noncomputable def nX(t:qt):Int:=min t.1 (min t.2.1 t.2.2)
noncomputable def nW(t:qt):Int:=max t.1 (max t.2.1 t.2.2)
noncomputable def a6i(s t:qt):Bool:=decide (nX s<=nW t) && decide (nX t<=nW s)
noncomputable def sw(t:qt)(x:Int):Prop:=x=t.1\/x=t.2.1\/x=t.2.2
theorem yg(t:qt):sw t (nX t):=by unfold sw nX;lia
theorem yc(t:qt):sw t (nW t):=by unfold sw nW;lia
theorem yf{t:qt}{x:Int}(h:sw t x):nX t<=x:=by
 unfold sw at h;unfold nX;rcases h with rfl | rfl | rfl
 .first | exact Int.min_le_left _ _ | lia
 .first | exact b4q (b8c _ _) (Int.min_le_left _ _) | lia
 .first | exact b4q (b8c _ _) (b8c _ _) | lia
theorem yd{t:qt}{x:Int}(h:sw t x):x<=nW t:=by
 unfold sw at h;unfold nW;rcases h with rfl | rfl | rfl
 .first | exact Int.le_max_left _ _ | lia
 .first | exact b4q (Int.le_max_left _ _) (b8d _ _) | lia
 .first | exact b4q (b8d _ _) (b8d _ _) | lia
theorem lp{B W:Pt}{q:Rat}{t:qt}{p:Pt}:p∈rg B W q t↔∃ x,sw t x/\p=wQ B W q x:=by
 unfold rg sw;simp only[a9g,a9w,or_false];constructor
 .rintro (h | h | h)
  .exact⟨_,.inl rfl,h⟩
  .exact⟨_,.inr (.inl rfl),h⟩
  .exact⟨_,.inr (.inr rfl),h⟩
 .rintro⟨x,h | h | h,rfl⟩
  .exact .inl (by rw[h])
  .exact .inr (.inl (by rw[h]))
  .exact .inr (.inr (by rw[h]))
theorem T5{B W:Pt}{q:Rat}(hq:0<q){s t:qt}(h:a6i s t=true):uE (rg B W q s) (rg B W q t):=by
 intro q1 q2 q3 l;unfold a6i at h;rw[b1g] at h;have h1:=of_decide_eq_true h.1;have h2:=of_decide_eq_true h.2;have lo:=fun x hx=>l.lo _ (lp.mpr ⟨x,hx,rfl⟩);have hi:=fun x hx=>l.hi _ (lp.mpr ⟨x,hx,rfl⟩);have v:∀ x:Int,q1*(wQ B W q x).1+q2*(wQ B W q x).2=q1*B.1+q2*B.2+((q1*W.1+q2*W.2)*q)*(x:Rat):=fun x=>by unfold wQ;grind
 generalize (q1*W.1+q2*W.2)*q=g at v;rcases (Rat.le_total:0<=g\/g<=0) with z | z
 .have a:=lo _ (yc s);have b:=hi _ (yg t);rw[v] at a b;have:((nX t:Int):Rat)<=((nW s:Int):Rat):=b1s.mpr h2;have:=b2z this z;grind
 .have a:=lo _ (yg s);have b:=hi _ (yc t);rw[v] at a b;have:((nX s:Int):Rat)<=((nW t:Int):Rat):=b1s.mpr h1;have:=b2z this (show 0<=-g by grind);grind
theorem vD{B W:Pt}(hW:W≠(0,0)){q:Rat}(hq:0<q)(e:Rat){s t:qt}(m:Rat)(h1:∀ x,sw s x->e*(x:Rat)<m)(h2:∀ x,sw t x->m<e*(x:Rat)):∃ q1 q2 q3,oW (rg B W q s) (rg B W q t) q1 q2 q3:=by
 have key:∀ q1 q2 a:Rat,(∀ x:Int,q1*(wQ B W q x).1+q2*(wQ B W q x).2=a+q*(e*(x:Rat)))->∃ q1 q2 q3,oW (rg B W q s) (rg B W q t) q1 q2 q3:=fun q1 q2 a v=>by
  refine⟨q1,q2,a+q*m,⟨fun p hp=>?_,fun p hp=>?_⟩⟩
  .obtain⟨x,hx,rfl⟩:=lp.mp hp;rw[v];have:=b7k (h1 x hx) hq;grind
  .obtain⟨x,hx,rfl⟩:=lp.mp hp;rw[v];have:=b7k (h2 x hx) hq;grind
 by_cases z:W.1=0
 .have y:W.2≠0:=fun y=>hW (b6a z y);refine key 0 (e / W.2) (e / W.2*B.2) fun x=>?_;unfold wQ;have:e / W.2*W.2=e:=c0c y;grind
 .refine key (e / W.1) 0 (e / W.1*B.1) fun x=>?_;unfold wQ;have:e / W.1*W.1=e:=c0c z;grind
theorem zS{B W:Pt}(hW:W≠(0,0)){q:Rat}(hq:0<q)(s t:qt):uE (rg B W q s) (rg B W q t)↔a6i s t=true:=by
 refine⟨fun n=>?_,T5 hq⟩;by_cases z:a6i s t=true
 .exact z
 have:nW t<nX s\/nW s<nX t:=by
  unfold a6i at z;rw[b1g] at z;by_cases y:nX s<=nW t
  .have:¬ nX t<=nW s:=fun w=>z ⟨decide_eq_true y,decide_eq_true w⟩;exact .inr (by lia)
  .exact .inl (by lia)
 rcases this with y | y
 .have b:((nW t:Int):Rat)<((nX s:Int):Rat):=b8y.mpr y;have k1:∀ x,sw s x->(-1:Rat)*(x:Rat) < -(((nW t:Int):Rat)+((nX s:Int):Rat)) / 2:=fun x hx=>by
   have a:((nX s:Int):Rat)<=(x:Rat):=b1s.mpr (yf hx);grind
  have k2:∀ x,sw t x->-(((nW t:Int):Rat)+((nX s:Int):Rat)) / 2<(-1:Rat)*(x:Rat):=fun x hx=>by
   have a:(x:Rat)<=((nW t:Int):Rat):=b1s.mpr (yd hx);grind
  obtain⟨a,b,c,l⟩:=vD (B:=B) hW hq (-1) _ k1 k2;exact (n a b c l).elim
 .have b:((nW s:Int):Rat)<((nX t:Int):Rat):=b8y.mpr y;have k1:∀ x,sw s x->(1:Rat)*(x:Rat)<(((nW s:Int):Rat)+((nX t:Int):Rat)) / 2:=fun x hx=>by
   have a:(x:Rat)<=((nW s:Int):Rat):=b1s.mpr (yd hx);grind
  have k2:∀ x,sw t x->(((nW s:Int):Rat)+((nX t:Int):Rat)) / 2<(1:Rat)*(x:Rat):=fun x hx=>by
   have a:((nX t:Int):Rat)<=(x:Rat):=b1s.mpr (yf hx);grind
  obtain⟨a,b,c,l⟩:=vD (B:=B) hW hq 1 _ k1 k2;exact (n a b c l).elim
noncomputable def ovD(d:Nat)(s:Pl):Bool:=a6i (((wr d)[s.1.toNat]?).getD (0,0,0)) (((wr d)[s.2.toNat]?).getD (0,0,0))
noncomputable def kD(d:Nat):List Pl:=(oV d).filter (ovD d)
theorem xt:(kD 0).length<=256/\(kD 1).length<=256/\(kD 2).length<=256/\(kD 3).length<=256/\(kD 4).length<=256/\(kD 5).length<=256:=by decide
theorem X6(d:Nat)(h:d<=5):((oV (d+1)).all fun s=>!ovD (d+1) s || ovD d (s.1 / 2,s.2 / 2))=true:=by
 have:d=0\/d=1\/d=2\/d=3\/d=4\/d=5:=by lia
 rcases this with rfl | rfl | rfl | rfl | rfl | rfl<;>decide
theorem lu{B W:Pt}(hW:W≠(0,0)){d:Nat}(hd:d<=6){s:Pl}(i:nh d s):MQ [B,(B.1+W.1,B.2+W.2),B] [B,(B.1+W.1,B.2+W.2),B] d s↔ovD d s=true:=by
 have g:∀ x:Int,0<=x->x<2^d->gP (aK [B,(B.1+W.1,B.2+W.2),B] d) x=rg B W (1 / 4^d) (((wr d)[x.toNat]?).getD (0,0,0)):=fun x h0 h1=>by
  unfold gP;rw[A9,a2f d hd,a9h];have z:((2^d:Nat):Int)=2^d:=by simp
  have l:x.toNat<(wr d).length:=by
   unfold wr;rw[a9a,b1d];have:(x.toNat:Int)<((2^d:Nat):Int):=by rw[z];lia
   exact_mod_cast this
  rw[a8y l];rfl
 obtain⟨a,b,c,e⟩:=i;unfold MQ ovD;rw[g _ a b,g _ c e];refine zS hW ?_ _ _;have:d=0\/d=1\/d=2\/d=3\/d=4\/d=5\/d=6:=by lia
 rcases this with rfl | rfl | rfl | rfl | rfl | rfl | rfl<;>decide
theorem nh.up{d:Nat}{s:Pl}(i:nh (d+1) s):nh d (s.1 / 2,s.2 / 2):=by
 obtain⟨a,b,c,e⟩:=i;have z:(2:Int)^(d+1)=2*2^d:=by rw[b4p,b1f]
 rw[z] at b e;refine⟨?_,?_,?_,?_⟩<;>dsimp only<;>lia
theorem vt:∀ (k e:Nat),e+k<=6->∀ s,nh (e+k) s->ovD (e+k) s=true->ovD e (s.1 / 2^k,s.2 / 2^k)=true/\nh e (s.1 / 2^k,s.2 / 2^k)
 | 0,e,_,s,i,h=>by simpa using ⟨h,i⟩
 | k+1,e,he,s,i,h=>by
   have i':nh (e+k+1) s:=i;have u:=b2o.mp (X6 (e+k) (by lia)) s ((oU s).mpr i');have h':ovD (e+k+1) s=true:=h;rw[h'] at u;have u:ovD (e+k) (s.1 / 2,s.2 / 2)=true:=by simpa using u
   have r:=vt k e (by lia) _ i'.up u;have q:∀ x:Int,x / 2 / 2^k=x / 2^(k+1):=fun x=>by
    rw[b4p,b1f,<- b8m (by decide)]
   dsimp only at r;rw[q,q] at r;exact r
theorem nV{B W:Pt}(hW:W≠(0,0)){d:Nat}(hd:d<=6){f:List Pl}{tt:List (Nat×Pl)}(h:aA (MQ [B,(B.1+W.1,B.2+W.2),B] [B,(B.1+W.1,B.2+W.2),B]) d f tt):f=kD d:=by
 refine h.due (fun e he s i m=>?_) (b4c.sublist List.filter_sublist (ux d)) fun s=>?_
 .obtain⟨k,rfl⟩:=Nat.exists_eq_add_of_le he;rw[Nat.add_sub_cancel_left];obtain⟨r1,r2⟩:=vt k e hd s i ((lu hW hd i).mp m);exact (lu hW (by lia) r2).mpr r1
 .unfold kD;rw[b8r,oU];exact⟨fun⟨a,b⟩=>⟨a,(lu hW hd a).mpr b⟩,fun⟨a,b⟩=>⟨a,(lu hW hd a).mp b⟩⟩
theorem a3k{L:Nat}(h:L<=6):1<=(2:Nat)^L/\(2:Nat)^L<=64/\2^L*2^L<=4096:=by
 have:L=0\/L=1\/L=2\/L=3\/L=4\/L=5\/L=6:=by lia
 rcases this with rfl | rfl | rfl | rfl | rfl | rfl | rfl<;>decide
theorem Y3{B W:Pt}(hW:W≠(0,0)):¬ a0h [B,(B.1+W.1,B.2+W.2),B] [B,(B.1+W.1,B.2+W.2),B] 6:=fun h=>by
 obtain⟨f,tt,hT,hl⟩:=h 6 (by decide);rw[nV hW (by decide) hT] at hl;exact absurd hl (by decide)
theorem Y4{B W:Pt}(hW:W≠(0,0)){d:Nat}{f:List Pl}{tt:List (Nat×Pl)}(h:aA (MQ [B,(B.1+W.1,B.2+W.2),B] [B,(B.1+W.1,B.2+W.2),B]) d f tt)(hd:d<=5)(hb:256<f.length):False:=by
 rw[nV hW (by lia) h] at hb;have l:=xt;have:d=0\/d=1\/d=2\/d=3\/d=4\/d=5:=by lia
 rcases this with rfl | rfl | rfl | rfl | rfl | rfl<;>lia
structure xN(xs:List Int)(m:Int):Prop where
 mem:m∈xs
 le:∀ a∈xs,m<=a
structure xM(xs:List Int)(m:Int):Prop where
 mem:m∈xs
 le:∀ a∈xs,a<=m
structure ii(c:List Pl)(x0 y0 x1 y1:Int):Prop where
 l:xN (c.map (·.1)) x0
 b:xN (c.map (·.2)) y0
 r:xM (c.map (·.1)) x1
 t:xM (c.map (·.2)) y1
noncomputable def sI(K:a8z):Sp:=fun vs H Q _=>∃ (a:Addr) (us:List V) (c:List Pl),vs=[.ref a]/\H a=some (.lst us)/\v7 H us c/\1<=c.length/\c.length<=1000/\
 ∀ (t:Addr) (x0 y0 x1 y1:Int) (H':Hp),b9 H H'->H' t=some (.tup [.int x0,.int y0,.int x1,.int y1])->ii c x0 y0 x1 y1->Q (.ref t) H'
noncomputable def xQ(p q:Rat):Rat:=if p<q then p else q
noncomputable def xR(p q:Rat):Rat:=if p<q then q else p
noncomputable def qN:Sp:=fun vs H Q _=>∃ x y p q,vs=[x,y]/\bh H x p/\bh H y q/\Bd 4000 p/\Bd 4000 q/\∀ v,bh H v (xQ p q)->Q v H
noncomputable def oj:Sp:=fun vs H Q _=>∃ x y p q,vs=[x,y]/\bh H x p/\bh H y q/\Bd 4000 p/\Bd 4000 q/\∀ v,bh H v (xR p q)->Q v H
structure nT where
 l:Rat
 b:Rat
 r:Rat
 t:Rat
structure su(H:Hp)(v:V)(q:nT):Prop where
 ex:∃ (a:Addr) (v1 v2 v3 v4:V),v=.ref a/\H a=some (.tup [v1,v2,v3,v4])/\bh H v1 q.l/\bh H v2 q.b/\bh H v3 q.r/\bh H v4 q.t
theorem su.tup{H H':Hp}{v:V}{q:nT}(h:su H v q)(t:bR H H'):su H' v q:=by
 obtain⟨a,v1,v2,v3,v4,e,h0,h1,h2,h3,h4⟩:=h.ex;exact⟨a,v1,v2,v3,v4,e,t _ _ h0,h1.tup t,h2.tup t,h3.tup t,h4.tup t⟩
theorem su.same{H H':Hp}{v:V}{q:nT}(h:su H v q)(t:b9 H H'):su H' v q:=h.tup t.tup
structure nT.Bd(n:Nat)(q:nT):Prop where
 l:Cv.Bd n q.l
 b:Cv.Bd n q.b
 r:Cv.Bd n q.r
 t:Cv.Bd n q.t
noncomputable def cmB(p q:nT):nT:=⟨xR p.l q.l,xR p.b q.b,xQ p.r q.r,xQ p.t q.t⟩
noncomputable def ol:Sp:=fun vs H Q _=>∃ x y p q,vs=[x,y]/\su H x p/\su H y q/\p.Bd 4000/\q.Bd 4000/\∀ v H',b9 H H'->su H' v (cmB p q)->Q v H'
structure GrV(H:Hp)(C g:Addr)(R:Int)(xb yb:List Int)(As Bs:List (List Pl)):Prop where
 ex:∃ (dx lx ly lo lt:Addr) (yo yt:List V),H g=some (.ins C dx (ee R lx ly lo lt))/\H lx=some (.lst (xb.map V.int))/\H ly=some (.lst (yb.map V.int))/\H lo=some (.lst yo)/\cZ H none yo As/\H lt=some (.lst yt)/\cZ H none yt Bs
noncomputable def a8o(X Y R x0 y0 x1 y1:Int):nT:=⟨a9e x0 (X*R),a9e y0 (Y*R),a9e x1 (X*R),a9e y1 (Y*R)⟩
noncomputable def uT(K:a8z)(C:Addr):Sp:=fun vs H Q _=>∃ (g a:Addr) (R:Int) (xb yb:List Int) (As Bs:List (List Pl)) (us:List V) (c:List Pl),vs=[.ref g,.ref a]/\GrV H C g R xb yb As Bs/\H a=some (.lst us)/\v7 H us c/\1<=c.length/\c.length<=1000/\0<R/\Sz 9000 R/\(∀ b∈xb,0<b/\Sz 9000 b)/\(∀ b∈yb,0<b/\Sz 9000 b)/\xb.length<=24/\yb.length<=24/\
 ∀ (v:V) (x0 y0 x1 y1:Int) (H':Hp),b9 H H'->ii c x0 y0 x1 y1->su H' v (a8o (j0 xb) (j0 yb) R x0 y0 x1 y1)->Q v H'
noncomputable def a8r(X Y R:Int)(nu:Rat)(c:List Pl):Prop:=∀ x0 y0 x1 y1,ii c x0 y0 x1 y1->(x1 - x0)*(nu.den:Int)<=nu.num*X*R/\(y1 - y0)*(nu.den:Int)<=nu.num*Y*R
noncomputable def gv(K:a8z)(C:Addr):Sp:=fun vs H Q _=>∃ (g:Addr) (v:V) (nu:Rat) (R:Int) (xb yb:List Int) (As Bs:List (List Pl)) (n:Nat),vs=[.ref g,v]/\GrV H C g R xb yb As Bs/\bh H v nu/\Bd 1000 nu/\0<R/\Sz 41 R/\(∀ b∈xb,0<b/\Sz 9000 b)/\(∀ b∈yb,0<b/\Sz 9000 b)/\xb.length<=24/\yb.length<=24/\Sz 500 (j0 xb)/\Sz 500 (j0 yb)/\As.length<=1000/\Bs.length<=1000/\(∀ c∈As++Bs,1<=c.length/\c.length<=12/\du n c)/\n<=500/\
 ∀ (z:Bool) (H':Hp),b9 H H'->(z=true↔∀ c∈As++Bs,a8r (j0 xb) (j0 yb) R nu c)->Q (.bl z) H'
theorem vw{xs:List Int}{a b:Int}(h:xN xs a)(k:xN xs b):a=b:=by have:=h.le _ k.mem;have:=k.le _ h.mem;lia
theorem vv{xs:List Int}{a b:Int}(h:xM xs a)(k:xM xs b):a=b:=by have:=h.le _ k.mem;have:=k.le _ h.mem;lia
theorem ii.uniq{c:List Pl}{a b d e a' b' d' e':Int}(h:ii c a b d e)(k:ii c a' b' d' e'):a=a'/\b=b'/\d=d'/\e=e':=⟨vw h.l k.l,vw h.b k.b,vv h.r k.r,vv h.t k.t⟩
theorem uH{c:List Pl}{f:Pl->Int}{ys:List V}(hl:ys.length=c.length)(hr:∀ (i:Nat) v,ys[i]?=some v->v=V.int (f ((c[i]?).getD (0,0)))):ys=(c.map f).map V.int:=by
 refine b1j fun i=>?_;rw[a9h,a9h];by_cases hi:i<ys.length
 .have e:=a8y hi;rw[hr i _ e] at e;rw[e,a8y (show i<c.length by lia)];rfl
 .rw[a9v (by lia),a9v (by lia)];rfl
theorem yN{T:Type}[Inhabited T]{n:Nat}{P:Nat->T->Prop}(h:∀ i,i<n->∃ p,P i p):∃ f:Nat->T,∀ i,i<n->P i (f i):=
 ⟨fun i=>if hi:i<n then Classical.choose (h i hi) else default,fun i hi=>by dsimp only;rw[dif_pos hi];exact Classical.choose_spec (h i hi)⟩
theorem fv.congr{J:It}{H1:Hp}{n:Nat}{f g:Nat->V}(h:fv J H1 n f)(e:∀ i,i<n->f i=g i):fv J H1 n g:=fun H2 s i=>
 ⟨fun hi=>⟨((h H2 s i).1 hi).1,fun x H' y=>⟨(((h H2 s i).1 hi).2 x H' y).1,by rw[(((h H2 s i).1 hi).2 x H' y).2];exact e i hi⟩⟩,(h H2 s i).2⟩
theorem a0a{n:Nat}{f:Nat->Bool}{ys:List V}(hl:ys.length=n)(hr:∀ (i:Nat) v,ys[i]?=some v->v=V.bl (f i)):ys=((b0y n).map f).map V.bl:=by
 refine b1j fun i=>?_;rw[a9h,a9h];by_cases hi:i<ys.length
 .have e:=a8y hi;rw[hr i _ e] at e;rw[e,b3r (by lia)];rfl
 .rw[a9v (by lia),a9v (by rw[b1d];lia)];rfl
theorem ii.sz{n:Nat}{c:List Pl}{x0 y0 x1 y1:Int}(h:ii c x0 y0 x1 y1)(hz:du n c):(Sz n x0/\Sz n y0)/\Sz n x1/\Sz n y1:=by
 have f1:∀ x∈c.map (·.1),Sz n x:=fun x hx=>by
  obtain⟨p,hp,rfl⟩:=a9m.mp hx;exact (hz p hp).1
 have f2:∀ x∈c.map (·.2),Sz n x:=fun x hx=>by
  obtain⟨p,hp,rfl⟩:=a9m.mp hx;exact (hz p hp).2
 exact⟨⟨f1 _ h.l.mem,f2 _ h.b.mem⟩,f1 _ h.r.mem,f2 _ h.t.mem⟩
abbrev Bx5:=Addr×Int×Int×Int×Int
noncomputable def a0x(X Y R:Int)(nu:Rat)(q:Bx5):Bool:=decide ((q.2.2.2.1 - q.2.1)*(nu.den:Int)<=nu.num*X*R) && decide ((q.2.2.2.2 - q.2.2.1)*(nu.den:Int)<=nu.num*Y*R)
theorem ww{X Y R:Int}{nu:Rat}{css:List (List Pl)}{f:Nat->Bx5}(h:∀ i,i<css.length->ii ((css[i]?).getD []) (f i).2.1 (f i).2.2.1 (f i).2.2.2.1 (f i).2.2.2.2) :
 ((b0y css.length).map fun i=>a0x X Y R nu (f i)).all id=true↔∀ c∈css,a8r X Y R nu c:=by
 rw[List.all_map,b2o];constructor
 .intro k c hc a b d e hb;obtain⟨i,hi,rfl⟩:=a9o hc;have h1:=h i hi;rw[a8y hi] at h1;obtain⟨e1,e2,e3,e4⟩:=h1.uniq hb;have:=k i (b1c.mpr hi);simp only[Function.comp,id,a0x,b1g,decide_eq_true_eq,e1,e2,e3,e4] at this;exact this
 .intro k i hi;have hi:=b1c.mp hi;have h1:=h i hi;rw[a8y hi] at h1;have:=k _ (a9n hi) _ _ _ _ h1;simp only[Function.comp,id,a0x,b1g,decide_eq_true_eq];exact this
structure a5w(xs:List Rat)(m:Rat):Prop where
 mem:m∈xs
 le:∀ a∈xs,m<=a
structure xU(xs:List Rat)(m:Rat):Prop where
 mem:m∈xs
 le:∀ a∈xs,a<=m
structure bZ(st:List Pt)(q:nT):Prop where
 l:a5w (st.map (·.1)) q.l
 b:a5w (st.map (·.2)) q.b
 r:xU (st.map (·.1)) q.r
 t:xU (st.map (·.2)) q.t
theorem qY{xs:List Rat}{a b:Rat}(h:a5w xs a)(k:a5w xs b):a=b:=b6q (h.le _ k.mem) (k.le _ h.mem)
theorem qX{xs:List Rat}{a b:Rat}(h:xU xs a)(k:xU xs b):a=b:=b6q (k.le _ h.mem) (h.le _ k.mem)
theorem bZ.uniq{st:List Pt}{p q:nT}(h:bZ st p)(k:bZ st q):p=q:=by
 obtain⟨a,b,c,d⟩:=p;obtain⟨a',b',c',d'⟩:=q;have e1:=qY h.l k.l;have e2:=qY h.b k.b;have e3:=qX h.r k.r;have e4:=qX h.t k.t;dsimp only at e1 e2 e3 e4;subst e1 e2 e3 e4;rfl
theorem tX{a b d e:Int}(hd:0<d)(he:0<e):a9e a d<=a9e b e↔a*e<=b*d:=by
 have d0:(0:Rat)<(d:Rat):=by exact_mod_cast hd
 have e0:(0:Rat)<(e:Rat):=by exact_mod_cast he
 have p0:(0:Rat)<(d:Rat)*(e:Rat):=b7i d0 e0;have x1:a9e a d*((d:Rat)*(e:Rat))=((a*e:Int):Rat):=by
  rw[b0t,a9u];grind
 have x2:a9e b e*((d:Rat)*(e:Rat))=((b*d:Int):Rat):=by
  rw[b0t,a9u];grind
 constructor
 .intro h;have:=Rat.mul_le_mul_of_nonneg_right h (b4r p0);rw[x1,x2] at this
  exact_mod_cast this
 .intro h;refine b3v.mp fun k=>?_;have:=b4m k p0;rw[x1,x2] at this;have:b*d<a*e:=by exact_mod_cast this
  lia
theorem a1r{a b d:Int}(hd:0<d):a9e a d<=a9e b d↔a<=b:=by
 rw[tX hd hd];exact⟨fun h=>Int.le_of_mul_le_mul_right h hd,fun h=>Int.mul_le_mul_of_nonneg_right h (by lia)⟩
theorem a1g{xs:List Int}{m d:Int}(hd:0<d)(h:xN xs m):a5w (xs.map fun x=>a9e x d) (a9e m d):=
 ⟨a9m.mpr ⟨m,h.mem,rfl⟩,fun a ha=>by obtain⟨x,hx,rfl⟩:=a9m.mp ha;exact (a1r hd).mpr (h.le x hx)⟩
theorem a1f{xs:List Int}{m d:Int}(hd:0<d)(h:xM xs m):xU (xs.map fun x=>a9e x d) (a9e m d):=
 ⟨a9m.mpr ⟨m,h.mem,rfl⟩,fun a ha=>by obtain⟨x,hx,rfl⟩:=a9m.mp ha;exact (a1r hd).mpr (h.le x hx)⟩
theorem ii.q{c:List Pl}{X Y R x0 y0 x1 y1:Int}(hX:0<X*R)(hY:0<Y*R)(h:ii c x0 y0 x1 y1):bZ (aW (X*R) (Y*R) c) (a8o X Y R x0 y0 x1 y1):=by
 have e1:(aW (X*R) (Y*R) c).map (·.1)=(c.map (·.1)).map fun x=>a9e x (X*R):=by unfold aW;rw[b2h,b2h];rfl
 have e2:(aW (X*R) (Y*R) c).map (·.2)=(c.map (·.2)).map fun x=>a9e x (Y*R):=by unfold aW;rw[b2h,b2h];rfl
 exact⟨by rw[e1];exact a1g hX h.l,by rw[e2];exact a1g hY h.b,by rw[e1];exact a1f hX h.r,by rw[e2];exact a1f hY h.t⟩
theorem A6:∀ {xs:List Int},xs≠[]->∃ m,xN xs m
 | [],h=>absurd rfl h
 | [a],_=>⟨a,by simp,fun b hb=>by rw[a9q.mp hb];exact b3u _⟩
 | a::b::r,_=>by
   obtain⟨m,h1,h2⟩:=A6 (xs:=b::r) (by simp);by_cases z:a<=m
   .exact⟨a,by simp,fun x hx=>by rcases a9g.mp hx with rfl | hx;exact b3u _;exact b4q z (h2 x hx)⟩
   .exact⟨m,b0f _ h1,fun x hx=>by rcases a9g.mp hx with rfl | hx;lia;exact h2 x hx⟩
theorem zU:∀ {xs:List Int},xs≠[]->∃ m,xM xs m
 | [],h=>absurd rfl h
 | [a],_=>⟨a,by simp,fun b hb=>by rw[a9q.mp hb];exact b3u _⟩
 | a::b::r,_=>by
   obtain⟨m,h1,h2⟩:=zU (xs:=b::r) (by simp);by_cases z:m<=a
   .exact⟨a,by simp,fun x hx=>by rcases a9g.mp hx with rfl | hx;exact b3u _;exact b4q (h2 x hx) z⟩
   .exact⟨m,b0f _ h1,fun x hx=>by rcases a9g.mp hx with rfl | hx;lia;exact h2 x hx⟩
theorem a5q{c:List Pl}(h:1<=c.length):∃ x0 y0 x1 y1,ii c x0 y0 x1 y1:=by
 have n1:c.map (·.1)≠[]:=fun e=>by have:=congrArg b3g e;rw[a9a,b6n] at this;lia
 have n2:c.map (·.2)≠[]:=fun e=>by have:=congrArg b3g e;rw[a9a,b6n] at this;lia
 obtain⟨a,ha⟩:=A6 n1;obtain⟨b,hb⟩:=A6 n2;obtain⟨d,hd⟩:=zU n1;obtain⟨e,he⟩:=zU n2;exact⟨a,b,d,e,ha,hb,hd,he⟩
noncomputable def SmQ(nu:Rat)(st:List Pt):Prop:=∀ q,bZ st q->q.r - q.l<=nu/\q.t - q.b<=nu
theorem iS{a b d:Int}{nu:Rat}(hd:0<d):(b - a)*(nu.den:Int)<=nu.num*d↔a9e b d - a9e a d<=nu:=by
 have e:a9e b d - a9e a d=a9e (b - a) d:=by
  rw[b0t,b0t,b0t,Rat.intCast_sub];have:(d:Rat)≠0:=by
   intro h;have:d=0:=by exact_mod_cast h
   lia
  grind
 have n:nu=a9e nu.num nu.den:=(b2f nu).symm;rw[e]
 conv=>rhs;rhs;rw[n]
 rw[tX hd (by have:=nu.den_pos;lia)]
theorem vk{X Y R:Int}{nu:Rat}{c:List Pl}(hX:0<X*R)(hY:0<Y*R)(h:1<=c.length):a8r X Y R nu c↔SmQ nu (aW (X*R) (Y*R) c):=by
 have m:∀ Z:Int,nu.num*Z*R=nu.num*(Z*R):=fun Z=>b2q _ _ _;constructor
 .intro k q hq;obtain⟨x0,y0,x1,y1,hb⟩:=a5q h;have e:=(hb.q hX hY).uniq hq;subst e;obtain⟨k1,k2⟩:=k _ _ _ _ hb;rw[m] at k1 k2;exact⟨(iS hX).mp k1,(iS hY).mp k2⟩
 .intro k x0 y0 x1 y1 hb;obtain⟨k1,k2⟩:=k _ (hb.q hX hY);rw[m,m];exact⟨(iS hX).mpr k1,(iS hY).mpr k2⟩
noncomputable def nl(ps qs:List Pt)(nu:Rat)(d:Nat):Prop:=∀ st∈aK ps d++aK qs d,SmQ nu st
theorem N7{ps qs:List Pt}{nu:Rat}{X Y R:Int}{c1 c2:List Pl}{d:Nat}(hX:0<X*R)(hY:0<Y*R)(e1:(cL c1 d).map (aW (X*R) (Y*R))=aK ps d)(e2:(cL c2 d).map (aW (X*R) (Y*R))=aK qs d)(h:∀ c∈cL c1 d++cL c2 d,1<=c.length) :
 (∀ c∈cL c1 d++cL c2 d,a8r X Y R nu c)↔nl ps qs nu d:=by
 unfold nl;rw[<- e1,<- e2,<- b2w];constructor
 .intro k st hst;obtain⟨c,hc,rfl⟩:=a9m.mp hst;exact (vk hX hY (h c hc)).mp (k c hc)
 .intro k c hc;exact (vk hX hY (h c hc)).mpr (k _ (a9m.mpr ⟨c,hc,rfl⟩))
structure xL(H:Hp)(ys:List V)(fl:List Pl)(ps qs:List Pt)(d:Nat):Prop where
 len:ys.length=fl.length
 get:∀ (i:Nat) v p,ys[i]?=some v->fl[i]?=some p->∃ (t:Addr) (w:V) (q1 q2:nT),v=.ref t/\H t=some (.tup [.int p.1,.int p.2,w])/\bZ (gP (aK ps d) p.1) q1/\bZ (gP (aK qs d) p.2) q2/\su H w (cmB q1 q2)
noncomputable def sK(K:a8z)(T:Addr):Sp:=fun vs H Q E=>∃ (a b:Addr) (nv:V) (nu:Rat) (us ws:List V) (ps qs:List Pt) (D:Int) (m:Nat),vs=[.ref a,.ref b,nv]/\H a=some (.lst us)/\aa H us ps/\H b=some (.lst ws)/\aa H ws qs/\bh H nv nu/\Bd 1000 nu/\1<=ps.length/\ps.length<=12/\1<=qs.length/\qs.length<=12/\0<D/\Sz 150 D/\m<=350/\(∀ p∈ps++qs,ki D m p)/\6*(max ps.length qs.length - 1)<=40/\
 (∀ (d:Nat) (t l:Addr) (ys:List V) (fl:List Pl) (tt:List (Nat×Pl)) (H':Hp),d<=6->nl ps qs nu d->(∀ e,e<d->¬ nl ps qs nu e)->b9 H H'->H' t=some (.tup [.int (d:Int),.ref l])->H l=none->H' l=some (.lst ys)->xL H' ys fl ps qs d->aA (MQ ps qs) d fl tt->a0h ps qs d->Q (.ref t) H')/\
 (∀ H',b9 H H'->(∀ e,e<=6->¬ nl ps qs nu e)->E (.ref T) none H')/\
 (∀ (d e:Nat) (fl:List Pl) (tt:List (Nat×Pl)) (H':Hp),d<=6->nl ps qs nu d->(∀ e,e<d->¬ nl ps qs nu e)->e<=d->b9 H H'->aA (MQ ps qs) e fl tt->256<fl.length->E (.ref T) none H')
theorem pk{K:a8z}{C:Addr}{vs:List V}{H:Hp}{Q Q':VK}{E E':XK}(h:gv K C vs H Q E)(hq:∀ v H1,Q v H1->Q' v H1):gv K C vs H Q' E':=by
 obtain⟨g,v,nu,R,xb,yb,As,Bs,n,h1,h2,h3,h4,h5,h6,h7,h8,h9,h10,h11,h12,h13,h14,h15,h16,k⟩:=h;exact⟨g,v,nu,R,xb,yb,As,Bs,n,h1,h2,h3,h4,h5,h6,h7,h8,h9,h10,h11,h12,h13,h14,h15,h16,fun z H' s i=>hq _ _ (k z H' s i)⟩
theorem nc{a d:Int}{n:Nat}(hd:0<d)(za:Sz n a)(zd:Sz n d):Bd n (a9e a d):=by
 obtain⟨h1,h2⟩:=tw a d (by lia);refine⟨za.le h1,⟨?_⟩⟩;have:=zd.lt;have e:((a9e a d).den:Int).natAbs=(a9e a d).den:=by simp
 rw[e];lia
theorem a5p{c:List Pl}{X Y R x0 y0 x1 y1:Int}{n:Nat}(hX:0<X*R)(hY:0<Y*R)(zX:Sz 500 X)(zY:Sz 500 Y)(zR:Sz 41 R)(hb:ii c x0 y0 x1 y1)(hz:du n c)(hn:n<=500):(a8o X Y R x0 y0 x1 y1).Bd 4000:=by
 obtain⟨⟨z1,z2⟩,z3,z4⟩:=hb.sz hz;have a:Sz 4000 (X*R):=(zX.mul zR).mono (by decide);have b:Sz 4000 (Y*R):=(zY.mul zR).mono (by decide);exact⟨nc hX (z1.mono (by lia)) a,nc hY (z2.mono (by lia)) b,nc hX (z3.mono (by lia)) a,nc hY (z4.mono (by lia)) b⟩
noncomputable def pp:Sp:=fun vs H Q _=>∃ (a:Addr) (us:List V) (qs:List Rat),vs=[.ref a]/\H a=some (.lst us)/\iE H us qs/\1<=qs.length/\(∀ q∈qs,Bd 4000 q)/\∀ v m,bh H v m->a5w qs m->Q v H
noncomputable def lM:Sp:=fun vs H Q _=>∃ (a:Addr) (us:List V) (qs:List Rat),vs=[.ref a]/\H a=some (.lst us)/\iE H us qs/\1<=qs.length/\(∀ q∈qs,Bd 4000 q)/\∀ v m,bh H v m->xU qs m->Q v H
noncomputable def pq:Sp:=fun vs H Q _=>∃ (a:Addr) (us:List V) (st:List Pt),vs=[.ref a]/\H a=some (.lst us)/\aa H us st/\1<=st.length/\st.length<=1000/\(∀ p∈st,Bd 4000 p.1/\Bd 4000 p.2)/\∀ v q H',b9 H H'->su H' v q->bZ st q->Q v H'
noncomputable def yk:Sp:=fun vs H Q _=>∃ x q,vs=[x]/\su H x q/\q.Bd 1500/\∀ v m H',b9 H H'->bh H' v m->xU [q.r - q.l,q.t - q.b] m->Q v H'
structure a5u(ps qs:List Pt)(d:Nat)(w:Rat):Prop where
 mem:∃ st∈aK ps d++aK qs d,∃ q,bZ st q/\(w=q.r - q.l\/w=q.t - q.b)
 le:∀ st∈aK ps d++aK qs d,∀ q,bZ st q->q.r - q.l<=w/\q.t - q.b<=w
theorem a5u.small{ps qs:List Pt}{d:Nat}{w nu:Rat}(h:a5u ps qs d w):w<=nu↔nl ps qs nu d:=by
 constructor
 .intro k st hst q hq;obtain⟨a,b⟩:=h.le st hst q hq;exact⟨b4s a k,b4s b k⟩
 .intro k;obtain⟨st,hst,q,hq,e⟩:=h.mem;obtain⟨a,b⟩:=k st hst q hq;rcases e with rfl | rfl
  .exact a
  .exact b
noncomputable def dR(K:a8z):Sp:=fun vs H Q _=>∃ (a b:Addr) (us ws:List V) (ps qs:List Pt) (D:Int) (m L:Nat),vs=[.ref a,.ref b,.int (L:Int)]/\H a=some (.lst us)/\aa H us ps/\H b=some (.lst ws)/\aa H ws qs/\1<=ps.length/\ps.length<=12/\1<=qs.length/\qs.length<=12/\0<D/\Sz 60 D/\m<=300/\(∀ p∈ps++qs,ki D m p)/\L<=6/\L*(max ps.length qs.length+1)<=100/\
 ∀ v w H',b9 H H'->bh H' v w->a5u ps qs L w->Bd 900 w->0<=w->Q v H'
noncomputable def uX(K:a8z):Sp:=fun vs H Q _=>∃ (a b:Addr) (nv:V) (nu:Rat) (us ws:List V) (ps qs:List Pt) (D:Int) (m:Nat),vs=[.ref a,.ref b,nv]/\H a=some (.lst us)/\aa H us ps/\H b=some (.lst ws)/\aa H ws qs/\bh H nv nu/\Bd 1000 nu/\1<=ps.length/\ps.length<=12/\1<=qs.length/\qs.length<=12/\0<D/\Sz 60 D/\m<=300/\(∀ p∈ps++qs,ki D m p)/\6*(max ps.length qs.length+1)<=100/\
 ∀ (d:Nat) H',b9 H H'->d<=7->(∀ e,e<d->¬ nl ps qs nu e)->(d<7->nl ps qs nu d)->Q (.int (d:Int)) H'
theorem Y9(l h:Rat):a9e (h.num*(l.den:Int) - l.num*(h.den:Int)) ((l.den:Int)*(h.den:Int))=h - l:=by
 have l0:((l.den:Int):Rat)≠0:=by
  have:=l.den_pos;intro e;have:(l.den:Int)=0:=by exact_mod_cast e
  lia
 have h0:((h.den:Int):Rat)≠0:=by
  have:=h.den_pos;intro e;have:(h.den:Int)=0:=by exact_mod_cast e
  lia
 have el:l=(l.num:Rat) / ((l.den:Int):Rat):=by rw[<- b0t,b2f]
 have eh:h=(h.num:Rat) / ((h.den:Int):Rat):=by rw[<- b0t,b2f]
 rw[b0t,Rat.intCast_sub,a9u,a9u,a9u];generalize (l.num:Rat)=a at *;generalize ((l.den:Int):Rat)=b at *;generalize (h.num:Rat)=c at *;generalize ((h.den:Int):Rat)=d at *;subst el eh;grind
structure a5v(ps qs:List Pt)(D:Int)(n L i:Nat)(st:List Pt):Prop where
 at_:(aK ps L++aK qs L)[i]?=some st
 l1:1<=st.length
 l2:st.length<=12
 ov:∀ p∈st,ki D n p
theorem bZ.ov{st:List Pt}{q:nT}{D:Int}{n:Nat}(h:bZ st q)(ho:∀ p∈st,ki D n p):(Ov D n q.l/\Ov D n q.b)/\Ov D n q.r/\Ov D n q.t:=by
 have f1:∀ x∈st.map (·.1),Ov D n x:=fun x hx=>by obtain⟨p,hp,rfl⟩:=a9m.mp hx;exact (ho p hp).1
 have f2:∀ x∈st.map (·.2),Ov D n x:=fun x hx=>by obtain⟨p,hp,rfl⟩:=a9m.mp hx;exact (ho p hp).2
 exact⟨⟨f1 _ h.l.mem,f2 _ h.b.mem⟩,f1 _ h.r.mem,f2 _ h.t.mem⟩
theorem bZ.bd{st:List Pt}{q:nT}{D:Int}{n d:Nat}(hD:0<D)(zD:Sz d D)(h:bZ st q)(ho:∀ p∈st,ki D n p)(h1:n<=1500)(h2:d<=1500):q.Bd 1500:=by
 obtain⟨⟨a,b⟩,c,e⟩:=h.ov ho;exact⟨jP hD zD a 1500 h1 h2,jP hD zD b 1500 h1 h2,jP hD zD c 1500 h1 h2,jP hD zD e 1500 h1 h2⟩
theorem N9{st:List Pt}{q:nT}{D:Int}{n d:Nat}{w:Rat}(hD:0<D)(zD:Sz d D)(h:bZ st q)(ho:∀ p∈st,ki D n p)(h1:n+1<=900)(h2:d<=900)(hw:w=q.r - q.l\/w=q.t - q.b):Bd 900 w:=by
 obtain⟨⟨a,b⟩,c,e⟩:=h.ov ho;rcases hw with rfl | rfl
 .rw[c0d];exact jP hD zD (a1a c (a0z a)) 900 h1 h2
 .rw[c0d];exact jP hD zD (a1a e (a0z b)) 900 h1 h2
theorem bZ.nn{st:List Pt}{q:nT}(h:bZ st q):0<=q.r - q.l:=by
 have:=h.l.le _ h.r.mem;grind
theorem a6p{ps qs:List Pt}{L n:Nat}{f:Nat->Rat}{m:Rat}(hn:n=(aK ps L++aK qs L).length)(hf:∀ i,i<n->∃ st q,(aK ps L++aK qs L)[i]?=some st/\bZ st q/\xU [q.r - q.l,q.t - q.b] (f i))(hm:xU ((b0y n).map f) m):a5u ps qs L m:=by
 constructor
 .obtain⟨i,hi,e⟩:=a9m.mp hm.mem;obtain⟨st,q,h1,h2,h3⟩:=hf i (b1c.mp hi);refine⟨st,a9f h1,q,h2,?_⟩;have:=h3.mem;simp only[a9g,a9w,or_false] at this;rw[<- e];exact this
 .intro st hst q hq;obtain⟨i,hi,e⟩:=a9o hst;obtain⟨st',q',h1,h2,h3⟩:=hf i (by lia);rw[a8y hi,e] at h1;cases h1;have:=h2.uniq hq;subst this;have k:=hm.le (f i) (a9m.mpr ⟨i,b1c.mpr (by lia),rfl⟩);exact⟨b4s (h3.le _ (by simp)) k,b4s (h3.le _ (by simp)) k⟩
theorem pi{vs:List V}{H:Hp}{Q Q':VK}{E E':XK}(h:cx vs H Q E)(hq:∀ v H1,Q v H1->Q' v H1):cx vs H Q' E':=by
 obtain⟨x,y,p,q,h1,h2,h3,h4,h5,k⟩:=h;exact⟨x,y,p,q,h1,h2,h3,h4,h5,hq _ _ k⟩
theorem ph{K:a8z}{vs:List V}{H:Hp}{Q Q':VK}{E E':XK}(h:dR K vs H Q E)(hq:∀ v H1,Q v H1->Q' v H1):dR K vs H Q' E':=by
 obtain⟨a,b,us,ws,ps,qs,D,m,L,h1,h2,h3,h4,h5,h6,h7,h8,h9,h10,h11,h12,h13,h14,h15,k⟩:=h;exact⟨a,b,us,ws,ps,qs,D,m,L,h1,h2,h3,h4,h5,h6,h7,h8,h9,h10,h11,h12,h13,h14,h15,fun v w H' s g1 g2 g3 g4=>hq _ _ (k v w H' s g1 g2 g3 g4)⟩
noncomputable def og:Sp:=fun vs H Q _=>∃ (a b:Addr) (nv:V) (nu:Rat) (us ws:List V) (ps qs:List Pt) (D:Int) (m:Nat),vs=[.ref a,.ref b,nv]/\H a=some (.lst us)/\aa H us ps/\H b=some (.lst ws)/\aa H ws qs/\bh H nv nu/\Bd 1000 nu/\1<=ps.length/\ps.length<=12/\1<=qs.length/\qs.length<=12/\0<D/\Sz 150 D/\m<=350/\(∀ p∈ps++qs,ki D m p)/\6*(max ps.length qs.length - 1)<=40/\
 (∀ d,d<=6->nl ps qs nu d->(∀ e,e<d->¬ nl ps qs nu e)->¬ a0h ps qs d)/\∀ H',b9 H H'->Q (.bl true) H'
theorem a4k{a b m:Rat}(h:xU [a,b] m):m=xR a b:=by
 have h1:=h.le a (by simp);have h2:=h.le b (by simp);have hm:=h.mem;simp only[a9g,a9w,or_false] at hm;unfold xR;by_cases z:a<b
 .rw[if_pos z];rcases hm with rfl | rfl
  .exact absurd z (b3v.mpr h2)
  .rfl
 .rw[if_neg z];rcases hm with rfl | rfl
  .rfl
  .exact b6q (b3v.mp z) h1
theorem a4m{a b m:Rat}(h:a5w [a,b] m):m=xQ a b:=by
 have h1:=h.le a (by simp);have h2:=h.le b (by simp);have hm:=h.mem;simp only[a9g,a9w,or_false] at hm;unfold xQ;by_cases z:a<b
 .rw[if_pos z];rcases hm with rfl | rfl
  .rfl
  .exact absurd z (b3v.mpr h1)
 .rw[if_neg z];rcases hm with rfl | rfl
  .exact b6q h2 (b3v.mp z)
  .rfl
theorem tW{ps qs:List Pt}{d e:Nat}{f:List Pl}{tt:List (Nat×Pl)}(h:a0h ps qs d)(he:e<=d)(t:aA (MQ ps qs) e f tt):f.length<=256:=by
 obtain⟨f',t',h1,h2⟩:=h e he;rw[t.same h1];exact h2
noncomputable def qK(K:a8z):Sp:=fun vs H Q _=>∃ (lk a b:Addr) (ys us ws:List V) (fl:List Pl) (tt:List (Nat×Pl)) (ps qs:List Pt) (D:Int) (m L:Nat),vs=[.ref lk,.ref a,.ref b,.int (L:Int)]/\H lk=some (.lst ys)/\xL H ys fl ps qs L/\aA (MQ ps qs) L fl tt/\a0h ps qs L/\H a=some (.lst us)/\aa H us ps/\H b=some (.lst ws)/\aa H ws qs/\1<=ps.length/\ps.length<=7/\1<=qs.length/\qs.length<=7/\0<D/\Sz 60 D/\m<=300/\(∀ p∈ps++qs,ki D m p)/\L<=6/\∀ H',b9 H H'->Q (.bl true) H'
theorem xL.same{H H':Hp}{ys:List V}{fl:List Pl}{ps qs:List Pt}{d:Nat}(h:xL H ys fl ps qs d)(s:b9 H H'):xL H' ys fl ps qs d:=
 ⟨h.len,fun i v p e1 e2=>by obtain⟨t,w,q1,q2,r1,r2,r3,r4,r5⟩:=h.get i v p e1 e2;exact⟨t,w,q1,q2,r1,s _ _ r2,r3,r4,r5.same s⟩⟩
theorem bZ.bd4{st:List Pt}{q:nT}(h:bZ st q)(hb:∀ p∈st,Bd 4000 p.1/\Bd 4000 p.2):q.Bd 4000:=by
 have f1:∀ x∈st.map (·.1),Bd 4000 x:=fun x hx=>by obtain⟨p,hp,rfl⟩:=a9m.mp hx;exact (hb p hp).1
 have f2:∀ x∈st.map (·.2),Bd 4000 x:=fun x hx=>by obtain⟨p,hp,rfl⟩:=a9m.mp hx;exact (hb p hp).2
 exact⟨f1 _ h.l.mem,f2 _ h.b.mem,f1 _ h.r.mem,f2 _ h.t.mem⟩
theorem yr{H:Hp}{x y:V}{p q:Rat}(h1:bh H x p)(h2:bh H y q):iE H [x,y] [p,q]:=by
 refine⟨rfl,fun i v w e1 e2=>?_⟩;match i with
 | 0=>cases e1;cases e2;exact h1
 | 1=>cases e1;cases e2;exact h2
 | n+2=>simp at e1
theorem xZ{ys:List V}(h:ys.length=2):∃ a b,ys=[a,b]:=by
 match ys,h with
 | [a,b],_=>exact⟨a,b,rfl⟩
noncomputable def a6a(ps qs:List Pt)(x0 x5:Int)(nu:Rat):Prop:=
 (∃ e,e<=3/\nl ps qs nu e)\/(x0 % 3=1/\∃ (w:Rat) (o:Int),a5u ps qs 0 w/\0<w/\1<=o/\nu*(o:Rat)=w/\(o<=16\/(x5 % 4=3/\o<=200)))
noncomputable def uW(K:a8z):Sp:=fun vs H Q _=>∃ (a b l:Addr) (us ws:List V) (xs:List Int) (ps qs:List Pt) (D:Int) (m:Nat),vs=[.ref a,.ref b,.ref l]/\H a=some (.lst us)/\aa H us ps/\H b=some (.lst ws)/\aa H ws qs/\H l=some (.lst (xs.map V.int))/\xs.length=24/\(∀ x∈xs,0<=x)/\1<=ps.length/\ps.length<=7/\1<=qs.length/\qs.length<=7/\0<D/\Sz 60 D/\m<=300/\(∀ p∈ps++qs,ki D m p)/\
 ∀ v nu H',b9 H H'->bh H' v nu->Bd 1000 nu->a6a ps qs (xs.getD (b0l 0) 0) (xs.getD (b0l 5) 0) nu->Q v H'
theorem T4{w:Rat}{o:Int}(ho:1<=o):a9e w.num ((w.den:Int)*o)*(o:Rat)=w:=by
 have d0:((w.den:Int):Rat)≠0:=by
  have:=w.den_pos;intro e;have:(w.den:Int)=0:=by exact_mod_cast e
  lia
 have o0:(o:Rat)≠0:=by
  intro e;have:o=0:=by exact_mod_cast e
  lia
 have ew:w=(w.num:Rat) / ((w.den:Int):Rat):=by rw[<- b0t,b2f]
 rw[b0t,a9u];generalize (w.num:Rat)=a at *;generalize ((w.den:Int):Rat)=b at *;subst ew;grind
theorem U9{w:Rat}{r:Int}(hr:0<=r):w<=a9e (w.num*100+1+r) ((w.den:Int)*100):=by
 have d0:(0:Int)<(w.den:Int):=by have:=w.den_pos;lia
 have ew:w=a9e w.num (w.den:Int):=(b2f w).symm
 conv=>lhs;rw[ew]
 rw[tX d0 (by lia)];generalize (w.den:Int)=b at *;have h1:w.num*(b*100)=w.num*100*b:=by rw[b1f b 100,<- b2q]
 have h2:(w.num*100+1+r)*b=w.num*100*b+(1+r)*b:=by rw[Int.add_assoc,Int.add_mul]
 have h3:0<=(1+r)*b:=b2k (by lia) (by lia);lia
theorem yA(t:Rat)(A B:Pt):pH t [A,B]=ig t A B:=rfl
theorem tI{A B:Pt}{d i:Nat}(hi:i<2^d):gP (aK [A,B] d) (i:Int)=[ig (tq d i 0) A B,ig (tq d i 1) A B]:=by
 have i64:((2^d:Nat):Int)=(2:Int)^d:=by simp
 have ln:=qc (ps:=[A,B]) (d:=d) (i:=(i:Int)) (by lia) (by rw[<- i64];lia);have h0:=vB (ps:=[A,B]) (by simp) d i hi 0;have h1:=vB (ps:=[A,B]) (by simp) d i hi 1;generalize gP (aK [A,B] d) (i:Int)=st at *;match st,ln with
 | [P,Q],_=>
   rw[vo [P,Q] rfl,yA] at h0;rw[a3a [P,Q] rfl,yA] at h1;rw[h0,h1]
theorem tJ{C:Pt}{d i:Nat}(hi:i<2^d):gP (aK [C] d) (i:Int)=[C]:=by
 have i64:((2^d:Nat):Int)=(2:Int)^d:=by simp
 have ln:=qc (ps:=[C]) (d:=d) (i:=(i:Int)) (by lia) (by rw[<- i64];lia);have h0:=vB (ps:=[C]) (by simp) d i hi 0;generalize gP (aK [C] d) (i:Int)=st at *;match st,ln with
 | [P],_=>
   rw[vo [P] rfl] at h0;rw[h0];rfl
theorem qg{P Q:Pt}{q:nT}(h:bZ [P,Q] q):((q.r - q.l=Q.1 - P.1\/q.r - q.l=P.1 - Q.1)/\Q.1 - P.1<=q.r - q.l/\P.1 - Q.1<=q.r - q.l)/\(q.t - q.b=Q.2 - P.2\/q.t - q.b=P.2 - Q.2)/\Q.2 - P.2<=q.t - q.b/\P.2 - Q.2<=q.t - q.b:=by
 obtain⟨⟨l1,l2⟩,⟨b1,b2⟩,⟨r1,r2⟩,⟨t1,t2⟩⟩:=h;simp only[b1q,b4n,a9g,a9w,or_false,forall_eq_or_imp,forall_eq] at l1 l2 b1 b2 r1 r2 t1 t2;refine⟨⟨?_,?_,?_⟩,?_,?_,?_⟩<;>grind
theorem vX{P:Pt}{q:nT}(h:bZ [P] q):q.r - q.l=0/\q.t - q.b=0:=by
 obtain⟨⟨l1,l2⟩,⟨b1,b2⟩,⟨r1,r2⟩,⟨t1,t2⟩⟩:=h;simp only[b1q,b4n,a9g,a9w,or_false] at l1 b1 r1 t1;constructor<;>grind
theorem xE(P Q:Pt):∃ q,bZ [P,Q] q:=by
 refine⟨⟨if P.1<=Q.1 then P.1 else Q.1,if P.2<=Q.2 then P.2 else Q.2,if P.1<=Q.1 then Q.1 else P.1,if P.2<=Q.2 then Q.2 else P.2⟩,⟨?_,?_⟩,⟨?_,?_⟩,⟨?_,?_⟩,⟨?_,?_⟩⟩<;>simp only[b1q,b4n,a9g,a9w,or_false,forall_eq_or_imp,forall_eq]<;>grind
theorem A7{ps:List Pt}{d:Nat}{st:List Pt}(h:st∈aK ps d):∃ i:Nat,i<2^d/\st=gP (aK ps d) (i:Int):=by
 obtain⟨i,hi,e⟩:=a9o h;refine⟨i,by rw[<- (jT (ps:=ps) d).1];exact hi,?_⟩;unfold gP;rw[b1o,a8y hi,e];rfl
theorem uK(d i:Nat)(x y:Rat):dO (tq d i 1) x y - dO (tq d i 0) x y=(y - x)*hp d:=by
 unfold dO tq;grind
theorem hp4:hp 4=1 / 16:=by decide
theorem om{A B:Pt}{w nu:Rat}(hnu:w<=16*nu)(h:∀ q,bZ [A,B] q->q.r - q.l<=w/\q.t - q.b<=w):∀ st∈aK [A,B] 4,SmQ nu st:=fun st hst q hq=>by
 obtain⟨i,hi,rfl⟩:=A7 hst;rw[tI hi] at hq;obtain⟨q0,h0⟩:=xE A B;obtain⟨a1,a2⟩:=h q0 h0;obtain⟨⟨_,b1,b2⟩,_,b3,b4⟩:=qg h0;have e1:=uK 4 i A.1 B.1;have e2:=uK 4 i A.2 B.2;rw[hp4] at e1 e2;obtain⟨⟨c1,_,_⟩,c2,_,_⟩:=qg hq;simp only[ig] at c1 c2;constructor
 .rcases c1 with c | c<;>grind
 .rcases c2 with c | c<;>grind
theorem yq{C:Pt}{nu:Rat}(h0:0<=nu){d:Nat}:∀ st∈aK [C] d,SmQ nu st:=fun st hst q hq=>by
 obtain⟨i,hi,rfl⟩:=A7 hst;rw[tJ hi] at hq;obtain⟨a,b⟩:=vX hq;rw[a,b];exact⟨h0,h0⟩
theorem a4j{w nu:Rat}{o:Int}(h0:0<w)(ho:1<=o)(e:nu*(o:Rat)=w):0<=nu:=by
 have o1:(0:Int)<o:=by lia
 have o0:(0:Rat)<(o:Rat):=by exact_mod_cast o1
 refine b3v.mp fun k=>?_;have:=b4m k o0;rw[e,Rat.zero_mul] at this;exact absurd this (b3v.mpr (b4r h0))
theorem sm4{A B:Pt}{qs:List Pt}(hq:(∃ C,qs=[C])\/∃ C E,qs=[C,E]){w nu:Rat}{o:Int}(hw:a5u [A,B] qs 0 w)(h0:0<w)(ho:1<=o)(ho2:o<=16)(e:nu*(o:Rat)=w):nl [A,B] qs nu 4:=by
 have n0:=a4j h0 ho e;have hnu:w<=16*nu:=by
  have o2:(o:Rat)<=((16:Int):Rat):=b1s.mpr ho2;have:=b2z o2 n0;rw[e] at this;have e16:((16:Int):Rat)=16:=rfl;rw[e16] at this;grind
 intro st hst;rcases a9k.mp hst with hst | hst
 .exact om hnu (fun q hq=>hw.le [A,B] (by simp[aK]) q hq) st hst
 .rcases hq with⟨C,rfl⟩ | ⟨C,E,rfl⟩
  .exact yq n0 st hst
  .exact om hnu (fun q hq=>hw.le [C,E] (by simp[aK]) q hq) st hst
theorem qV:∀ {l:List Int} {lo hi:Int},l.Pairwise (· < ·)->(∀ x∈l,lo<=x/\x<hi)->lo<=hi->(l.length:Int)<=hi - lo
 | [],lo,hi,_,_,h=>by simp;lia
 | a::r,lo,hi,hp,hb,h=>by
   obtain⟨h1,h2⟩:=b7c.mp hp;obtain⟨a1,a2⟩:=hb a (by simp);have:=qV (lo:=a+1) (hi:=hi) h2 (fun x hx=>⟨by have:=h1 x hx;lia,(hb x (by simp[hx])).2⟩) (by lia);rw[b0r];lia
theorem xY{f:List Pl}{N:Nat}(hs:f.Pairwise fX)(hin:∀ p∈f,0<=p.2/\p.2<(N:Int))(h1:∀ p∈f,∀ p'∈f,p'.1<=p.1+1):f.length<=2*N:=by
 cases f with
 | nil=>simp
 | cons h r=>
   have first:∀ p∈h::r,h.1<=p.1:=fun p hp=>by
    rcases a9g.mp hp with rfl | hp
    .exact b3u _
    .have:=(b7c.mp hs).1 p hp;unfold fX at this;lia
   have key:((h::r).map fun p:Pl=>(p.1 - h.1)*(N:Int)+p.2).Pairwise (· < ·):=by
    rw[b5w];refine b4c.imp_of_mem (fun {a b} ha hb hab=>?_) hs;have a1:=first a ha
    have b1:=first b hb
    have a2:=h1 h (by simp) a ha;have b2:=h1 h (by simp) b hb;obtain⟨a3,a4⟩:=hin a ha;obtain⟨b3,b4⟩:=hin b hb;unfold fX at hab;have ea:a.1 - h.1=0\/a.1 - h.1=1:=by lia
    have eb:b.1 - h.1=0\/b.1 - h.1=1:=by lia
    rcases ea with ea | ea<;>rcases eb with eb | eb<;>rw[ea,eb]<;>lia
   have:=qV (lo:=0) (hi:=2*(N:Int)) key (fun x hx=>by
    obtain⟨p,hp,rfl⟩:=a9m.mp hx;have a1:=first p hp
    have a2:=h1 h (by simp) p hp;obtain⟨a3,a4⟩:=hin p hp;have ea:p.1 - h.1=0\/p.1 - h.1=1:=by lia
    rcases ea with ea | ea<;>rw[ea]<;>lia) (by lia)
   rw[a9a] at this;lia
theorem E1:∀ d,0<hp d
 | 0=>by decide
 | d+1=>by
   have:=E1 d;show 0<hp d*(1 / 2);grind
theorem a1w{P Q C:Pt}(h:uE [P,Q] [C])(u v:Rat):(u*P.1+v*P.2<=u*C.1+v*C.2\/u*Q.1+v*Q.2<=u*C.1+v*C.2)/\(u*C.1+v*C.2<=u*P.1+v*P.2\/u*C.1+v*C.2<=u*Q.1+v*Q.2):=by
 constructor
 .refine Classical.byContradiction fun k=>?_;have k1:u*C.1+v*C.2<u*P.1+v*P.2:=b8f.mp fun z=>k (.inl z);have k2:u*C.1+v*C.2<u*Q.1+v*Q.2:=b8f.mp fun z=>k (.inr z);generalize eC:u*C.1+v*C.2=c at *;generalize eP:u*P.1+v*P.2=a at *;generalize eQ:u*Q.1+v*Q.2=b at *;refine h (-u) (-v) (-(c+(if a<=b then a else b)) / 2) ⟨fun p hp=>?_,fun p hp=>?_⟩
  .simp only[a9g,a9w,or_false] at hp;rcases hp with rfl | rfl<;>grind
  .rw[a9q.mp hp];grind
 .refine Classical.byContradiction fun k=>?_;have k1:u*P.1+v*P.2<u*C.1+v*C.2:=b8f.mp fun z=>k (.inl z);have k2:u*Q.1+v*Q.2<u*C.1+v*C.2:=b8f.mp fun z=>k (.inr z);generalize eC:u*C.1+v*C.2=c at *;generalize eP:u*P.1+v*P.2=a at *;generalize eQ:u*Q.1+v*Q.2=b at *;refine h u v ((c+(if a<=b then b else a)) / 2) ⟨fun p hp=>?_,fun p hp=>?_⟩
  .simp only[a9g,a9w,or_false] at hp;rcases hp with rfl | rfl<;>grind
  .rw[a9q.mp hp];grind
theorem zT{A B C:Pt}{u v:Rat}{d i j:Nat}(hi:i<2^d)(hj:j<2^d)(hg:0<u*(B.1 - A.1)+v*(B.2 - A.2))(h1:uE (gP (aK [A,B] d) (i:Int)) [C])(h2:uE (gP (aK [A,B] d) (j:Int)) [C]):j<=i+1:=by
 rw[tI hi] at h1;rw[tI hj] at h2;obtain⟨_,a2⟩:=a1w h1 u v;obtain⟨b1,_⟩:=a1w h2 u v;simp only[ig,dO,tq] at a2 b1;have p:=E1 d;generalize hp d=s at a2 b1 p;have lin:∀ z:Rat,u*(A.1+z*s*(B.1 - A.1))+v*(A.2+z*s*(B.2 - A.2))=u*A.1+v*A.2+z*((u*(B.1 - A.1)+v*(B.2 - A.2))*s):=fun z=>by grind
 rw[lin,lin] at a2 b1;have gs:=b7i hg p;generalize (u*(B.1 - A.1)+v*(B.2 - A.2))*s=t at a2 b1 gs;generalize u*A.1+v*A.2=a at a2 b1;generalize u*C.1+v*C.2=c at a2 b1;refine b8b fun k=>?_;have kk:((((i:Int)+2:Int)):Rat)<=((j:Int):Rat):=b1s.mpr (by lia);have k2:=b2z kk (b4r gs);rw[b2y] at k2;have e2:((2:Int):Rat)=2:=rfl;rw[e2] at k2;clear kk k h1 h2 lin hg p e2;generalize ((i:Int):Rat)=x at a2 b1 k2;generalize ((j:Int):Rat)=y at a2 b1 k2;have f1:c<=a+(x+1)*t:=by
  rcases a2 with z | z<;>grind
 have f2:a+y*t<=c:=by
  rcases b1 with z | z<;>grind
 grind
theorem ug{A B C:Pt}{e:Nat}(he:e<=6){w:Rat}(hw:a5u [A,B] [C] 0 w)(h0:0<w){f:List Pl}{tt:List (Nat×Pl)}(h:aA (MQ [A,B] [C]) e f tt):f.length<=256:=by
 have i64:((2^e:Nat):Int)=(2:Int)^e:=by simp
 have dir:∃ u v:Rat,0<u*(B.1 - A.1)+v*(B.2 - A.2):=by
  obtain⟨st,hst,q,hq,ew⟩:=hw.mem;have hs:st=[A,B]\/st=[C]:=by simpa [aK] using hst
  rcases hs with rfl | rfl
  .obtain⟨⟨c1,_,_⟩,c2,_,_⟩:=qg hq;rcases ew with ew | ew
   .rcases c1 with c | c
    .exact⟨1,0,by grind⟩
    .exact⟨-1,0,by grind⟩
   .rcases c2 with c | c
    .exact⟨0,1,by grind⟩
    .exact⟨0,-1,by grind⟩
  .obtain⟨a,b⟩:=vX hq;rcases ew with ew | ew
   .rw[ew,a] at h0;exact absurd h0 (by decide)
   .rw[ew,b] at h0;exact absurd h0 (by decide)
 obtain⟨u,v,hg⟩:=dir;have fin:=h.ins.1;have all:=h.all;have:=xY (N:=2^e) h.sort (fun p hp=>by obtain⟨_,_,a,b⟩:=fin p hp;rw[<- i64] at b;exact⟨a,b⟩) (fun p hp p' hp'=>by
  obtain⟨a1,a2,a3,a4⟩:=fin p hp;obtain⟨b1,b2,b3,b4⟩:=fin p' hp';rw[<- i64] at a2 a4 b2 b4;have m1:=all p hp;have m2:=all p' hp';unfold MQ at m1 m2;have c1:gP (aK [C] e) p.2=[C]:=by rw[show p.2=((p.2.toNat:Nat):Int) by lia];exact tJ (by lia)
  have c2:gP (aK [C] e) p'.2=[C]:=by rw[show p'.2=((p'.2.toNat:Nat):Int) by lia];exact tJ (by lia)
  rw[c1,show p.1=((p.1.toNat:Nat):Int) by lia] at m1;rw[c2,show p'.1=((p'.1.toNat:Nat):Int) by lia] at m2;have:=zT (i:=p.1.toNat) (j:=p'.1.toNat) (by lia) (by lia) hg m1 m2;lia)
 have:=(a3k he).2.1;lia
noncomputable def Shp(ps qs:List Pt)(x0 x5:Int):Prop:=x0 % 3=1->(∃ A B,ps=[A,B])/\((∃ C,qs=[C])\/∃ C E,qs=[C,E]/\x5 % 4≠3)
theorem a2h{M:Nat->Pl->Prop}{e:Nat}{f:List Pl}{tt:List (Nat×Pl)}(he:e<=4)(t:aA M e f tt):f.length<=256:=by
 have:=t.len;have k:(4:Nat)^e<=4^4:=b4u (by decide) he;have e4:(4:Nat)^4=256:=by decide
 lia
theorem G5{ps qs:List Pt}{x0 x5:Int}{nu:Rat}{d e:Nat}(hs:Shp ps qs x0 x5)(hn:a6a ps qs x0 x5 nu)(hd:d<=6)(hN:∀ e,e<d->¬ nl ps qs nu e)(he:e<=d){f:List Pl}{tt:List (Nat×Pl)}(t:aA (MQ ps qs) e f tt):f.length<=256:=by
 by_cases z:d<=4
 .exact a2h (by lia) t
 .rcases hn with⟨e0,h1,h2⟩ | ⟨h0,w,o,hw,w0,o1,eo,ho⟩
  .exact absurd h2 (hN e0 (by lia))
  .obtain⟨⟨A,B,rfl⟩,hq⟩:=hs h0;by_cases k:o<=16
   .refine absurd (sm4 ?_ hw w0 o1 k eo) (hN 4 (by lia));rcases hq with⟨C,rfl⟩ | ⟨C,E,rfl,_⟩
    .exact .inl ⟨C,rfl⟩
    .exact .inr ⟨C,E,rfl⟩
   .rcases hq with⟨C,rfl⟩ | ⟨C,E,rfl,h3⟩
    .exact ug (by lia) hw w0 t
    .lia
theorem G4{B W:Pt}(hW:W≠(0,0)){d e:Nat}(hd:d<=5)(he:e<=d){f:List Pl}{tt:List (Nat×Pl)}(t:aA (MQ [B,(B.1+W.1,B.2+W.2),B] [B,(B.1+W.1,B.2+W.2),B]) e f tt):f.length<=256:=
 b8b fun k=>Y4 hW t (by lia) k
structure a2b(ps qs:List Pt)(nu:Rat)(tab:Bool):Prop where
 few:∀ d,d<=6->(tab=true->d<=5)->(∀ e,e<d->¬ nl ps qs nu e)->∀ e f tt,e<=d->aA (MQ ps qs) e f tt->f.length<=256
 many:tab=true->¬ a0h ps qs 6
theorem a2b.of{ps qs:List Pt}{x0 x5:Int}{nu:Rat}(hs:Shp ps qs x0 x5)(hn:a6a ps qs x0 x5 nu):a2b ps qs nu false:=⟨fun d hd _ hN e f tt he t=>G5 hs hn hd hN he t,fun h=>by cases h⟩
theorem a2b.fold{B W:Pt}(hW:W≠(0,0))(nu:Rat):a2b [B,(B.1+W.1,B.2+W.2),B] [B,(B.1+W.1,B.2+W.2),B] nu true:=⟨fun d hd h5 _ e f tt he t=>G4 hW (h5 rfl) he t,fun _=>Y3 hW⟩
theorem G3{A B:Pt}(h:A≠B):∃ W:Pt,W≠(0,0)/\[A,B,A]=[A,(A.1+W.1,A.2+W.2),A]:=by
 refine⟨(B.1 - A.1,B.2 - A.2),fun e=>h ?_,?_⟩
 .rw[b5e.injEq] at e;refine b6a ?_ ?_<;>grind
 .have e1:A.1+(B.1 - A.1)=B.1:=by grind
  have e2:A.2+(B.2 - A.2)=B.2:=by grind
  dsimp only;rw[e1,e2]
theorem a2y{H:Hp}{u v:V}{p q:Pt}(h1:lF H u p.1 p.2)(h2:lF H v q.1 q.2):aa H [u,v] [p,q]:=by
 refine⟨rfl,fun i x r e1 e2=>?_⟩;match i with
 | 0=>cases e1;cases e2;exact h1
 | 1=>cases e1;cases e2;exact h2
 | n+2=>simp at e1
theorem pts1{H:Hp}{u:V}{p:Pt}(h1:lF H u p.1 p.2):aa H [u] [p]:=by
 refine⟨rfl,fun i x r e1 e2=>?_⟩;match i with
 | 0=>cases e1;cases e2;exact h1
 | n+1=>simp at e1
theorem xL.tail{H:Hp}{v:V}{ys:List V}{p:Pl}{fl:List Pl}{ps qs:List Pt}{d:Nat}(h:xL H (v::ys) (p::fl) ps qs d):xL H ys fl ps qs d:=
 ⟨by have:=h.len;simpa using this,fun i w r e1 e2=>h.get (i+1) w r (by simpa using e1) (by simpa using e2)⟩
theorem xL.tup{H H':Hp}{ys:List V}{fl:List Pl}{ps qs:List Pt}{d:Nat}(h:xL H ys fl ps qs d)(s:bR H H'):xL H' ys fl ps qs d:=
 ⟨h.len,fun i v p e1 e2=>by obtain⟨t,w,q1,q2,r1,r2,r3,r4,r5⟩:=h.get i v p e1 e2;exact⟨t,w,q1,q2,r1,s _ _ r2,r3,r4,r5.tup s⟩⟩
noncomputable def Z2(p:Pl)(q:nT):b1p:=.tuple [.int p.1,.int p.2,ka q.l q.b q.r q.t]
theorem Z1(p:Pl)(q:nT):a9y 6 (Z2 p q)=true:=by
 simp[Z2,ka,gi,a9y]
theorem zP{ps qs:List Pt}{d:Nat}:∀ {fl:List Pl} {H:Hp} {ys:List V},xL H ys fl ps qs d->∃ ds:List b1p,(∀ x∈ds,a9y 6 x=true)/\∀ {K:a8z} {H':Hp} {ys':List V},xL H' ys' fl ps qs d->bj K H' ds ys'
 | [],H,ys,h=>⟨[],fun x hx=>by simp at hx,fun {K H' ys'} h'=>by
    have:ys'=[]:=List.eq_nil_of_length_eq_zero h'.len;subst this;unfold bj;rfl⟩
 | p::fl,H,[],h=>by have:=h.len;simp at this
 | p::fl,H,v::ys,h=>by
   obtain⟨ds,h1,h2⟩:=zP h.tail;obtain⟨t,w,q1,q2,r1,r2,r3,r4,r5⟩:=h.get 0 v p rfl rfl;refine⟨Z2 p (cmB q1 q2)::ds,fun x hx=>?_,fun {K H' ys'} h'=>?_⟩
   .rcases a9g.mp hx with rfl | hx
    .exact Z1 _ _
    .exact h1 x hx
   .cases ys' with
    | nil=>have:=h'.len;simp at this
    | cons v' ys'=>
      obtain⟨t',w',q1',q2',e1,e2,e3,e4,e5⟩:=h'.get 0 v' p rfl rfl;have u1:=e3.uniq r3;have u2:=e4.uniq r4;subst u1 u2;obtain⟨b,v1,v2,v3,v4,f0,f1,f2,f3,f4,f5⟩:=e5.ex;unfold bj;refine⟨v',ys',rfl,?_,h2 h'.tail⟩;rw[e1];unfold Z2 Dn;refine⟨t',_,rfl,aj.of e2,?_⟩;unfold bj;refine⟨_,_,rfl,by unfold Dn;rfl,?_⟩;unfold bj;refine⟨_,_,rfl,by unfold Dn;rfl,?_⟩;unfold bj;refine⟨_,_,rfl,?_,by unfold bj;rfl⟩;rw[f0];exact G9 f1 f2 f3 f4 f5
theorem a1d{K:a8z}{H:Hp}{ys:List V}{ds:List b1p}{l:Addr}(hl:H l=some (.lst ys))(h:bj K H ds ys):Dn K H (.list ds) (.ref l):=by
 unfold Dn;exact⟨l,ys,rfl,o7.of hl,h⟩
theorem Y7{K:a8z}{H:Hp}{c l:Addr}{n:Int}{d2:b1p}(hc:H c=some (.tup [.int n,.ref l]))(h2:Dn K H d2 (.ref l)):Dn K H (.tuple [.int n,d2]) (.ref c):=by
 unfold Dn;exact⟨c,_,rfl,aj.of hc,by unfold bj;exact⟨_,_,rfl,by unfold Dn;rfl,by unfold bj;exact⟨_,_,rfl,h2,by unfold bj;rfl⟩⟩⟩
theorem zO{K:a8z}{H:Hp}{c l:Addr}{n:Int}{ds:List b1p}(hc:H c=some (.tup [.int n,.ref l]))(h:Dn K H (.list ds) (.ref l)):Dn K H (.tuple [.int n,.list ds]) (.ref c):=Y7 hc h
theorem a1c{ds:List b1p}{n:Int}(h:∀ x∈ds,a9y 6 x=true):a9y 8 (.tuple [.int n,.list ds])=true:=by
 simp[a9y];exact h
theorem ptsT{H:Hp}{u v w:V}{a b c:Pt}(h1:lF H u a.1 a.2)(h2:lF H v b.1 b.2)(h3:lF H w c.1 c.2):aa H [u,v,w] [a,b,c]:=by
 refine⟨rfl,fun i x p e1 e2=>?_⟩;match i with
 | 0=>cases e1;cases e2;exact h1
 | 1=>cases e1;cases e2;exact h2
 | 2=>cases e1;cases e2;exact h3
 | n+3=>simp at e1
end Cv
namespace Cv
open PySem L2
theorem mr{H:Hp}{ws:List V}{ps:List Pt}(P:aa H ws ps)(h:1<=ps.length):∃ (v0 v1:V) (q0 q1:Pt),ws[0]?=some v0/\ws[ws.length - 1]?=some v1/\lF H v0 q0.1 q0.2/\lF H v1 q1.1 q1.2/\q0∈ps/\q1∈ps:=by
 have e:=P.len;have a:=a8y (l:=ws) (i:=0) (by lia);have b:=a8y (l:=ws) (i:=ws.length - 1) (by lia);have c:=a8y (l:=ps) (i:=0) (by lia);have d:=a8y (l:=ps) (i:=ws.length - 1) (by lia);exact⟨_,_,_,_,a,b,P.get _ _ _ a c,P.get _ _ _ b d,a9n _,a9n _⟩
theorem a4c{c x:Bool}{H:Hp}{F:Bool->Hp->Prop}{N:(Bool->Hp->Prop)->Prop}(h1:c=true->x=true)(h2:∀ F':Bool->Hp->Prop,F' x H->c=false->N F')(hx:F x H):if c=true then F true H else N F:=by
 cases c with
 | true=>rw[if_pos rfl,<- h1 rfl];exact hx
 | false=>rw[if_neg (by decide)];exact h2 F hx rfl
end Cv
namespace Cv
open PySem PySem.Spec PyProof.Rows L2
noncomputable def FH(K:a8z)(x:Str)(st:Stmt):Prop:=∃ (f:Addr) (od an:Option Addr) (sl:Array (Option Value)) (oc kV dc pm cd ct:Value),b0b K a12 x=some (some (.ref f))/\K.lookup f=some ⟨oc,od,.func (b1n x x (bu st) (x8 st) (d4 st) .none kV dc pm an cd ct),sl⟩/\b2l K cd x=true/\b1h K (.ref f)=true
theorem FH.mk{K:a8z}{x:Str}{st:Stmt}{f:Addr}{od an:Option Addr}{sl:Array (Option Value)}{oc kV dc pm cd ct:Value}(a:b0b K a12 x=some (some (.ref f)))(l:K.lookup f=some ⟨oc,od,.func (b1n x x (bu st) (x8 st) (d4 st) .none kV dc pm an cd ct),sl⟩)(c:b2l K cd x=true)(k:b1h K (.ref f)=true):FH K x st:=⟨f,od,an,sl,oc,kV,dc,pm,cd,ct,a,l,c,k⟩
theorem FH.fn{K:a8z}{x:Str}{st:Stmt}{ps:List Str}{mg:Str->Option Value}{h:Heap}(e:FH K x st)(KX:K.In h)(GN:h.Ns a12 mg)(b:∀ (kV doc pm:Value) (an:Option Addr) (cdv ct:Value) (us:List Value),us.length=ps.length->a99 (b1n x x (bu st) (x8 st) (d4 st) .none kV doc pm an cdv ct) ⟨us,[]⟩=pure (ps.zip us)):j4 K mg x st ps:=by
 obtain⟨f,od,an,sl,oc,kV,dc,pm,cd,ct,a,l,c,k⟩:=e;exact j4.mk' (b2c KX GN a) l c k b
structure He(D E:kl):Prop where
 nx:∀ σ H,D.nx σ H->E.nx σ H
 rt:∀ v H,D.rt v H->E.rt v H
 bk:∀ σ H,D.bk σ H->E.bk σ H
 ct:∀ σ H,D.ct σ H->E.ct σ H
structure Hq(F Q:VK):Prop where
 of:∀ v H,F v H->Q v H
structure Hb(F Q:Bool->Hp->Prop):Prop where
 of:∀ v H,F v H->Q v H
section
variable {a b:TS} {te:TE} {c:TT} {g:TG} {D E:kl} {σ:L2.St} {H:Hp} {F Q:VK} {v:V} {G P:Bool->Hp->Prop} {z:Bool}
theorem hSeq(h:∀ E,He { D with nx:=b D } E->a E σ H):a2k a b D σ H:=h _ ⟨fun _ _ h=>h,fun _ _ h=>h,fun _ _ h=>h,fun _ _ h=>h⟩
theorem hAsg(h:∀ Q,Hq (fun x H1=>g x σ H1 D.nx) Q->te σ H Q):qG te g D σ H:=h _ ⟨fun _ _ h=>h⟩
theorem a8h(h:∀ Q,Hq (fun _ H1=>D.nx σ H1) Q->te σ H Q):yj te D σ H:=h _ ⟨fun _ _ h=>h⟩
theorem hIf(h:∀ Q,Hb (fun z H1=>if z=true then a D σ H1 else b D σ H1) Q->c σ H Q):a2m c a b D σ H:=h _ ⟨fun _ _ h=>h⟩
theorem uNx(e:He D E)(h:D.nx σ H):E.nx σ H:=e.nx _ _ h
theorem uRt(e:He D E)(h:D.rt v H):E.rt v H:=e.rt _ _ h
theorem uBk(e:He D E)(h:D.bk σ H):E.bk σ H:=e.bk _ _ h
theorem uCt(e:He D E)(h:D.ct σ H):E.ct σ H:=e.ct _ _ h
theorem uQ(e:Hq F Q)(h:F v H):Q v H:=e.of _ _ h
theorem uB(e:Hb G P)(h:G z H):P z H:=e.of _ _ h
end
end Cv
set_option maxHeartbeats 4000000
namespace Cv
open PySem L2
local macro_rules | `(tactic| walk_at "hf") => `(tactic| first
 | assumption
 | exact b7
 | (refine aQ (by assumption) ?_;walk_at "hf")
 | (refine (by assumption:L2.b9 _ _) _ _ ?_;walk_at "hf")
 | fail)
local macro_rules | `(tactic| walk_at "sm") => `(tactic| first
 | assumption
 | exact L2.b9.refl _
 | (refine L2.b9.trans ?_ (by assumption:L2.b9 _ _);walk_at "sm")
 | (refine L2.b9.trans ?_ (b9.new (by assumption));walk_at "sm")
 | fail)
local macro_rules | `(tactic| walk_at "mv") => `(tactic| first
 | assumption
 | (refine aa.same ?_ (by assumption:L2.b9 _ _);walk_at "mv")
 | (refine xP.same ?_ (by assumption:L2.b9 _ _);walk_at "mv")
 | (refine xP.same ?_ (b9.new (by assumption));walk_at "mv")
 | (refine o7.same' ?_ (by assumption:L2.b9 _ _);walk_at "mv")
 | (refine o7.same' ?_ (b9.new (by assumption));walk_at "mv")
 | fail)
local macro_rules | `(tactic| walk_at "sq") => `(tactic| first
 | exact aj.of (by walk_at "hf")
 | exact o7.of (by walk_at "hf")
 | walk_at "mv"
 | fail)
local macro_rules | `(tactic| walk_at "at") => `(tactic| first
 | rfl
 | assumption
 | exact vY _ _ (by lia) (by lia)
 | fail)
local macro_rules | `(tactic| walk_at "sz") => `(tactic| first
 | assumption
 | exact Sz.one
 | exact Sz.mul (by walk_at "sz") (by walk_at "sz")
 | exact Sz.add (by walk_at "sz") (by walk_at "sz")
 | exact Sz.neg (by walk_at "sz")
 | fail)
local macro_rules | `(tactic| walk_at "arith") => `(tactic| first
 | exact a7r
 | exact pl
 | exact⟨by decide,by decide⟩
 | exact U6 (by decide) (by decide)
 | exact a4l (by decide) (by decide)
 | exact a4l (by lia) (by lia)
 | exact U6 (by lia) (by lia)
 | exact tD (by walk_at "sz") (by walk_at "sz")
 | fail)
local macro_rules | `(tactic| walk_at "len") => `(tactic| first
 | (show 2<=sizeLine;decide)
 | (show 0<=sizeLine;decide)
 | (show 1<=sizeLine;decide)
 | (show 3<=sizeLine;decide)
 | (show 4<=sizeLine;decide)
 | fail)
local macro_rules | `(tactic| walk_at "r1") => `(tactic| first
 | refine⟨_,_,rfl,rfl,by walk_at "arith",?_⟩
 | refine⟨_,_,rfl,rfl,?_⟩
 | refine⟨_,_,_,_,rfl,rfl,by walk_at "sq",by walk_at "at",?_⟩
 | refine⟨_,rfl,?_⟩
 | refine⟨rfl,?_⟩
 | refine⟨_,_,rfl,.inr (aj.of (by walk_at "hf")),?_⟩
 | refine⟨_,_,rfl,.inl (o7.of (by walk_at "hf")),?_⟩
 | refine⟨_,"tuple",_,_,rfl,fD.tup (by walk_at "hf"),a4t _,?_⟩
 | refine⟨_,"list",_,_,rfl,fD.lst (by walk_at "hf"),a4u _,?_⟩
 | refine⟨by walk_at "len",?_⟩
 | refine⟨by decide,?_⟩
 | fail)
local macro_rules | `(tactic| walk_at "rd") => `(tactic| repeat walk_at "r1")
local macro_rules | `(tactic| walk_at "hd") => `(tactic| with_reducible first | refine hSeq (fun _ _ => ?_) | refine hAsg (fun _ _ => ?_) | refine hIf (fun _ _ => ?_) | refine a8h (fun _ _ => ?_) | fail)
local macro_rules | `(tactic| walk_at "cd") => `(tactic| first | refine uQ (by assumption) ?_ | refine uB (by assumption) ?_ | refine uNx (by assumption) ?_ | refine uRt (by assumption) ?_ | refine uCt (by assumption) ?_ | refine uBk (by assumption) ?_ | fail)
local macro_rules | `(tactic| walk_at "rz") => `(tactic| repeat first | walk_at "hd" | walk_at "r1" | walk_at "cd")
structure a8v(K:a8z)(mg:Str->Option Value)(b31 b32 b33 b34 b35:Addr)(b36 t_MOST_LEVEL:Tok):Prop where
 MOST_PAIRS:mg "MOST_PAIRS" = some (.int 256 b36)
 PLAIN_WAYS:mg "PLAIN_WAYS" = some (.ref b31)
 pPLAIN_WAYS:∀ H,aj K H b31 [.ref b32,.ref b33,.ref b34,.ref b35]
 wPLAIN_WAYS:∀ H,aj K H b32 [.int (1),.int (0)]/\aj K H b33 [.int (-1),.int (0)]/\aj K H b34 [.int (0),.int (1)]/\aj K H b35 [.int (0),.int (-1)]
 MOST_LEVEL:mg "MOST_LEVEL" = some (.int 6 t_MOST_LEVEL)
structure Exc(K:a8z)(mg:Str->Option Value)(b37 b38 C_NoShare:Addr):Prop where
 SeatError:mg "SeatError" = some (.ref b37)
 TooMany:mg "TooMany" = some (.ref b38)
 NoShare:mg "NoShare" = some (.ref C_NoShare)
 xTooMany:L6 K mg "TooMany" b38
 mTooMany:b5t K (.ref b38) (.ref b37)=some true
 vTooMany:b1i K (.ref b38) (.type "ValueError")=some true
 sTooMany:b5t K (.ref b38) (.ref b38)=some true
 nTooMany:L5 K b38
 fTooMany_NoShare:b1i K (.ref b38) (.ref C_NoShare)=some false
noncomputable def bi(i:Nat):Stmt:=PySem.Challenge.pw_curveseat_k65_near.main.body.getD i (.Pass ⟨0,0,0,0⟩)
abbrev bC:Stmt:=bi 5
theorem dA:j6 ["one","other"] ["one","other"] (d4 bC):=⟨rfl,rfl,rfl,by decide,rfl,by decide,by decide⟩
abbrev kZ:Stmt:=bi 6
theorem lT:j6 ["top","bottom","common"] ["top","bottom"] (d4 kZ):=⟨rfl,rfl,rfl,by decide,rfl,by decide,by decide⟩
abbrev kY:Stmt:=bi 7
theorem yv:j6 ["one","other"] ["one","other"] (d4 kY):=⟨rfl,rfl,rfl,by decide,rfl,by decide,by decide⟩
abbrev bN:Stmt:=bi 9
theorem aF:j6 ["shares","found","whole","one","more"] ["shares"] (d4 bN):=⟨rfl,rfl,rfl,by decide,rfl,by decide,by decide⟩
abbrev gI:Stmt:=bi 10
theorem eZ:j6 ["numbers","found","number"] ["numbers"] (d4 gI):=⟨rfl,rfl,rfl,by decide,rfl,by decide,by decide⟩
abbrev dh:Stmt:=bi 11
theorem bS:j6 ["top","bottoms","below","bottom","common"] ["top","bottoms"] (d4 dh):=⟨rfl,rfl,rfl,by decide,rfl,by decide,by decide⟩
abbrev md:Stmt:=bi 12
theorem pD:j6 ["shares","bottoms","whole"] ["shares"] (d4 md):=⟨rfl,rfl,rfl,by decide,rfl,by decide,by decide⟩
abbrev jL:Stmt:=bi 13
theorem O2:j6 ["points"] ["points"] (d4 jL):=⟨rfl,rfl,rfl,by decide,rfl,by decide,by decide⟩
abbrev jh:Stmt:=bi 16
theorem yw:j6 ["places","way"] ["places","way"] (d4 jh):=⟨rfl,rfl,rfl,by decide,rfl,by decide,by decide⟩
abbrev cS:Stmt:=bi 17
theorem lS:j6 ["ones","others","i","j"] ["ones","others","i","j"] (d4 cS):=⟨rfl,rfl,rfl,by decide,rfl,by decide,by decide⟩
abbrev cy:Stmt:=bi 18
theorem kI:j6 ["one","other"] ["one","other"] (d4 cy):=⟨rfl,rfl,rfl,by decide,rfl,by decide,by decide⟩
abbrev li:Stmt:=bi 19
theorem lU:j6 ["ones","others","way","fore","behind","most","least"] ["ones","others","way"] (d4 li):=⟨rfl,rfl,rfl,by decide,rfl,by decide,by decide⟩
abbrev fe:Stmt:=bi 20
theorem qT:j6 ["right","left"] ["right","left"] (d4 fe):=⟨rfl,rfl,rfl,by decide,rfl,by decide,by decide⟩
abbrev jb:Stmt:=bi 21
theorem aM:j6 ["ones","others","way","most","least","found","right","left"] ["ones","others"] (d4 jb):=⟨rfl,rfl,rfl,by decide,rfl,by decide,by decide⟩
abbrev dU:Stmt:=bi 22
theorem dg:j6 ["line","x_bottom","y_bottom","room","a","b","c"] ["line","x_bottom","y_bottom","room"] (d4 dU):=⟨rfl,rfl,rfl,by decide,rfl,by decide,by decide⟩
abbrev fh:Stmt:=bi 26
theorem qU:j6 ["seats","level"] ["seats","level"] (d4 fh):=⟨rfl,rfl,rfl,by decide,rfl,by decide,by decide⟩
abbrev bU:Stmt:=bi 27
theorem lR:j6 ["xs","ys","room"] ["xs","ys","room"] (d4 bU):=⟨rfl,rfl,rfl,by decide,rfl,by decide,by decide⟩
abbrev fL:Stmt:=bi 28
theorem gH:j6 ["curve","first","second","row"] ["curve"] (d4 fL):=⟨rfl,rfl,rfl,by decide,rfl,by decide,by decide⟩
abbrev fM:Stmt:=bi 29
theorem wC:j6 ["curves"] ["curves"] (d4 fM):=⟨rfl,rfl,rfl,by decide,rfl,by decide,by decide⟩
abbrev aG:Stmt:=vK (bi 30) 0
theorem bn:j6 ["self","one","other","level","xs","ys","both"] ["self","one","other","level"] (d4 aG):=⟨rfl,rfl,rfl,by decide,rfl,by decide,by decide⟩
abbrev aN:Stmt:=vK (bi 30) 1
theorem iZ:j6 ["self"] ["self"] (d4 aN):=⟨rfl,rfl,rfl,by decide,rfl,by decide,by decide⟩
abbrev bV:Stmt:=bi 31
theorem lV:j6 ["pairs"] ["pairs"] (d4 bV):=⟨rfl,rfl,rfl,by decide,rfl,by decide,by decide⟩
abbrev ja:Stmt:=bi 32
theorem cJ:j6 ["ground","pairs","x_bottom","y_bottom","found","thrown","i","j","line","steps"] ["ground","pairs"] (d4 ja):=⟨rfl,rfl,rfl,by decide,rfl,by decide,by decide⟩
abbrev gJ:Stmt:=bi 33
theorem cW:j6 ["one","other","level","ground","pairs","thrown","told","depth"] ["one","other","level"] (d4 gJ):=⟨rfl,rfl,rfl,by decide,rfl,by decide,by decide⟩
abbrev cm:Stmt:=bi 34
theorem iU:j6 ["part","across","up"] ["part"] (d4 cm):=⟨rfl,rfl,rfl,by decide,rfl,by decide,by decide⟩
abbrev cn:Stmt:=bi 35
theorem bM:j6 ["ground","nearness","top","bottom","most_x","most_y","boxes"] ["ground","nearness"] (d4 cn):=⟨rfl,rfl,rfl,by decide,rfl,by decide,by decide⟩
abbrev fg:Stmt:=bi 36
theorem ck:j6 ["ground","part","left","low","right","high","x_bottoms","y_bottoms"] ["ground","part"] (d4 fg):=⟨rfl,rfl,rfl,by decide,rfl,by decide,by decide⟩
abbrev jc:Stmt:=bi 37
theorem wA:j6 ["one","other"] ["one","other"] (d4 jc):=⟨rfl,rfl,rfl,by decide,rfl,by decide,by decide⟩
abbrev gS:Stmt:=bi 38
theorem sP:j6 ["one","other"] ["one","other"] (d4 gS):=⟨rfl,rfl,rfl,by decide,rfl,by decide,by decide⟩
abbrev di:Stmt:=bi 39
theorem nE:j6 ["one","other"] ["one","other"] (d4 di):=⟨rfl,rfl,rfl,by decide,rfl,by decide,by decide⟩
abbrev fK:Stmt:=bi 40
theorem dS:j6 ["one","other","nearness","ground","level","pairs","thrown","ones","others"] ["one","other","nearness"] (d4 fK):=⟨rfl,rfl,rfl,by decide,rfl,by decide,by decide⟩
abbrev dY:Stmt:=bi 42
theorem pC:j6 ["_law_script","_law_k"] ["_law_script","_law_k"] (d4 dY):=⟨rfl,rfl,rfl,by decide,rfl,by decide,by decide⟩
abbrev fi:Stmt:=bi 43
theorem cX:j6 ["_law_cell","_law_place","_law_number","_law_some","_law_k"] ["_law_cell","_law_place"] (d4 fi):=⟨rfl,rfl,rfl,by decide,rfl,by decide,by decide⟩
abbrev gK:Stmt:=bi 44
theorem sO:j6 ["_law_found"] ["_law_found"] (d4 gK):=⟨rfl,rfl,rfl,by decide,rfl,by decide,by decide⟩
abbrev je:Stmt:=bi 45
theorem oo:j6 ["_law_one","_law_other"] ["_law_one","_law_other"] (d4 je):=⟨rfl,rfl,rfl,by decide,rfl,by decide,by decide⟩
abbrev gM:Stmt:=bi 46
theorem lZ:j6 ["_law_top","_law_bottom","_law_part_here"] ["_law_top","_law_bottom"] (d4 gM):=⟨rfl,rfl,rfl,by decide,rfl,by decide,by decide⟩
abbrev cT:Stmt:=bi 48
theorem p5:j6 ["_law_script","_law_most_here","_law_head","_law_s","_law_scale","_law_far","_law_bottom","_law_both","_law_k","_law_seats","_law_j","_law_cell","_law_r","_law_x","_law_y"] ["_law_script","_law_most_here"] (d4 cT):=⟨rfl,rfl,rfl,by decide,rfl,by decide,by decide⟩
abbrev bv:Stmt:=bi 49
theorem bf:j6 ["_law_curve","_law_bottom","_law_place","_law_one"] ["_law_curve"] (d4 bv):=⟨rfl,rfl,rfl,by decide,rfl,by decide,by decide⟩
abbrev dB:Stmt:=bi 50
theorem bE:j6 ["_law_some","_law_n","_law_row","_law_left","_law_right","_law_k"] ["_law_some"] (d4 dB):=⟨rfl,rfl,rfl,by decide,rfl,by decide,by decide⟩
abbrev bW:Stmt:=bi 51
theorem ai:j6 ["_law_curve","_law_level_here","_law_bottom","_law_some","_law_found","_law_turn","_law_halves","_law_one"] ["_law_curve","_law_level_here"] (d4 bW):=⟨rfl,rfl,rfl,by decide,rfl,by decide,by decide⟩
abbrev jg:Stmt:=bi 52
theorem wB:j6 ["_law_one","_law_other"] ["_law_one","_law_other"] (d4 jg):=⟨rfl,rfl,rfl,by decide,rfl,by decide,by decide⟩
abbrev gQ:Stmt:=bi 53
theorem fc:j6 ["_law_some","_law_found","_law_one"] ["_law_some"] (d4 gQ):=⟨rfl,rfl,rfl,by decide,rfl,by decide,by decide⟩
abbrev jf:Stmt:=bi 54
theorem gG:j6 ["_law_some","_law_found","_law_one"] ["_law_some"] (d4 jf):=⟨rfl,rfl,rfl,by decide,rfl,by decide,by decide⟩
abbrev gR:Stmt:=bi 55
theorem ma:j6 ["_law_seats","_law_xs","_law_ys"] ["_law_seats"] (d4 gR):=⟨rfl,rfl,rfl,by decide,rfl,by decide,by decide⟩
abbrev jd:Stmt:=bi 56
theorem gE:j6 ["_law_frame","_law_sides","_law_k","_law_low","_law_high"] ["_law_frame"] (d4 jd):=⟨rfl,rfl,rfl,by decide,rfl,by decide,by decide⟩
abbrev eM:Stmt:=bi 57
theorem lW:j6 ["_law_one","_law_other","_law_level_here","_law_some"] ["_law_one","_law_other","_law_level_here"] (d4 eM):=⟨rfl,rfl,rfl,by decide,rfl,by decide,by decide⟩
abbrev dX:Stmt:=bi 58
theorem iV:j6 ["_law_one","_law_other","_law_nearness_here","e"] ["_law_one","_law_other","_law_nearness_here"] (d4 dX):=⟨rfl,rfl,rfl,by decide,rfl,by decide,by decide⟩
abbrev bo:Stmt:=bi 59
theorem aR:j6 ["_law_found","_law_one","_law_other","_law_level_here","_law_pairs","_law_ones","_law_others","_law_told","_law_first","_law_second","_law_low","_law_high"] ["_law_found","_law_one","_law_other","_law_level_here"] (d4 bo):=⟨rfl,rfl,rfl,by decide,rfl,by decide,by decide⟩
abbrev gO:Stmt:=bi 60
theorem io:j6 ["_law_one","_law_other","_law_nearness_here","_law_due"] ["_law_one","_law_other","_law_nearness_here"] (d4 gO):=⟨rfl,rfl,rfl,by decide,rfl,by decide,by decide⟩
abbrev cz:Stmt:=bi 61
theorem bT:j6 ["_law_one","_law_other","_law_s","_law_wide","_law_often","_law_found"] ["_law_one","_law_other","_law_s"] (d4 cz):=⟨rfl,rfl,rfl,by decide,rfl,by decide,by decide⟩
abbrev eJ:Stmt:=bi 62
theorem ce:j6 ["_law_script","_law_one","_law_other","_law_s","_law_nearness_here","_law_there_and_back","_law_wide","_law_due","_law_found","_law_kept"] ["_law_script"] (d4 eJ):=⟨rfl,rfl,rfl,by decide,rfl,by decide,by decide⟩
section
variable {P:a15} {w:a20} {K:a8z} {mg:Str->Option Value} {base:Heap}
theorem pQ(F:j4 K mg "_law_cell_at" dY ["_law_script","_law_k"])(B:nt mg):i7 P w K mg base z8 1 "_law_cell_at" ["_law_script","_law_k"] (sM K):=by
 refine o5 F pC (fun vs H Q E h=>?_) (fun f cdv A outer s H vs Q E hr h=>?_)
 .obtain⟨a,ns,i,rfl,_⟩:=h;rfl
 obtain⟨a,ns,i,rfl,hS,h0,k⟩:=h;have hu:=hr.units;refine⟨_,(b8 (aw (p9 kz (f8 1) (o9 (bz K) (by rfl) B.len PySem.boot_len (a8 (f8 0) a9)) (v8 _)) (e9 (j5 (g6 (j3 K) (f8 0) (f8 1) (fun _ _=>rfl)))) w8) (e9 (j5 b6))),?_⟩;refine⟨_,rfl,_,rfl,a,_,rfl,.inl hS,_,_,rfl,rfl,_,rfl,gX (fun hn=>?_) (fun hn=>?_)⟩
 .rw[a9a] at hn;refine⟨_,rfl,_,rfl,a,_,_,_,rfl,rfl,hS,vY ns i h0 hn,?_⟩;exact k _
 .exact k 0
theorem wV(F:j4 K mg "_law_part" je ["_law_one","_law_other"]):i7 P w K mg base z8 1 "_law_part" ["_law_one","_law_other"] sJ:=by
 refine o5 F oo (fun vs H Q E h=>?_) (fun f cdv A outer s H vs Q E hr h=>?_)
 .obtain⟨a,b,rfl,_⟩:=h;rfl
 obtain⟨a,b,rfl,h0,h1,k⟩:=h;have hu:=hr.units;refine⟨_,(b8 (dk PassesOwn.never (p9 kA (f8 1) b6 (v8 _)) (e9 (cB (i:=0) (j:=1) rfl oo.nd rfl rfl (by decide) rfl rfl (a8 (f8 1) (a8 (d8 aI (f8 0) (f8 1)) a9)) rfl))) (e9 (j5 (f8 0)))),?_⟩;refine lH (fun σ H'=>∃ x y:Int,σ=[some (.int x),some (.int y)]/\H'=H/\0<=x/\0<=y/\a9r x y=a9r a b) (fun σ _=>match σ with | [_,some (.int y)]=>y.natAbs | _=>0) ⟨a,b,rfl,rfl,h0,h1,rfl⟩ ?_ ?_
 .rintro σ H' ⟨x,y,rfl,rfl,hx,hy,e⟩;refine⟨_,rfl,_,_,rfl,rfl,_,rfl,gX (fun hn=>?_) (fun hn=>?_)⟩
  .refine⟨_,rfl,_,rfl,_,rfl,_,_,rfl,rfl,hn,_,_,rfl,⟨_,_,rfl,rfl,hy,b4e x (by lia),?_⟩,?_⟩
   .rw[G7 x y hn];exact e
   .show (x % y).natAbs<y.natAbs;have:=b7d x hn;have:=b4e x (b:=y) (by lia);lia
  .refine⟨_,rfl,?_⟩;have hy0:y=0:=by lia
   subst hy0;rw[Int.gcd_zero] at e;have:x=(a9r a b:Int):=by lia
   show Q (.int x) H';rw[this];exact k
 .rintro σ H' Q Q' hq ⟨v,h1,i,j,e1,e2,b',e3,h3⟩;exact⟨v,h1,i,j,e1,e2,b',e3,hq _ _ h3⟩
theorem tf(F:j4 K mg "_law_share" gM ["_law_top","_law_bottom"])(B:nt mg)(b39:i7 P w K mg base z8 1 "_law_part" ["_law_one","_law_other"] sJ):i7 P w K mg base z8 2 "_law_share" ["_law_top","_law_bottom"] eG:=by
 refine o5 F lZ (fun vs H Q E h=>?_) (fun f cdv A outer s H vs Q E hr h=>?_)
 .obtain⟨a,b,rfl,_⟩:=h;rfl
 obtain⟨t,b,rfl,hb,hz,k⟩:=h;have hu:=hr.units;refine⟨_,(b8 (i5 (i:=2) lZ.nd rfl (Or.inl rfl) (i6 b39 hr j7 (a8 (o9 se (by rfl) B.abs b9j (a8 (f8 0) a9)) (a8 (f8 1) a9)))) (e9 (j5 (n4 (a8 (d8 bH (f8 0) (f8 2)) (a8 (d8 bH (f8 1) (f8 2)) a9)))))),?_⟩;have g0:(a9r t b:Int)≠0:=rQ t b (by lia);have gz:Sz 9000 (a9r t b:Int):=hz.le (by
  rw[b5m];exact b9t (by lia) (b7v t b))
 refine⟨_,rfl,_,rfl,_,rfl,_,_,rfl,(by split<;>lia),by lia,?_⟩;rw[X5];refine⟨_,rfl,_,rfl,_,_,rfl,rfl,⟨g0,gz⟩,_,rfl,_,rfl,_,_,rfl,rfl,⟨g0,gz⟩,(by show 2<=sizeLine;decide),fun p hp=>?_⟩;have e:=jK t b hb;refine k _ _ (b9.new hp) ⟨p,rfl,?_⟩;rw[b7,<- e.1,<- e.2]
theorem rl(F:j4 K mg "_law_stream" fi ["_law_cell","_law_place"])(B:nt mg):i7 P w K mg base z8 1 "_law_stream" ["_law_cell","_law_place"] lL:=by
 refine o5 F cX (fun vs H Q E h=>?_) (fun f cdv A outer s H vs Q E hr h=>?_)
 .obtain⟨c,p,rfl,_⟩:=h;rfl
 obtain⟨c,p,rfl,k⟩:=h;have hu:=hr.units;refine⟨_,(b8 (i5 (i:=2) cX.nd rfl (Or.inl rfl) (d8 aI (d8 z9 (f8 0) (d8 k8 b6 (f8 1))) b6)) (b8 (i5 (i:=3) cX.nd rfl (Or.inl rfl) (u0 a9)) (b8 (aP PassesOwn.never rfl (bG rfl B.range (a8 b6 a9)) (g8 (i:=4) cX.nd rfl (Or.inl rfl)) (b8 (i5 (i:=2) cX.nd rfl (Or.inl rfl) (d8 aI (d8 z9 (d8 z9 (d8 k8 (f8 2) b6) (d8 k8 b6 (f8 4))) b6) b6)) (e9 (aC (show ao _ _ (qp K _ _ _ _) from (bQ b0c b0p b0q aO (f8 3) (a8 (d8 fq (f8 2) b6) a9))))))) (e9 (j5 (cq (fJ K) (f8 3) (bF b6) cY)))))),?_⟩;refine⟨_,rfl,_,rfl,_,_,rfl,rfl,U6 (by decide) (by decide),_,_,rfl,rfl,_,_,rfl,rfl,pl,(b1m _),fun l hl=>?_⟩;refine⟨25,rfl,by decide,by decide,cN (n:=25) (fun i σ H'=>∃ (x:Int) (xs:List Int) (y:Option V),σ=[some (.int c),some (.int p),some (.int x),some (.ref l),y]/\b9 H H'/\H' l=some (.lst (xs.map V.int))/\xs.length=i/\∀ z∈xs,0<=z) ⟨_,[],none,rfl,b9.new hl,b7,rfl,fun _ h=>nomatch h⟩ ?_ ?_⟩
 .rintro i σ H2 hi ⟨x,xs,y,rfl,s2,h2,hlen,hx⟩;refine⟨_,rfl,_,_,rfl,rfl,a4l (by decide) (by decide),_,rfl,_,_,rfl,rfl,U6 (by decide) (by decide),_,_,rfl,rfl,_,_,rfl,rfl,_,_,rfl,rfl,pl,?_⟩;refine⟨_,rfl,.inl ⟨rfl,_,o7.of h2⟩,_,rfl,_,_,rfl,rfl,⟨by decide,by decide⟩,l,_,_,rfl,rfl,h2,?_,?_⟩
  .rw[a9a,hlen];exact wx (by lia)
  .refine⟨_,xs++[(x*48271+2*(0+(i:Int))+11) % 2147483647 / 64],_,rfl,fun b o e=>?_,?_,?_,?_⟩
   .rw[i9 (n8 e hl)];exact s2 b o e
   .rw[b7,b2w];rfl
   .rw[a9b,hlen];rfl
   .intro z hz;rcases a9k.mp hz with hz | hz
    .exact hx z hz
    .cases a9q.mp hz;have:=b4e (x*48271+2*(0+(i:Int))+11) (b:=2147483647) (by decide);exact Int.ediv_nonneg this (by decide)
 .rintro σ H2 ⟨x,xs,y,rfl,s2,h2,hlen,hx⟩;refine⟨_,rfl,1,rfl,l,_,rfl,o7.of h2,fun q hq=>?_⟩;rw[Z3 xs (by lia)];exact k q (xs.drop 1) _ (s2.trans (b9.new hq)) b7 (by rw[b0e,hlen]) fun z hz=>hx z (b1l hz)
theorem mE(F:j4 K mg "_law_drawn_two" cT ["_law_script","_law_most_here"])(B:nt mg)(b40:i7 P w K mg base z8 1 "_law_cell_at" ["_law_script","_law_k"] (sM K))(b41:i7 P w K mg base z8 2 "_law_share" ["_law_top","_law_bottom"] eG)(b42:i7 P w K mg base z8 1 "_law_stream" ["_law_cell","_law_place"] lL):i7 P w K mg base z8 3 "_law_drawn_two" ["_law_script","_law_most_here"] (yn K):=by
 refine o5 F p5 (fun vs H Q E h=>?_) (fun f cdv A outer s H vs Q E hr h=>?_)
 .obtain⟨a,ns,mo,rfl,_⟩:=h;rfl
 obtain⟨a,ns,mo,rfl,hS,m1,m8,k⟩:=h;have hu:=hr.units;refine⟨_,(b8 (i5 (i:=2) p5.nd rfl (Or.inl rfl) (i6 b40 hr j7 (a8 (f8 0) (a8 b6 a9)))) (b8 (i5 (i:=3) p5.nd rfl (Or.inl rfl) (i6 b42 hr j7 (a8 (f8 2) (a8 b6 a9)))) (b8 (i5 (i:=4) p5.nd rfl (Or.inl rfl) (g6 (j3 K) (u0 (a8 b6 (a8 b6 (a8 (d8 z9 b6 (d8 aI (d8 fq (f8 2) b6) (d8 zt b6 b6))) a9)))) (d8 aI (g6 (j3 K) (f8 3) b6 (fun _ _=>rfl)) b6) (fun _ _=>rfl))) (b8 (i5 (i:=5) p5.nd rfl (Or.inl rfl) (g6 (j3 K) (u0 (a8 b6 (a8 b6 (a8 (d8 k8 (d8 aI (d8 fq (f8 2) b6) (d8 zt b6 b6)) (d8 bg b6 (d8 k8 b6 (d8 aI (g6 (j3 K) (f8 3) b6 (fun _ _=>rfl)) b6)))) a9)))) (d8 aI (d8 fq (g6 (j3 K) (f8 3) b6 (fun _ _=>rfl)) b6) b6) (fun _ _=>rfl))) (b8 (i5 (i:=6) p5.nd rfl (Or.inl rfl) (d8 z9 b6 (d8 aI (g6 (j3 K) (f8 3) b6 (fun _ _=>rfl)) b6))) (b8 (i5 (i:=7) p5.nd rfl (Or.inl rfl) (u0 a9)) (b8 (aP PassesOwn.never rfl (bG rfl B.range (a8 b6 a9)) (g8 (i:=8) p5.nd rfl (Or.inl rfl)) (b8 (i5 (i:=9) p5.nd rfl (Or.inl rfl) (u0 a9)) (b8 (aP PassesOwn.never rfl (bG rfl B.range (a8 (d8 z9 b6 (d8 aI (g6 (j3 K) (f8 3) (d8 z9 b6 (f8 8)) (fun _ _=>rfl)) (f8 1))) a9)) (g8 (i:=10) p5.nd rfl (Or.inl rfl)) (b8 (i5 (i:=11) p5.nd rfl (Or.inl rfl) (i6 b40 hr j7 (a8 (f8 0) (a8 (d8 z9 (d8 z9 b6 (d8 k8 (f8 1) (f8 8))) (f8 10)) a9)))) (b8 (i5 (i:=12) p5.nd rfl (Or.inl rfl) (i6 b42 hr j7 (a8 (f8 11) (a8 (d8 z9 (d8 k8 b6 (f8 8)) (f8 10)) a9)))) (b8 (aw (gr (pG (p9 fU (d8 aI (g6 (j3 K) (f8 3) b6 (fun _ _=>rfl)) b6) b6 (v8 _)) (mn (p9 kA (f8 11) b6 (v8 _))))) (e9 (i5 (i:=12) p5.nd rfl (Or.inl rfl) (u0 (a8 (f8 11) (a8 (d8 fq (f8 11) b6) a9))))) w8) (b8 (i5 (i:=13) p5.nd rfl (Or.inl rfl) (d8 z9 (d8 k8 (d8 bg (d8 aI (g6 (j3 K) (f8 12) b6 (fun _ _=>rfl)) b6) b6) (f8 4)) (f8 5))) (b8 (i5 (i:=14) p5.nd rfl (Or.inl rfl) (d8 bg (d8 k8 (d8 z9 (d8 bg (d8 aI (g6 (j3 K) (f8 12) b6 (fun _ _=>rfl)) b6) b6) (d8 aI (g6 (j3 K) (f8 3) (d8 z9 b6 (f8 8)) (fun _ _=>rfl)) b6)) (f8 4)) (f8 5))) (e9 (aC (show ao _ _ (qp K _ _ _ _) from (bQ b0c b0p b0q aO (f8 9) (a8 (n4 (a8 (i6 b41 hr j7 (a8 (f8 13) (a8 (f8 6) a9))) (a8 (i6 b41 hr j7 (a8 (f8 14) (a8 (f8 6) a9))) a9))) a9))))))))))) (e9 (aC (show ao _ _ (qp K _ _ _ _) from (bQ b0c b0p b0q aO (f8 7) (a8 (f8 9) a9)))))))) (b8 (aw (p9 fU (d8 aI (g6 (j3 K) (f8 3) b6 (fun _ _=>rfl)) b6) b6 (v8 _)) (e9 (aX (fm K (g6 (j3 K) (f8 7) b6 (fun _ _=>rfl)) (bF (dF dw b6))) (R7 (f8 7) b6 yu))) w8) (e9 (j5 (f8 7))))))))))),?_⟩;walk_at "rz";refine⟨a,ns,0,rfl,hS,by lia,fun head=>?_⟩;walk_at "rz";refine⟨_,_,rfl,fun ls xs H1 s1 hx hxl hnn=>?_⟩;have nn:∀ j:Nat,0<=xs.getD j 0:=fun j=>X4 hnn j;have hx1:o7 K H1 ls (xs.map V.int):=o7.of hx;walk_at "rz";intro g1 hg1;have n0:=nn 0;have n1:=nn 1;have n2:=nn 2;have hx2:o7 K (upd H1 g1 (.lst [.int 1,.int 1,.int (1+head / 5 % (10:Int)^(30:Int).toNat)])) ls (xs.map V.int):=by walk_at "mv"
 walk_at "rz";have p30':=p30;obtain⟨v1,hv1,hm1⟩:=qk [V.int 1,V.int 1,V.int (1+head / 5 % (10:Int)^(30:Int).toNat)] (xs.getD 0 0 % 3) (by lia) (by show _<(3:Int);lia);have hs1:∃ sc:Int,v1=V.int sc/\sc.natAbs<=10^30:=by
  rw[p30'] at hm1;simp only[a9g,a9w,or_false] at hm1;rcases hm1 with rfl | rfl | rfl
  .exact⟨_,rfl,by decide⟩
  .exact⟨_,rfl,by decide⟩
  .exact⟨_,rfl,by lia⟩
 obtain⟨sc,rfl,zsc⟩:=hs1;refine⟨g1,_,_,_,rfl,rfl,o7.of b7,hv1,?_⟩;walk_at "rz";intro g2 hg2;have hx3:o7 K (upd (upd H1 g1 (.lst [.int 1,.int 1,.int (1+head / 5 % (10:Int)^(30:Int).toNat)])) g2 (.lst [.int 0,.int 0,.int (head / 7 % (10:Int)^(30:Int).toNat*(1 - 2*(xs.getD (b0l 1) 0 % 2)))])) ls (xs.map V.int):=by walk_at "mv"
 walk_at "rz";obtain⟨v2,hv2,hm2⟩:=qk [V.int 0,V.int 0,V.int (head / 7 % (10:Int)^(30:Int).toNat*(1 - 2*(xs.getD (b0l 1) 0 % 2)))] (xs.getD (b0l 1) 0 / 2 % 3) (by lia) (by show _<(3:Int);lia);have hs2:∃ fa:Int,v2=V.int fa/\fa.natAbs<=10^30:=by
  rw[p30'] at hm2;simp only[a9g,a9w,or_false] at hm2;rcases hm2 with rfl | rfl | rfl
  .exact⟨_,rfl,by decide⟩
  .exact⟨_,rfl,by decide⟩
  .refine⟨_,rfl,?_⟩;rw[b3q];have e1:(1 - 2*(xs.getD (b0l 1) 0 % 2)).natAbs=1:=by lia
   rw[e1];lia
 obtain⟨fa,rfl,zfa⟩:=hs2;refine⟨g2,_,_,_,rfl,rfl,o7.of b7,hv2,?_⟩;walk_at "rz";intro lb hlb;have hlbH:H lb=none:=s1.free ((b9.new hg1).free ((b9.new hg2).free hlb));have sA:=(s1.trans (b9.new (o:=.lst [.int 1,.int 1,.int (1+head / 5 % (10:Int)^(30:Int).toNat)]) hg1)).trans (b9.new (o:=.lst [.int 0,.int 0,.int (head / 7 % (10:Int)^(30:Int).toNat*(1 - 2*(xs.getD (b0l 1) 0 % 2)))]) hg2);have sB:b9 H (upd (upd (upd H1 g1 (.lst [.int 1,.int 1,.int (1+head / 5 % (10:Int)^(30:Int).toNat)])) g2 (.lst [.int 0,.int 0,.int (head / 7 % (10:Int)^(30:Int).toNat*(1 - 2*(xs.getD (b0l 1) 0 % 2)))])) lb (.lst [])):=sA.trans (b9.new hlb);have nls:ls≠lb:=n8 (aQ (o:=.lst [.int 0,.int 0,.int (head / 7 % (10:Int)^(30:Int).toNat*(1 - 2*(xs.getD (b0l 1) 0 % 2)))]) hg2 (aQ (o:=.lst [.int 1,.int 1,.int (1+head / 5 % (10:Int)^(30:Int).toNat)]) hg1 hx)) hlb;have hx4:=aQ (o:=.lst []) hlb (aQ (o:=.lst [.int 0,.int 0,.int (head / 7 % (10:Int)^(30:Int).toNat*(1 - 2*(xs.getD (b0l 1) 0 % 2)))]) hg2 (aQ (o:=.lst [.int 1,.int 1,.int (1+head / 5 % (10:Int)^(30:Int).toNat)]) hg1 hx));have hb4:(upd (upd (upd H1 g1 (.lst [.int 1,.int 1,.int (1+head / 5 % (10:Int)^(30:Int).toNat)])) g2 (.lst [.int 0,.int 0,.int (head / 7 % (10:Int)^(30:Int).toNat*(1 - 2*(xs.getD (b0l 1) 0 % 2)))])) lb (.lst [])) lb=some (.lst []):=b7;generalize hH4:upd (upd (upd H1 g1 (.lst [.int 1,.int 1,.int (1+head / 5 % (10:Int)^(30:Int).toNat)])) g2 (.lst [.int 0,.int 0,.int (head / 7 % (10:Int)^(30:Int).toNat*(1 - 2*(xs.getD (b0l 1) 0 % 2)))])) lb (.lst [])=H4 at *;clear hH4 sA hx1 hx2 hx3 hlb hg1 hg2 hv1 hv2 s1 hx;obtain⟨BB,hBB⟩ : ∃ BB:Int,BB=1+xs.getD (b0l 2) 0 % 3:=⟨_,rfl⟩
 have n2':0<=xs.getD (b0l 2) 0:=n2;have B1:1<=BB:=by lia
 have B3:BB<=3:=by lia
 walk_at "rz";refine cN (fun i σ H'=>∃ (y8 y9 y10 y11 y12 y13 y14:Option V) (vs:List V),σ=[some (.ref a),some (.int (mo:Int)),some (.int head),some (.ref ls),some (.int sc),some (.int fa),some (.int BB),some (.ref lb),y8,y9,y10,y11,y12,y13,y14]/\b9 H H'/\H' ls=some (.lst (xs.map V.int))/\H' lb=some (.lst vs)/\vs.length=i/\∀ (j:Nat) (v:V),vs[j]?=some v->∃ l ws ps,l≠lb/\a6o H' v l ws ps BB mo) ⟨none,none,none,none,none,none,none,[],by subst hBB;rfl,sB,hx4,hb4,rfl,fun j v e=>nomatch (show (none:Option V)=some v from e)⟩ ?_ ?_
 .rintro i σ H5 hi ⟨y8,y9,y10,y11,y12,y13,y14,vs,rfl,s5,hx5',hb5,hvl,hvs⟩;have hx5:o7 K H5 ls (xs.map V.int):=o7.of hx5';walk_at "rz";intro lq hlq;have hi2:i<2:=hi;have hx6:o7 K (upd H5 lq (.lst [])) ls (xs.map V.int):=o7.same' hx5 (b9.new hlq);walk_at "rz";have nq:=nn (3+(0+(i:Int))).toNat;generalize xs.getD (3+(0+(i:Int))).toNat 0=q at *;refine⟨by lia,?_⟩;have r1:=b4e q (b:=(mo:Int)) (by lia);have r2:=b7d q (b:=(mo:Int)) (by lia);walk_at "rz";refine⟨by lia,by lia,cN (fun j σ H'=>∃ (z10 z11 z12 z13 z14:Option V) (us:List V) (ps:List Pt),σ=[some (.ref a),some (.int (mo:Int)),some (.int head),some (.ref ls),some (.int sc),some (.int fa),some (.int BB),some (.ref lb),some (.int (0+(i:Int))),some (.ref lq),z10,z11,z12,z13,z14]/\b9 H5 H'/\H' lq=some (.lst us)/\aa H' us ps/\ps.length=j/\∀ p∈ps,ki BB 110 p) ⟨y10,y11,y12,y13,y14,[],[],rfl,b9.new hlq,b7,aa.nil _,rfl,fun p hp=>nomatch hp⟩ ?_ ?_⟩
  .rintro j σ H6 hj ⟨z10,z11,z12,z13,z14,us,ps,rfl,s6,hq6,hP6,hpl,hov⟩;have hj2:(j:Int)<1+q % (mo:Int):=by lia
   have hS6:o7 K H6 a (ns.map V.int):=o7.same' (o7.same' hS s5) s6;have hx7:o7 K H6 ls (xs.map V.int):=o7.same' hx5 s6;walk_at "rz";have nm:0<=(mo:Int)*(0+(i:Int)):=b2k (by lia) (by lia);refine⟨a,ns,_,rfl,hS6,by lia,fun z=>?_⟩;walk_at "rz";refine⟨_,_,rfl,fun lr rx H7 s7 hr7 hrl hrn=>?_⟩;have hx8:o7 K H7 ls (xs.map V.int):=o7.same' hx7 s7;have hr8:o7 K H7 lr (rx.map V.int):=o7.of hr7;have hq7:=s7 _ _ hq6;have hP7:=hP6.same s7;have s67:=s6.trans s7;clear hx7 hq6 hP6 s6 s7;walk_at "rz";refine gX (fun h0=>?_) (fun h0=>?_)
   .walk_at "rz";refine gX (fun h1=>?_) (fun h1=>?_)
    .walk_at "rz";intro lr2 hlr2;have s78:=b9.new (o:=.lst [.int z,.int (z / 17)]) hlr2;replace hx8:=o7.same' hx8 s78;replace hq7:=s78 _ _ hq7;replace hP7:=hP7.same s78;have hr9:(upd H7 lr2 (.lst [.int z,.int (z / 17)])) lr2=some (.lst [.int z,.int (z / 17)]):=b7;replace s67:=s67.trans s78;generalize upd H7 lr2 (.lst [.int z,.int (z / 17)])=H8 at *;walk_at "rz";refine⟨.inl ⟨rfl,_,o7.of hq7⟩,?_⟩;walk_at "rz";refine⟨_,_,rfl,by lia,Sz.mono (n:=20) (Sz.million (by lia) (by lia)) (by decide),fun v1 G1 t1 w1=>?_⟩;walk_at "rz";refine⟨_,_,rfl,by lia,Sz.mono (n:=20) (Sz.million (by lia) (by lia)) (by decide),fun v2 G2 t2 w2=>?_⟩;walk_at "rz";intro g hg;have sg:=(t1.trans t2).trans (b9.new (o:=.tup [v1,v2]) hg);refine⟨lq,us,_,rfl,rfl,sg _ _ hq7,j8 (by have:=hP7.len;lia),?_⟩;have tg:bR (upd G2 g (.tup [v1,v2])) (upd (upd G2 g (.tup [v1,v2])) lq (.lst (us++[.ref g]))):=bR.lst (sg _ _ hq7);have pv:lF (upd G2 g (.tup [v1,v2])) (.ref g) _ _:=⟨g,v1,v2,rfl,b7,(w1.same t2).same (b9.new hg),w2.same (b9.new hg)⟩
     refine⟨_,_,_,_,_,us++[.ref g],ps++[(_,_)],rfl,ak hlq (s67.trans sg),b7,((hP7.same sg).snoc pv).tup tg,by rw[a9b,hpl];rfl,fun p hp=>?_⟩;rcases a9k.mp hp with hp | hp
     .exact hov p hp
     .rw[a9q.mp hp];exact⟨dm (by lia) (eH (by lia) zsc zfa).1,dm (by lia) (eH (by lia) zsc zfa).2⟩
    .walk_at "rz";refine⟨.inl ⟨rfl,_,o7.of hq7⟩,?_⟩;walk_at "rz";refine⟨_,_,rfl,by lia,Sz.mono (n:=20) (Sz.million (by lia) (by lia)) (by decide),fun v1 G1 t1 w1=>?_⟩;walk_at "rz";refine⟨_,_,rfl,by lia,Sz.mono (n:=20) (Sz.million (by lia) (by lia)) (by decide),fun v2 G2 t2 w2=>?_⟩;walk_at "rz";intro g hg;have sg:=(t1.trans t2).trans (b9.new (o:=.tup [v1,v2]) hg);refine⟨lq,us,_,rfl,rfl,sg _ _ hq7,j8 (by have:=hP7.len;lia),?_⟩;have tg:bR (upd G2 g (.tup [v1,v2])) (upd (upd G2 g (.tup [v1,v2])) lq (.lst (us++[.ref g]))):=bR.lst (sg _ _ hq7);have pv:lF (upd G2 g (.tup [v1,v2])) (.ref g) _ _:=⟨g,v1,v2,rfl,b7,(w1.same t2).same (b9.new hg),w2.same (b9.new hg)⟩
     refine⟨_,_,_,_,_,us++[.ref g],ps++[(_,_)],rfl,ak hlq (s67.trans sg),b7,((hP7.same sg).snoc pv).tup tg,by rw[a9b,hpl];rfl,fun p hp=>?_⟩;rcases a9k.mp hp with hp | hp
     .exact hov p hp
     .rw[a9q.mp hp];exact⟨dm (by lia) (eH (by lia) zsc zfa).1,dm (by lia) (eH (by lia) zsc zfa).2⟩
   .refine C5 ?_;walk_at "rz";refine⟨.inl ⟨rfl,_,o7.of hq7⟩,?_⟩;walk_at "rz";refine⟨_,_,rfl,by lia,Sz.mono (n:=20) (Sz.million (by lia) (by lia)) (by decide),fun v1 G1 t1 w1=>?_⟩;walk_at "rz";refine⟨_,_,rfl,by lia,Sz.mono (n:=20) (Sz.million (by lia) (by lia)) (by decide),fun v2 G2 t2 w2=>?_⟩;walk_at "rz";intro g hg;have sg:=(t1.trans t2).trans (b9.new (o:=.tup [v1,v2]) hg);refine⟨lq,us,_,rfl,rfl,sg _ _ hq7,j8 (by have:=hP7.len;lia),?_⟩;have tg:bR (upd G2 g (.tup [v1,v2])) (upd (upd G2 g (.tup [v1,v2])) lq (.lst (us++[.ref g]))):=bR.lst (sg _ _ hq7);have pv:lF (upd G2 g (.tup [v1,v2])) (.ref g) _ _:=⟨g,v1,v2,rfl,b7,(w1.same t2).same (b9.new hg),w2.same (b9.new hg)⟩
    refine⟨_,_,_,_,_,us++[.ref g],ps++[(_,_)],rfl,ak hlq (s67.trans sg),b7,((hP7.same sg).snoc pv).tup tg,by rw[a9b,hpl];rfl,fun p hp=>?_⟩;rcases a9k.mp hp with hp | hp
    .exact hov p hp
    .rw[a9q.mp hp];exact⟨dm (by lia) (eH (by lia) zsc zfa).1,dm (by lia) (eH (by lia) zsc zfa).2⟩
  rintro σ H6 ⟨z10,z11,z12,z13,z14,us,ps,rfl,s6,hq6,hP6,hpl,hov⟩;have nlq:lq≠lb:=fun e=>by rw[e,hb5] at hlq;cases hlq
  refine⟨_,rfl,.inl ⟨rfl,_,o7.of (s6 _ _ hb5)⟩,?_⟩;walk_at "rz";refine⟨lb,vs,_,rfl,rfl,s6 _ _ hb5,j8 (by lia),?_⟩;have tg:bR H6 (upd H6 lb (.lst (vs++[.ref lq]))):=bR.lst (s6 _ _ hb5);refine⟨_,_,_,_,_,_,_,vs++[.ref lq],rfl,ak hlbH (s5.trans s6),by rw[i9 nls];exact s6 _ _ hx5',b7,by rw[a9b,hvl];rfl,fun j v e=>?_⟩;rcases iR e with⟨e1,e2⟩ | ⟨e1,rfl⟩
  .obtain⟨l,ws,ps',n1,c1⟩:=hvs j v e2;exact⟨l,ws,ps',n1,c1.ref,by rw[i9 n1];exact s6 _ _ c1.lst,(c1.pts.same s6).tup tg,c1.l1,c1.l2,c1.ov⟩
  .exact⟨lq,us,ps,nlq,rfl,by rw[i9 nlq];exact hq6,hP6.tup tg,by lia,by lia,hov⟩
 rintro σ H5 ⟨y8,y9,y10,y11,y12,y13,y14,vs,rfl,s5,hx5,hb5,hvl,hvs⟩;obtain⟨v0,v1,rfl⟩:=len2 (l:=vs) hvl;obtain⟨l0,w0,p0,n0',c0⟩:=hvs 0 v0 rfl;obtain⟨l1,w1,p1,n1',c1⟩:=hvs 1 v1 rfl;obtain rfl:=c0.ref;obtain rfl:=c1.ref;walk_at "rz";refine qq (fun _=>?_) (fun _=>?_)
 .walk_at "rz";refine⟨l0,_,rfl,o7.of c0.lst,fun l2 hl2=>?_⟩;have s6:=b9.new (o:=.lst w0.reverse) hl2;have hb6:=s6 _ _ hb5;have n2:l2≠lb:=fun e=>by rw[e,hb5] at hl2;cases hl2
  walk_at "rz";show Q (V.ref lb) (upd (upd H5 l2 (.lst w0.reverse)) lb (.lst [.ref l0,.ref l2]));have tg:bR (upd H5 l2 (.lst w0.reverse)) (upd (upd H5 l2 (.lst w0.reverse)) lb (.lst [.ref l0,.ref l2])):=bR.lst hb6;refine k lb l0 l2 w0 w0.reverse p0 p0.reverse BB _ (ak hlbH (s5.trans s6)) hlbH b7 ⟨rfl,by rw[i9 n0'];exact s6 _ _ c0.lst,(c0.pts.same s6).tup tg,c0.l1,c0.l2,c0.ov⟩ ⟨rfl,by rw[i9 n2];exact b7,(c0.pts.rev.same s6).tup tg,by rw[b0x];exact c0.l1,by rw[b0x];exact c0.l2,fun p hp=>c0.ov p (b2g.mp hp)⟩ B1 B3
 .walk_at "rz";exact k lb l0 l1 w0 w1 p0 p1 BB H5 s5 hlbH hb5 c0 c1 B1 B3
theorem wX(F:j4 K mg "_law_less" jg ["_law_one","_law_other"]):i7 P w K mg base z8 1 "_law_less" ["_law_one","_law_other"] cx:=by
 refine o5 F wB (fun vs H Q E h=>?_) (fun f cdv A outer s H vs Q E hr h=>?_)
 .obtain⟨x,y,p,q,rfl,_⟩:=h;rfl
 obtain⟨_,_,p,q,rfl,⟨a,rfl,ha⟩,⟨b,rfl,hb⟩,hp,hq,k⟩:=h;have hu:=hr.units;refine⟨_,(e9 (j5 (cC kz (d8 k8 (g6 (i4 K) (f8 0) b6 (fun _ _=>rfl)) (g6 (i4 K) (f8 1) b6 (fun _ _=>rfl))) (d8 k8 (g6 (i4 K) (f8 1) b6 (fun _ _=>rfl)) (g6 (i4 K) (f8 0) b6 (fun _ _=>rfl))) (v8 _)))),?_⟩;refine⟨_,rfl,a,_,_,_,rfl,rfl,aj.of ha,rfl,_,rfl,b,_,_,_,rfl,rfl,aj.of hb,rfl,_,_,rfl,rfl,tD hp.num hq.den,_,rfl,b,_,_,_,rfl,rfl,aj.of hb,rfl,_,rfl,a,_,_,_,rfl,rfl,aj.of ha,rfl,_,_,rfl,rfl,tD hq.num hp.den,_,_,rfl,rfl,?_⟩;have e:decide (p.num*(q.den:Int)<q.num*(p.den:Int))=decide (p<q):=decide_eq_decide.mpr (Rat.lt_iff p q).symm;show Q (.bl (decide (p.num*(q.den:Int)<q.num*(p.den:Int)))) H;rw[e];exact k
theorem tm(F:j4 K mg "_law_least" gQ ["_law_some"])(b43:i7 P w K mg base z8 1 "_law_less" ["_law_one","_law_other"] cx):i7 P w K mg base z8 2 "_law_least" ["_law_some"] pp:=by
 refine o5 F fc (fun vs H Q E h=>?_) (fun f cdv A outer s H vs Q E hr h=>?_)
 .obtain⟨a,us,qs,rfl,_⟩:=h;rfl
 obtain⟨a,us,qs,rfl,ha,hQ,h1,hb,k⟩:=h;have hu:=hr.units;refine⟨_,(b8 (i5 (i:=1) fc.nd rfl (Or.inl rfl) (g6 (j3 K) (f8 0) b6 (fun _ _=>rfl))) (b8 (aP PassesOwn.never rfl (o8 K (f8 0)) (g8 (i:=2) fc.nd rfl (Or.inl rfl)) (e9 (aw (br (i6 b43 hr j7 (a8 (f8 2) (a8 (f8 1) a9)))) (e9 (i5 (i:=1) fc.nd rfl (Or.inl rfl) (f8 2))) w8))) (e9 (j5 (f8 1))))),?_⟩;have hul:=hQ.len;have e0:=a8y (l:=us) (i:=0) (by lia);have e0':=a8y (l:=qs) (i:=0) (by lia);have g0:=hQ.get 0 _ _ e0 e0';have m0:qs[0]∈qs:=a9n _;generalize us[0]=v0 at *;generalize qs[0]=q0 at *;walk_at "rd";refine⟨a,us,_,_,rfl,rfl,o7.of ha,z7 (j:=0) rfl e0,?_⟩;walk_at "rd";refine⟨⟨_,o7.of ha⟩,cF (xs:=us) (fun i σ H'=>∃ (v:V) (m:Rat) (y2:Option V),σ=[some (.ref a),some v,y2]/\H'=H/\bh H v m/\m∈qs/\∀ j q,j<i->qs[j]?=some q->m<=q) ⟨v0,q0,none,rfl,rfl,g0,m0,fun j q h=>absurd h (by lia)⟩ (fun i σ H' _ h=>by obtain⟨_,_,_,_,rfl,_⟩:=h;exact o7.of ha) ?_ ?_⟩
 .rintro i x σ W hx ⟨v,m,y2,rfl,rfl,hv,hm,hle⟩;have hi:i<qs.length:=by rw[<- hul];exact (a9c.mp hx).1
  have e1:=a8y hi;have g1:=hQ.get i _ _ hx e1;have m1:=a9n hi;generalize qs[i]=q1 at *;have b1:=hb _ m1;have bm:=hb _ hm;walk_at "rd";dsimp only[q9];refine⟨x,v,q1,m,rfl,g1,hv,b1,bm,?_⟩;refine⟨_,rfl,qq (fun z=>?_) (fun z=>?_)⟩
  .walk_at "rd";refine⟨x,q1,some x,rfl,rfl,g1,m1,fun j q hj e=>?_⟩;have z:=of_decide_eq_true z;by_cases ji:j=i
   .subst ji;rw[e1] at e;cases e;exact c0z
   .exact b4s (b4r z) (hle j q (by lia) e)
  .refine⟨v,m,some x,rfl,rfl,hv,hm,fun j q hj e=>?_⟩;have z:=b3v.mp (of_decide_eq_false z);by_cases ji:j=i
   .subst ji;rw[e1] at e;cases e;exact z
   .exact hle j q (by lia) e
 .rintro σ W ⟨v,m,y2,rfl,rfl,hv,hm,hle⟩;walk_at "rd";refine k v m hv ⟨hm,fun q hq=>?_⟩;obtain⟨j,hj,rfl⟩:=a9o hq;exact hle j _ (by lia) (a8y hj)
theorem wW(F:j4 K mg "_law_most" jf ["_law_some"])(b43:i7 P w K mg base z8 1 "_law_less" ["_law_one","_law_other"] cx):i7 P w K mg base z8 2 "_law_most" ["_law_some"] lM:=by
 refine o5 F gG (fun vs H Q E h=>?_) (fun f cdv A outer s H vs Q E hr h=>?_)
 .obtain⟨a,us,qs,rfl,_⟩:=h;rfl
 obtain⟨a,us,qs,rfl,ha,hQ,h1,hb,k⟩:=h;have hu:=hr.units;refine⟨_,(b8 (i5 (i:=1) gG.nd rfl (Or.inl rfl) (g6 (j3 K) (f8 0) b6 (fun _ _=>rfl))) (b8 (aP PassesOwn.never rfl (o8 K (f8 0)) (g8 (i:=2) gG.nd rfl (Or.inl rfl)) (e9 (aw (br (i6 b43 hr j7 (a8 (f8 1) (a8 (f8 2) a9)))) (e9 (i5 (i:=1) gG.nd rfl (Or.inl rfl) (f8 2))) w8))) (e9 (j5 (f8 1))))),?_⟩;have hul:=hQ.len;have e0:=a8y (l:=us) (i:=0) (by lia);have e0':=a8y (l:=qs) (i:=0) (by lia);have g0:=hQ.get 0 _ _ e0 e0';have m0:qs[0]∈qs:=a9n _;generalize us[0]=v0 at *;generalize qs[0]=q0 at *;walk_at "rd";refine⟨a,us,_,_,rfl,rfl,o7.of ha,z7 (j:=0) rfl e0,?_⟩;walk_at "rd";refine⟨⟨_,o7.of ha⟩,cF (xs:=us) (fun i σ H'=>∃ (v:V) (m:Rat) (y2:Option V),σ=[some (.ref a),some v,y2]/\H'=H/\bh H v m/\m∈qs/\∀ j q,j<i->qs[j]?=some q->q<=m) ⟨v0,q0,none,rfl,rfl,g0,m0,fun j q h=>absurd h (by lia)⟩ (fun i σ H' _ h=>by obtain⟨_,_,_,_,rfl,_⟩:=h;exact o7.of ha) ?_ ?_⟩
 .rintro i x σ W hx ⟨v,m,y2,rfl,rfl,hv,hm,hle⟩;have hi:i<qs.length:=by rw[<- hul];exact (a9c.mp hx).1
  have e1:=a8y hi;have g1:=hQ.get i _ _ hx e1;have m1:=a9n hi;generalize qs[i]=q1 at *;have b1:=hb _ m1;have bm:=hb _ hm;walk_at "rd";dsimp only[q9];refine⟨v,x,m,q1,rfl,hv,g1,bm,b1,?_⟩;refine⟨_,rfl,qq (fun z=>?_) (fun z=>?_)⟩
  .walk_at "rd";refine⟨x,q1,some x,rfl,rfl,g1,m1,fun j q hj e=>?_⟩;have z:=of_decide_eq_true z;by_cases ji:j=i
   .subst ji;rw[e1] at e;cases e;exact c0z
   .exact b4s (hle j q (by lia) e) (b4r z)
  .refine⟨v,m,some x,rfl,rfl,hv,hm,fun j q hj e=>?_⟩;have z:=b3v.mp (of_decide_eq_false z);by_cases ji:j=i
   .subst ji;rw[e1] at e;cases e;exact z
   .exact hle j q (by lia) e
 .rintro σ W ⟨v,m,y2,rfl,rfl,hv,hm,hle⟩;walk_at "rd";refine k v m hv ⟨hm,fun q hq=>?_⟩;obtain⟨j,hj,rfl⟩:=a9o hq;exact hle j _ (by lia) (a8y hj)
theorem zI(F:j4 K mg "_law_box" gR ["_law_seats"])(b44:i7 P w K mg base z8 2 "_law_least" ["_law_some"] pp)(b45:i7 P w K mg base z8 2 "_law_most" ["_law_some"] lM):i7 P w K mg base z8 3 "_law_box" ["_law_seats"] pq:=by
 refine o5 F ma (fun vs H Q E h=>?_) (fun f cdv A outer s H vs Q E hr h=>?_)
 .obtain⟨a,us,st,rfl,_⟩:=h;rfl
 obtain⟨a,us,st,rfl,ha,hP,h1,h12,hb,k⟩:=h;have hu:=hr.units;refine⟨_,(b8 (cK (i:=1) (os:=["_law_place"]) (caps:=[]) ["_law_seats","_law_xs","_law_ys"] (d4 gR) ma.nd rfl rfl (o8 K (f8 0)) (fun _ _ _ _ _=>(g8 (i:=0) (show a9x (["_law_place"]:List Str) from by decide) rfl (Or.inl rfl))) (fun _ _ _ _ _=>(g6 (i4 K) (f8 0) b6 (fun _ _=>rfl))) (by decide)) (b8 (cK (i:=2) (os:=["_law_place"]) (caps:=[]) ["_law_seats","_law_xs","_law_ys"] (d4 gR) ma.nd rfl rfl (o8 K (f8 0)) (fun _ _ _ _ _=>(g8 (i:=0) (show a9x (["_law_place"]:List Str) from by decide) rfl (Or.inl rfl))) (fun _ _ _ _ _=>(g6 (i4 K) (f8 0) b6 (fun _ _=>rfl))) (by decide)) (e9 (j5 (n4 (a8 (i6 b44 hr j7 (a8 (f8 1) a9)) (a8 (i6 b44 hr j7 (a8 (f8 2) a9)) (a8 (i6 b45 hr j7 (a8 (f8 1) a9)) (a8 (i6 b45 hr j7 (a8 (f8 2) a9)) a9))))))))),?_⟩;have hul:=hP.len;walk_at "rd";refine⟨⟨_,o7.of ha⟩,en (ae (o7.of ha)) (by lia) (fun i v H=>∀ p,st[i]?=some p->bh H v p.1) (fun i v H H' t h p e=>(h p e).tup t) (fun i H2 kk hi s2 hk=>?_) (fun l1 y1 H2 hl1 s2 hd1 ly1 r1=>?_)⟩
 .have e1:=a8y hi;have e2:=a8y (l:=st) (i:=i) (by lia);obtain⟨t,v1,v2,e3,ht,q1,q2⟩:=(hP.same s2).get i _ _ e1 e2;rw[e1,e3];walk_at "rd";exact hk _ _ (L2.b9.refl _) fun p e=>by rw[e2] at e;cases e;exact q1
 have S1:iE H2 y1 (st.map (·.1)):=iE.map (by lia) fun i v e p e2=>r1 i v e p e2;clear r1;walk_at "rd";refine⟨⟨_,o7.of (s2 _ _ ha)⟩,en (ae (o7.of (s2 _ _ ha))) (by lia) (fun i v H=>∀ p,st[i]?=some p->bh H v p.2) (fun i v H H' t h p e=>(h p e).tup t) (fun i H3 kk hi s3 hk=>?_) (fun l2 y2 H3 hl2 s3 hd2 ly2 r2=>?_)⟩
 .have e1:=a8y hi;have e2:=a8y (l:=st) (i:=i) (by lia);obtain⟨t,v1,v2,e3,ht,q1,q2⟩:=((hP.same s2).same s3).get i _ _ e1 e2;rw[e1,e3];walk_at "rd";exact hk _ _ (L2.b9.refl _) fun p e=>by rw[e2] at e;cases e;exact q2
 have S2:iE H3 y2 (st.map (·.2)):=iE.map (by lia) fun i v e p e2=>r2 i v e p e2;clear r2;replace S1:=S1.same s3;replace hd1:=s3 _ _ hd1;have b1:∀ q∈st.map (·.1),Bd 4000 q:=fun q hq=>by obtain⟨p,hp,rfl⟩:=a9m.mp hq;exact (hb p hp).1
 have b2:∀ q∈st.map (·.2),Bd 4000 q:=fun q hq=>by obtain⟨p,hp,rfl⟩:=a9m.mp hq;exact (hb p hp).2
 walk_at "rd";dsimp only[q9];refine⟨l1,y1,_,rfl,hd1,S1,by rw[a9a];lia,b1,fun v1 m1 g1 k1=>?_⟩;walk_at "rd";dsimp only[q9];refine⟨l2,y2,_,rfl,hd2,S2,by rw[a9a];lia,b2,fun v2 m2 g2 k2=>?_⟩;walk_at "rd";dsimp only[q9];refine⟨l1,y1,_,rfl,hd1,S1,by rw[a9a];lia,b1,fun v3 m3 g3 k3=>?_⟩;walk_at "rd";dsimp only[q9];refine⟨l2,y2,_,rfl,hd2,S2,by rw[a9a];lia,b2,fun v4 m4 g4 k4=>?_⟩;walk_at "rd";intro t ht;have s4:=b9.new (o:=.tup [v1,v2,v3,v4]) ht;exact k _ ⟨m1,m2,m3,m4⟩ _ (s2.trans (s3.trans s4)) ⟨t,v1,v2,v3,v4,rfl,b7,g1.same s4,g2.same s4,g3.same s4,g4.same s4⟩ ⟨k1,k2,k3,k4⟩
theorem wU(F:j4 K mg "_law_side" jd ["_law_frame"])(B:nt mg)(b41:i7 P w K mg base z8 2 "_law_share" ["_law_top","_law_bottom"] eG)(b45:i7 P w K mg base z8 2 "_law_most" ["_law_some"] lM):i7 P w K mg base z8 3 "_law_side" ["_law_frame"] yk:=by
 refine o5 F gE (fun vs H Q E h=>?_) (fun f cdv A outer s H vs Q E hr h=>?_)
 .obtain⟨x,q,rfl,_⟩:=h;rfl
 obtain⟨x,q,rfl,hx,hb,k⟩:=h;have hu:=hr.units;refine⟨_,(b8 (i5 (i:=1) gE.nd rfl (Or.inl rfl) (u0 a9)) (b8 (aP PassesOwn.never rfl (bG rfl B.range (a8 b6 a9)) (g8 (i:=2) gE.nd rfl (Or.inl rfl)) (b8 (cB (i:=3) (j:=4) rfl gE.nd rfl rfl (by decide) rfl rfl (a8 (g6 (i4 K) (f8 0) (f8 2) (fun _ _=>rfl)) (a8 (g6 (i4 K) (f8 0) (d8 z9 (f8 2) b6) (fun _ _=>rfl)) a9)) rfl) (e9 (aC (show ao _ _ (qp K _ _ _ _) from (bQ b0c b0p b0q aO (f8 1) (a8 (i6 b41 hr j7 (a8 (d8 bg (d8 k8 (g6 (i4 K) (f8 4) b6 (fun _ _=>rfl)) (g6 (i4 K) (f8 3) b6 (fun _ _=>rfl))) (d8 k8 (g6 (i4 K) (f8 3) b6 (fun _ _=>rfl)) (g6 (i4 K) (f8 4) b6 (fun _ _=>rfl)))) (a8 (d8 k8 (g6 (i4 K) (f8 3) b6 (fun _ _=>rfl)) (g6 (i4 K) (f8 4) b6 (fun _ _=>rfl))) a9))) a9))))))) (e9 (j5 (i6 b45 hr j7 (a8 (f8 1) a9)))))),?_⟩;obtain⟨a,v1,v2,v3,v4,rfl,ha,h1,h2,h3,h4⟩:=hx.ex;walk_at "rz";intro ls hls;have s1:=b9.new (o:=.lst []) hls;have f1:=b7 (H:=H) (a:=ls) (o:=.lst []);generalize upd H ls (.lst [])=H1 at *;walk_at "rz";refine cN (n:=2) (fun i σ H'=>∃ (ys:List V) (y2 y3 y4:Option V),σ=[some (.ref a),some (.ref ls),y2,y3,y4]/\b9 H H'/\H' ls=some (.lst ys)/\iE H' ys ([q.r - q.l,q.t - q.b].take i)) ⟨[],none,none,none,rfl,s1,f1,iE.nil _⟩ ?_ ?_
 .rintro i σ H2 hi ⟨ys,y2,y3,y4,rfl,s2,f2,hY⟩;have key:∃ (vl vh:V) (ql qh:Rat),nk [v1,v2,v3,v4] (0+(i:Int))=some vl/\nk [v1,v2,v3,v4] (0+(i:Int)+2)=some vh/\bh H2 vl ql/\bh H2 vh qh/\Bd 1500 ql/\Bd 1500 qh/\[q.r - q.l,q.t - q.b][i]?=some (qh - ql):=by
   have:i=0\/i=1:=by lia
   rcases this with rfl | rfl
   .exact⟨v1,v3,q.l,q.r,rfl,rfl,h1.same s2,h3.same s2,hb.l,hb.r,rfl⟩
   .exact⟨v2,v4,q.b,q.t,rfl,rfl,h2.same s2,h4.same s2,hb.b,hb.t,rfl⟩
  obtain⟨vl,vh,ql,qh,a1,a2,g1,g2,b1,b2,e3⟩:=key;obtain⟨al,rfl,gl⟩:=g1;obtain⟨ah,rfl,gh⟩:=g2;have ha2:=s2 _ _ ha;have zl:=b1.num;have zl':=b1.den;have zh:=b2.num;have zh':=b2.den;walk_at "rz";dsimp only[q9];refine⟨_,_,rfl,?_⟩;have hyl:=hY.len;rw[b0d] at hyl;walk_at "rz";refine⟨.inl ⟨rfl,_,o7.of f2⟩,?_⟩;walk_at "rz";dsimp only[q9];have dl0:(0:Int)<(ql.den:Int):=by have:=ql.den_pos;lia
  have dh0:(0:Int)<(qh.den:Int):=by have:=qh.den_pos;lia
  refine⟨_,_,rfl,b1b dl0 dh0,(zl'.mul zh').mono (by decide),fun v H3 s3 hv=>?_⟩;rw[Y9] at hv;walk_at "rz";refine⟨ls,ys,v,rfl,rfl,s3 _ _ f2,j8 (by lia),?_⟩;have tg:bR H3 (upd H3 ls (.lst (ys++[v]))):=bR.lst (s3 _ _ f2);walk_at "cd";refine⟨ys++[v],_,_,_,rfl,ak hls (s2.trans s3),b7,?_⟩;rw[List.take_add_one,e3];exact ((hY.same s3).snoc hv).tup tg
 .rintro σ H2 ⟨ys,y2,y3,y4,rfl,s2,f2,hY⟩;have bs:∀ w∈[q.r - q.l,q.t - q.b],Bd 4000 w:=fun w hw=>by
   simp only[a9g,a9w,or_false] at hw;rcases hw with rfl | rfl
   .exact (hb.r.sub hb.l).mono (by decide)
   .exact (hb.t.sub hb.b).mono (by decide)
  walk_at "rz";dsimp only[q9];exact⟨ls,ys,[q.r - q.l,q.t - q.b],rfl,f2,hY,by simp,bs,fun v m g1 g2=>k v m H2 s2 g1 g2⟩
theorem rz(F:j4 K mg "_law_halved" dB ["_law_some"])(B:nt mg):i7 P w K mg base z8 1 "_law_halved" ["_law_some"] (oi K):=by
 refine o5 F bE (fun vs H Q E h=>?_) (fun f cdv A outer s H vs Q E hr h=>?_)
 .obtain⟨a,ws,c,n,rfl,_⟩:=h;rfl
 obtain⟨a,ws,c,n,rfl,ha,hP,h1,h12,hz,hn,k⟩:=h;have hu:=hr.units;refine⟨_,(b8 (i5 (i:=1) bE.nd rfl (Or.inl rfl) (d8 bg (o9 (bz K) (by rfl) B.len PySem.boot_len (a8 (f8 0) a9)) b6)) (b8 (i5 (i:=2) bE.nd rfl (Or.inr rfl) (az (z6 K) rfl B.list b0u (a8 (f8 0) a9))) (b8 (i5 (i:=3) bE.nd rfl (Or.inl rfl) (u0 a9)) (b8 (i5 (i:=4) bE.nd rfl (Or.inl rfl) (u0 a9)) (b8 (aP PassesOwn.never rfl (bG rfl B.range (a8 (d8 z9 (f8 1) b6) a9)) (g8 (i:=5) bE.nd rfl (Or.inl rfl)) (b8 (aC (show ao _ _ (qp K _ _ _ _) from (bQ b0c b0p b0q aO (f8 3) (a8 (n4 (a8 (d8 k8 (g6 (i4 K) (g6 (j3 K) (f8 2) b6 (fun _ _=>rfl)) b6 (fun _ _=>rfl)) (d8 jQ b6 (d8 bg (f8 1) (f8 5)))) (a8 (d8 k8 (g6 (i4 K) (g6 (j3 K) (f8 2) b6 (fun _ _=>rfl)) b6 (fun _ _=>rfl)) (d8 jQ b6 (d8 bg (f8 1) (f8 5)))) a9))) a9)))) (b8 (aC (show ao _ _ (qp K _ _ _ _) from (bQ b0c b0p b0q aO (f8 4) (a8 (n4 (a8 (d8 k8 (g6 (i4 K) (g6 (j3 K) (f8 2) (dF dw b6) (fun _ _=>rfl)) b6 (fun _ _=>rfl)) (d8 jQ b6 (d8 bg (f8 1) (f8 5)))) (a8 (d8 k8 (g6 (i4 K) (g6 (j3 K) (f8 2) (dF dw b6) (fun _ _=>rfl)) b6 (fun _ _=>rfl)) (d8 jQ b6 (d8 bg (f8 1) (f8 5)))) a9))) a9)))) (e9 (i5 (i:=2) bE.nd rfl (Or.inr rfl) (ag (os:=["_law_j"]) (caps:=[(2,"_law_row")]) ["_law_some","_law_n","_law_row","_law_left","_law_right","_law_k"] (d4 dB) (bG rfl B.range (a8 (d8 bg (o9 (bz K) (by rfl) B.len PySem.boot_len (a8 (f8 2) a9)) b6) a9)) (fun _ _ _ _ _=>(g8 (i:=0) (show a9x (["_law_j","_law_row"]:List Str) from by decide) rfl (Or.inl rfl))) (fun _ _ _ _ _=>(n4 (a8 (d8 z9 (g6 (i4 K) (g6 (j3 K) (f8 1) (f8 0) (fun _ _=>rfl)) b6 (fun _ _=>rfl)) (g6 (i4 K) (g6 (j3 K) (f8 1) (d8 z9 (f8 0) b6) (fun _ _=>rfl)) b6 (fun _ _=>rfl))) (a8 (d8 z9 (g6 (i4 K) (g6 (j3 K) (f8 1) (f8 0) (fun _ _=>rfl)) b6 (fun _ _=>rfl)) (g6 (i4 K) (g6 (j3 K) (f8 1) (d8 z9 (f8 0) b6) (fun _ _=>rfl)) b6 (fun _ _=>rfl))) a9)))) (by decide))))))) (e9 (j5 (u0 (a8 (f8 3) (a8 (fm K (f8 4) (bF (dF dw b6))) a9)))))))))),?_⟩;have hul:=hP.len;walk_at "rz";intro lr hlr;have s1:=b9.new (o:=.lst ws) hlr;have r1:=b7 (H:=H) (a:=lr) (o:=.lst ws);generalize upd H lr (.lst ws)=H1 at *;have hP1:=hP.same s1;walk_at "rz";intro lf hlf;have s2:=s1.trans (b9.new (o:=.lst []) hlf);have r2:=b9.new (o:=.lst []) hlf _ _ r1;have f2:=b7 (H:=H1) (a:=lf) (o:=.lst []);have hP2:=hP1.same (b9.new (o:=.lst []) hlf);have nlf:H lf=none:=s1.free hlf;generalize upd H1 lf (.lst [])=H2 at *;walk_at "rz";intro lg hlg;have s3:=s2.trans (b9.new (o:=.lst []) hlg);have r3:=b9.new (o:=.lst []) hlg _ _ r2;have f3:=b9.new (o:=.lst []) hlg _ _ f2;have g3:=b7 (H:=H2) (a:=lg) (o:=.lst []);have hP3:=hP2.same (b9.new (o:=.lst []) hlg);have nlg:H lg=none:=s2.free hlg;have nfg:lf≠lg:=fun z=>by rw[<- z,f2] at hlg;cases hlg
 have nrf:lr≠lf:=fun z=>by rw[<- z,r1] at hlf;cases hlf
 have nrg:lr≠lg:=fun z=>by rw[<- z,r2] at hlg;cases hlg
 generalize upd H2 lg (.lst [])=H3 at *;clear s1 s2 hP1 hP2 r1 r2 f2 hlf hlg;walk_at "rz";refine⟨by lia,by lia,cN (fun i σ H'=>∃ (lr:Addr) (rs us1 us2:List V) (y5:Option V),σ=[some (.ref a),some (.int ((ws.length:Int) - 1)),some (.ref lr),some (.ref lf),some (.ref lg),y5]/\b9 H H'/\H' lf=some (.lst us1)/\H' lg=some (.lst us2)/\H' lr=some (.lst rs)/\lr≠lf/\lr≠lg/\v7 H' rs (cv c i)/\v7 H' us1 ((b0y i).map fun r=>jX c r 0)/\v7 H' us2 ((b0y i).map fun r=>jX c r (c.length - 1 - r))) ⟨lr,ws,[],[],none,rfl,s3,f3,g3,r3,nrf,nrg,hP3,⟨rfl,fun i v p e=>by simp at e⟩,⟨rfl,fun i v p e=>by simp at e⟩⟩ ?_ ?_⟩
 .rintro i σ H4 hi ⟨lr,rs,us1,us2,y5,rfl,s4,q1,q2,q3,n1,n2,P3,P1,P2⟩;have hi':i<c.length:=by lia
  have hrl:=P3.len;rw[be] at hrl;have u1l:=P1.len;have u2l:=P2.len;rw[a9a,b1d] at u1l u2l;have zs:=uP hz i;have e0:(cv c i)[0]?=some ((cv c i)[0]'(by rw[be];lia)):=a8y _;obtain⟨a0,w0,g0⟩:=P3.at e0;obtain⟨vL,wL,aL,rfl,gL⟩:=yM P3 (by rw[be];lia);rw[be] at gL;have v0:=vN c i 0 (by lia);have v1:=vN c i (c.length - 1 - i) (by lia);have zz0:Sz 2020 ((cv c i)[0]'(by rw[be];lia)).1/\Sz 2020 ((cv c i)[0]'(by rw[be];lia)).2:=⟨(zs _ (a9n _)).1.mono (by lia),(zs _ (a9n _)).2.mono (by lia)⟩
  have zz1:Sz 2020 (((cv c i)[c.length - 1 - i]?).getD (0,0)).1/\Sz 2020 (((cv c i)[c.length - 1 - i]?).getD (0,0)).2:=by
   have:=jt (P:=fun p=>Sz (n+i) p.1/\Sz (n+i) p.2) ⟨gu _,gu _⟩ zs (c.length - 1 - i);exact⟨this.1.mono (by lia),this.2.mono (by lia)⟩
  rw[e0] at v0;simp only[b8e] at v0;generalize ((cv c i)[0]'(by rw[be];lia))=p0 at *;rw[show c.length - i - 1=c.length - 1 - i by lia] at gL;generalize ((cv c i)[c.length - 1 - i]?).getD (0,0)=pL at *;have hpw:(1:Int)*2^((ws.length:Int) - 1 - (0+(i:Int))).toNat=2^(c.length - 1 - i):=by
   rw[b7f,show ((ws.length:Int) - 1 - (0+(i:Int))).toNat=c.length - 1 - i by lia]
  have zpw:Sz 14 ((1:Int)*2^((ws.length:Int) - 1 - (0+(i:Int))).toNat):=by rw[hpw];exact (bt _).mono (by lia)
  have hcp:a6g 1 ((ws.length:Int) - 1 - (0+(i:Int))):=⟨by lia,by lia,by decide⟩
  walk_at "rz";refine⟨.inl ⟨rfl,_,o7.of q1⟩,?_⟩;walk_at "rz";refine⟨lr,rs,_,_,rfl,rfl,o7.of q3,z7 (j:=0) rfl w0,?_⟩;walk_at "rz";refine⟨hcp,?_⟩;walk_at "rz";refine⟨nI zz0.1 zpw (by decide),?_⟩;walk_at "rz";refine⟨lr,rs,_,_,rfl,rfl,o7.of q3,z7 (j:=0) rfl w0,?_⟩;walk_at "rz";refine⟨hcp,?_⟩;walk_at "rz";refine⟨nI zz0.2 zpw (by decide),?_⟩;walk_at "rz";intro t1 ht1;have k1:(upd H4 t1 (.tup [.int (p0.1*(1*2^((ws.length:Int) - 1 - (0+(i:Int))).toNat)),.int (p0.2*(1*2^((ws.length:Int) - 1 - (0+(i:Int))).toNat))])) t1=some (.tup [.int (jX c i 0).1,.int (jX c i 0).2]):=by rw[b7,v0,hpw]
  have s5:=b9.new (o:=.tup [.int (p0.1*(1*2^((ws.length:Int) - 1 - (0+(i:Int))).toNat)),.int (p0.2*(1*2^((ws.length:Int) - 1 - (0+(i:Int))).toNat))]) ht1;generalize upd H4 t1 (.tup [.int (p0.1*(1*2^((ws.length:Int) - 1 - (0+(i:Int))).toNat)),.int (p0.2*(1*2^((ws.length:Int) - 1 - (0+(i:Int))).toNat))])=H5 at *;dsimp only[q9];refine⟨lf,us1,_,rfl,rfl,s5 _ _ q1,j8 (by lia),?_⟩;have t5:bR H5 (upd H5 lf (.lst (us1++[.ref t1]))):=bR.lst (s5 _ _ q1);have q1':(upd H5 lf (.lst (us1++[.ref t1]))) lf=some (.lst (us1++[.ref t1])):=b7;have q2':(upd H5 lf (.lst (us1++[.ref t1]))) lg=some (.lst us2):=by rw[i9 nfg.symm];exact s5 _ _ q2
  have q3':(upd H5 lf (.lst (us1++[.ref t1]))) lr=some (.lst rs):=by rw[i9 n1];exact s5 _ _ q3
  have s6:b9 H (upd H5 lf (.lst (us1++[.ref t1]))):=ak nlf (s4.trans s5);have P1':=((P1.same s5).snoc (v:=.ref t1) (p:=jX c i 0) ⟨t1,rfl,k1⟩).tup t5;have P2':=(P2.same s5).tup t5;have P3':=(P3.same s5).tup t5;have gL':=t5 _ _ (s5 _ _ gL);clear q1 q2 q3 s4 P1 P2 P3 gL t5 k1 ht1 v0 zz0 w0 g0;generalize upd H5 lf (.lst (us1++[.ref t1]))=H6 at *;walk_at "rz";refine⟨.inl ⟨rfl,_,o7.of q2'⟩,?_⟩;walk_at "rz";refine⟨lr,rs,_,_,rfl,rfl,o7.of q3',cQ rs (.ref aL) wL (by lia),?_⟩;walk_at "rz";refine⟨hcp,?_⟩;walk_at "rz";refine⟨nI zz1.1 zpw (by decide),?_⟩;walk_at "rz";refine⟨lr,rs,_,_,rfl,rfl,o7.of q3',cQ rs (.ref aL) wL (by lia),?_⟩;walk_at "rz";refine⟨hcp,?_⟩;walk_at "rz";refine⟨nI zz1.2 zpw (by decide),?_⟩;walk_at "rz";intro t2 ht2;have k2:(upd H6 t2 (.tup [.int (pL.1*(1*2^((ws.length:Int) - 1 - (0+(i:Int))).toNat)),.int (pL.2*(1*2^((ws.length:Int) - 1 - (0+(i:Int))).toNat))])) t2=some (.tup [.int (jX c i (c.length - 1 - i)).1,.int (jX c i (c.length - 1 - i)).2]):=by rw[b7,v1,hpw]
  have s7:=b9.new (o:=.tup [.int (pL.1*(1*2^((ws.length:Int) - 1 - (0+(i:Int))).toNat)),.int (pL.2*(1*2^((ws.length:Int) - 1 - (0+(i:Int))).toNat))]) ht2;generalize upd H6 t2 (.tup [.int (pL.1*(1*2^((ws.length:Int) - 1 - (0+(i:Int))).toNat)),.int (pL.2*(1*2^((ws.length:Int) - 1 - (0+(i:Int))).toNat))])=H7 at *;dsimp only[q9];refine⟨lg,us2,_,rfl,rfl,s7 _ _ q2',j8 (by lia),?_⟩;have t7:bR H7 (upd H7 lg (.lst (us2++[.ref t2]))):=bR.lst (s7 _ _ q2');have c1:(upd H7 lg (.lst (us2++[.ref t2]))) lf=some (.lst (us1++[.ref t1])):=by rw[i9 nfg];exact s7 _ _ q1'
  have c2:(upd H7 lg (.lst (us2++[.ref t2]))) lg=some (.lst (us2++[.ref t2])):=b7;have c3:(upd H7 lg (.lst (us2++[.ref t2]))) lr=some (.lst rs):=by rw[i9 n2];exact s7 _ _ q3'
  have s8:b9 H (upd H7 lg (.lst (us2++[.ref t2]))):=ak nlg (s6.trans s7);have R1:=(P1'.same s7).tup t7;have R2:=((P2'.same s7).snoc (v:=.ref t2) (p:=jX c i (c.length - 1 - i)) ⟨t2,rfl,k2⟩).tup t7;have R3:=(P3'.same s7).tup t7;clear q1' q2' q3' s6 s7 P1' P2' P3' gL' t7 k2 ht2 v1 zz1 wL;generalize upd H7 lg (.lst (us2++[.ref t2]))=H8 at *;walk_at "rz";refine⟨by lia,by lia,en (fR 0 ((rs.length:Int) - 1).toNat _) (by lia) (fun j v H=>wf H v (((sN (cv c i))[j]?).getD (0,0)).1 (((sN (cv c i))[j]?).getD (0,0)).2) (fun _ _ _ _ t h=>h.tup t) (fun j H9 kk hj s9 hk=>?_) (fun D ys H9 hD s9 hd hyl hr=>?_)⟩
  .have e1:(cv c i)[j]?=some ((cv c i)[j]'(by rw[be];lia)):=a8y _;have e2:(cv c i)[j+1]?=some ((cv c i)[j+1]'(by rw[be];lia)):=a8y _;obtain⟨b1,w1,g1⟩:=R3.at e1;obtain⟨b2,w2,g2⟩:=R3.at e2;have es:=N6 e1 e2;generalize ((cv c i)[j]'(by rw[be];lia))=p1 at *;generalize ((cv c i)[j+1]'(by rw[be];lia))=p2 at *;replace g1:=s9 _ _ g1;replace g2:=s9 _ _ g2;have c9:=s9 _ _ c3;walk_at "rz";refine⟨lr,rs,_,_,rfl,rfl,o7.of c9,z7 (j:=j) (by lia) w1,?_⟩;walk_at "rz";refine⟨lr,rs,_,_,rfl,rfl,o7.of c9,z7 (j:=j+1) (by lia) w2,?_⟩;walk_at "rz";refine⟨lr,rs,_,_,rfl,rfl,o7.of c9,z7 (j:=j) (by lia) w1,?_⟩;walk_at "rz";refine⟨lr,rs,_,_,rfl,rfl,o7.of c9,z7 (j:=j+1) (by lia) w2,?_⟩;walk_at "rz";intro t ht;refine hk _ _ (b9.new ht) ⟨t,rfl,?_⟩;rw[b7,es];rfl
  .walk_at "cd";refine⟨D,ys,_,_,_,rfl,s8.trans s9,s9 _ _ c1,s9 _ _ c2,hd,(fun z=>by rw[z,c1] at hD;cases hD),(fun z=>by rw[z,c2] at hD;cases hD),⟨by show ys.length=(sN (cv c i)).length;rw[vg,be];lia,fun j v p w1 w2=>?_⟩,?_,?_⟩
   .have:=hr j v w1;rw[show (sN (cv c i))[j]?=some p from w2] at this;exact this
   .rw[b6m,b2w];exact R1.same s9
   .rw[b6m,b2w];exact R2.same s9
 .rintro σ H4 ⟨lr,rs,us1,us2,y5,rfl,s4,q1,q2,q3,n1,n2,P3,P1,P2⟩;rw[show ((ws.length:Int) - 1+1).toNat=c.length by lia] at P1 P2;rw[a5k] at P1;have u2l:=P2.len;rw[a9a,b1d] at u2l;walk_at "rz";refine⟨lg,us2,rfl,o7.of q2,fun l5 hl5=>?_⟩;have s5:=b9.new (o:=.lst us2.reverse) hl5;have k5:=b7 (H:=H4) (a:=l5) (o:=.lst us2.reverse);have P5:=(P2.rev).same s5;rw[a4r] at P5;generalize upd H4 l5 (.lst us2.reverse)=H5 at *;dsimp only[q9];walk_at "rz";intro r hr;have s6:=b9.new (o:=.lst [.ref lf,.ref l5]) hr;exact k r lf l5 us1 us2.reverse _ ((s4.trans s5).trans s6) b7 ((s4.trans s5).free hr) nlf (s4.free hl5) (s6 _ _ (s5 _ _ q1)) (s6 _ _ k5) ((P1.same s5).same s6) (P5.same s6)
theorem jS(F:j4 K mg "_law_whole_seats" bv ["_law_curve"])(b39:i7 P w K mg base z8 1 "_law_part" ["_law_one","_law_other"] sJ):i7 P w K mg base z8 2 "_law_whole_seats" ["_law_curve"] (qJ K):=by
 refine o5 F bf (fun vs H Q E h=>?_) (fun f cdv A outer s H vs Q E hr h=>?_)
 .obtain⟨a,ws,ps,B0,m,rfl,_⟩:=h;rfl
 obtain⟨a,ws,ps,B0,m,rfl,hS,hP,hB,zB,hm,hov,hn,k⟩:=h;have hu:=hr.units;refine⟨_,(b8 (i5 (i:=1) bf.nd rfl (Or.inr rfl) b6) (b8 (aP PassesOwn.never rfl (o8 K (f8 0)) (g8 (i:=2) bf.nd rfl (Or.inl rfl)) (e9 (aP PassesOwn.never rfl (fS K (f8 2)) (g8 (i:=3) bf.nd rfl (Or.inl rfl)) (e9 (i5 (i:=1) bf.nd rfl (Or.inr rfl) (d8 k8 (d8 bH (f8 1) (i6 b39 hr j7 (a8 (f8 1) (a8 (g6 (i4 K) (f8 3) b6 (fun _ _=>rfl)) a9)))) (g6 (i4 K) (f8 3) b6 (fun _ _=>rfl)))))))) (e9 (j5 (n4 (a8 (f8 1) (a8 (ag (os:=["_law_x","_law_y"]) (caps:=[(1,"_law_bottom")]) ["_law_curve","_law_bottom","_law_place","_law_one"] (d4 bv) (o8 K (f8 0)) (fun _ _ _ _ _=>(u8 (n:=2) K rfl (g9 (g8 (i:=0) (show a9x (["_law_x","_law_y","_law_bottom"]:List Str) from by decide) rfl (Or.inl rfl)) (g9 (g8 (i:=1) (show a9x (["_law_x","_law_y","_law_bottom"]:List Str) from by decide) rfl (Or.inl rfl)) u5)))) (fun _ _ _ _ _=>(n4 (a8 (d8 k8 (g6 (i4 K) (f8 0) b6 (fun _ _=>rfl)) (d8 bH (f8 2) (g6 (i4 K) (f8 0) b6 (fun _ _=>rfl)))) (a8 (d8 k8 (g6 (i4 K) (f8 1) b6 (fun _ _=>rfl)) (d8 bH (f8 2) (g6 (i4 K) (f8 1) b6 (fun _ _=>rfl)))) a9)))) (by decide)) a9))))))),?_⟩;have hpl:=hP.len;walk_at "rz";refine⟨⟨_,o7.of hS⟩,cF (xs:=ws) (fun i σ H'=>∃ (y2 y3:Option V) (b:Int),σ=[some (.ref a),some (.int b),y2,y3]/\b9 H H'/\0<b/\b∣B0/\∀ p∈ps.take i,(p.1.den:Int)∣b/\(p.2.den:Int)∣b) ⟨none,none,1,rfl,L2.b9.refl _,by decide,Int.one_dvd _,fun p hp=>by simp at hp⟩ ?_ ?_ ?_⟩
 .rintro i σ H' _ ⟨_,_,_,_,s2,_⟩;exact o7.of (s2 _ _ hS)
 .rintro i x σ H2 hx ⟨y2,y3,b,rfl,s2,b0,bB,hpre⟩;have hi:i<ps.length:=by rw[<- hpl];exact (a9c.mp hx).1
  have hp:=pZ hi;obtain⟨c,u,v,rfl,hc,hu,hv⟩:=hP.get i x _ hx hp;have hb:=hov _ (E7 hi);have htk:ps.take (i+1)=ps.take i++[gq ps i]:=by rw[b4j,hp];rfl
  generalize gq ps i=p at *;walk_at "rz";refine⟨⟨_,aj.of (s2 _ _ hc)⟩,vR (xs:=[u,v]) (fun j σ H'=>∃ (y3:Option V) (b:Int),σ=[some (.ref a),some (.int b),some (.ref c),y3]/\b9 H H'/\0<b/\b∣B0/\(∀ p∈ps.take i,(p.1.den:Int)∣b/\(p.2.den:Int)∣b)/\(1<=j->(p.1.den:Int)∣b)/\(2<=j->(p.2.den:Int)∣b)) ⟨_,b,rfl,s2,b0,bB,hpre,fun z=>by lia,fun z=>by lia⟩ ?_ ?_ ?_⟩
  .rintro j σ H' _ ⟨_,_,_,s3,_⟩;exact aj.of (s3 _ _ hc)
  .rintro j x σ H3 hx ⟨y3,b,rfl,s3,b0,bB,hpre,h1,h2⟩;have hq:∃ q:Rat,bh H x q/\Ov B0 m q/\((j=0/\q=p.1)\/(j=1/\q=p.2)):=by
    match j,hx with
    | 0,hx=>cases hx;exact⟨_,hu,hb.1,.inl ⟨rfl,rfl⟩⟩
    | 1,hx=>cases hx;exact⟨_,hv,hb.2,.inr ⟨rfl,rfl⟩⟩
    | j+2,hx=>simp at hx
   obtain⟨q,⟨t,rfl,ht⟩,oq,ej⟩:=hq;replace ht:=s3 _ _ ht;have d0:(0:Int)<(q.den:Int):=by have:=q.den_pos;lia
   obtain⟨c0,c1,c2,c3⟩:=xh b0 d0 bB (em oq);have zb:Sz 60 b:=gb b0 hB bB zB;have zq:Sz 60 (q.den:Int):=gb d0 hB (em oq) zB;have g0:(0:Int)<(a9r b (q.den:Int):Int):=by
    have:0<a9r b (q.den:Int):=Int.gcd_pos_of_ne_zero_left _ (by lia);lia
   walk_at "rz";dsimp only[q9];refine⟨b,q.den,rfl,by lia,by lia,?_⟩;have zg:Sz 60 (a9r b (q.den:Int):Int):=gb g0 b0 (b6d ..) zb;have f0:0<b.fdiv (a9r b (q.den:Int):Int):=ky d0 (by rw[b1f];exact c0);have zf:Sz 60 (b.fdiv (a9r b (q.den:Int):Int)):=gb f0 hB (b3o ⟨_,rfl⟩ c3) zB;walk_at "rz";refine⟨⟨by lia,zg.mono (by decide)⟩,?_⟩;walk_at "rz";refine⟨_,_,rfl,s3,c0,c3,fun p' hp'=>⟨b3o (hpre p' hp').1 c1,b3o (hpre p' hp').2 c1⟩,fun _=>?_,fun z=>?_⟩
   .rcases ej with⟨_,rfl⟩ | ⟨e,_⟩
    .exact c2
    .exact b3o (h1 (by lia)) c1
   .rcases ej with⟨e,_⟩ | ⟨_,rfl⟩
    .lia
    .exact c2
  .rintro σ H3 ⟨y3,b,rfl,s3,b0,bB,hpre,h1,h2⟩;refine⟨_,_,b,rfl,s3,b0,bB,fun p' hp'=>?_⟩;rw[htk] at hp';rcases a9k.mp hp' with z | z
   .exact hpre p' z
   .rw[a9q.mp z];exact⟨h1 (by show 1<=2;decide),h2 (by show 2<=2;decide)⟩
 .rintro σ H2 ⟨y2,y3,Bo,rfl,s2,B1,bB,hdv⟩;rw[hpl,b3e] at hdv;have hS2:=s2 _ _ hS;have zBo:Sz 60 Bo:=gb B1 hB bB zB;obtain⟨fx,fy,hJ,hxy⟩:=sQ (K:=K) (o7.of hS2) (hP.same s2);walk_at "rz";refine⟨⟨ws,o7.of hS2⟩,mV hJ (by lia) (fun i v H=>wf H v (M9 Bo (gq ps i)).1 (M9 Bo (gq ps i)).2) (fun _ _ _ _ t h=>h.tup t) (fun i H5 kk hi s5 hk=>?_) (fun E ys H5 hE s5 hE' hl5 hr=>?_)⟩
  .have hp:=pZ hi;obtain⟨⟨ua,eua,hu⟩,⟨va,eva,hv⟩⟩:=hxy i _ hp;have hb:=hov _ (E7 hi);have hb':=jm hB zB hb 2000 (by lia) (by lia);have hu5:=s5 _ _ hu;have hv5:=s5 _ _ hv;rw[eua,eva];have d1:((gq ps i).1.den:Int)≠0:=by have:=(gq ps i).1.den_pos;lia
   have d2:((gq ps i).2.den:Int)≠0:=by have:=(gq ps i).2.den_pos;lia
   walk_at "rz";refine⟨⟨d1,hb'.1.den.mono (by decide)⟩,?_⟩;walk_at "rz";refine⟨nI hb'.1.num (by rw[mO];exact I0 B1 zBo) (by lia),?_⟩;walk_at "rz";refine⟨⟨d2,hb'.2.den.mono (by decide)⟩,?_⟩;walk_at "rz";refine⟨nI hb'.2.num (by rw[mO];exact I0 B1 zBo) (by lia),?_⟩;walk_at "rz";intro g hg;refine hk _ _ (b9.new hg) ⟨g,rfl,?_⟩;rw[b7];simp only[M9,<- mO]
  .walk_at "rz";intro t ht;have s6:=b9.new (o:=.tup [.int Bo,.ref E]) ht;have etp:aW Bo Bo (ps.map (M9 Bo))=ps:=by
    unfold aW;rw[b2h];exact (b1v fun p hp=>kX B1 (hdv p hp).1 (hdv p hp).2).trans (c0t _)
   refine k t E ys (ps.map (M9 Bo)) Bo _ ((s2.trans s5).trans s6) b7 (s2.free hE) (s6 _ _ hE') ?_ B1 bB etp ?_
   .refine v7.same (H:=H5) ⟨by rw[hl5,a9a],fun i v p w1 w2=>?_⟩ s6;rw[a9h] at w2;obtain⟨c,ec,rfl⟩:=b4f.mp w2;have hi':=(a9c.mp ec).1;rw[pZ hi'] at ec;cases ec;exact hr i v w1
   .intro p hp;obtain⟨q,hq,rfl⟩:=a9m.mp hp;have ho:=hov q hq;rw[<- kX B1 (hdv q hq).1 (hdv q hq).2] at ho;exact⟨iP B1 hB bB ho.1,iP B1 hB bB ho.2⟩
theorem mD(F:j4 K mg "_law_stretches" bW ["_law_curve","_law_level_here"])(B:nt mg)(b41:i7 P w K mg base z8 2 "_law_share" ["_law_top","_law_bottom"] eG)(b46:i7 P w K mg base z8 1 "_law_halved" ["_law_some"] (oi K))(b47:i7 P w K mg base z8 2 "_law_whole_seats" ["_law_curve"] (qJ K)):i7 P w K mg base z8 3 "_law_stretches" ["_law_curve","_law_level_here"] (sL K):=by
 refine o5 F ai (fun vs H Q E h=>?_) (fun f cdv A outer s H vs Q E hr h=>?_)
 .obtain⟨a,ws,ps,B0,m,L,rfl,_⟩:=h;rfl
 obtain⟨a,ws,ps,B0,m,L,rfl,ha,hP,hB,zB,hm,hov,h1,h12,hL,hLm,k⟩:=h;have hu:=hr.units;refine⟨_,(b8 (aX (i6 b47 hr j7 (a8 (f8 0) a9)) (u8 (n:=2) K rfl (g9 (g8 (i:=2) ai.nd rfl (Or.inr rfl)) (g9 (g8 (i:=3) ai.nd rfl (Or.inl rfl)) u5)))) (b8 (i5 (i:=4) ai.nd rfl (Or.inl rfl) (u0 (a8 (f8 3) a9))) (b8 (aP PassesOwn.never rfl (bG rfl B.range (a8 (f8 1) a9)) (g8 (i:=5) ai.nd rfl (Or.inl rfl)) (b8 (i5 (i:=6) ai.nd rfl (Or.inl rfl) (u0 a9)) (b8 (aP PassesOwn.never rfl (o8 K (f8 4)) (g8 (i:=7) ai.nd rfl (Or.inl rfl)) (e9 (aC (show ao _ _ (qp K _ _ _ _) from (bQ b0c b7y b7z oA (f8 6) (a8 (i6 b46 hr j7 (a8 (f8 7) a9)) a9)))))) (b8 (i5 (i:=4) ai.nd rfl (Or.inl rfl) (f8 6)) (e9 (i5 (i:=2) ai.nd rfl (Or.inr rfl) (d8 k8 (f8 2) (d8 jQ b6 (d8 bg (o9 (bz K) (by rfl) B.len PySem.boot_len (a8 (f8 0) a9)) b6))))))))) (e9 (j5 (ag (os:=["_law_one"]) (caps:=[(2,"_law_bottom")]) ["_law_curve","_law_level_here","_law_bottom","_law_some","_law_found","_law_turn","_law_halves","_law_one"] (d4 bW) (o8 K (f8 4)) (fun _ _ _ _ _=>(g8 (i:=0) (show a9x (["_law_one","_law_bottom"]:List Str) from by decide) rfl (Or.inl rfl))) (fun _ _ _ _ _=>(wI (os:=["_law_x","_law_y"]) (caps:=[(1,"_law_bottom")]) (o8 K (f8 0)) (fun _ _ _ _ _=>(u8 (n:=2) K rfl (g9 (g8 (i:=0) (show a9x (["_law_x","_law_y","_law_bottom"]:List Str) from by decide) rfl (Or.inl rfl)) (g9 (g8 (i:=1) (show a9x (["_law_x","_law_y","_law_bottom"]:List Str) from by decide) rfl (Or.inl rfl)) u5)))) (fun _ _ _ _ _=>(n4 (a8 (i6 b41 hr j7 (a8 (f8 0) (a8 (f8 2) a9))) (a8 (i6 b41 hr j7 (a8 (f8 1) (a8 (f8 2) a9))) a9)))) (by kernel_rfl))) (by decide))))))),?_⟩;have hul:=hP.len;walk_at "rz";dsimp only[q9];refine⟨a,ws,ps,B0,m,rfl,ha,hP,hB,zB,by lia,hov,by lia,fun t l us c b H1 s1 ht hl0 hl hC b0 bB etp zc=>?_⟩;have hcl:c.length=ps.length:=by rw[<- etp,bL]
 walk_at "cd";refine⟨t,_,rfl,aj.of ht,rfl,_,_,rfl,_,_,rfl,rfl,?_⟩;walk_at "rz";intro lf hlf;have s2:=b9.new (o:=.lst [.ref l]) hlf;have f2:=b7 (H:=H1) (a:=lf) (o:=.lst [.ref l]);generalize upd H1 lf (.lst [.ref l])=H2 at *;have hC2:=ue (s2 _ _ hl) (hC.same s2);have s02:=s1.trans s2;clear hC;have zb:Sz 60 b:=gb b0 hB bB zB;have LV:=a1y.all etp zc;walk_at "rz";refine⟨by lia,by lia,cN (fun d σ H'=>∃ (lf:Addr) (ys:List V) (y5 y6 y7:Option V),σ=[some (.ref a),some (.int (L:Int)),some (.int (b*2^(d*(ps.length - 1)))),some (.ref l),some (.ref lf),y5,y6,y7]/\b9 H H'/\H' lf=some (.lst ys)/\cZ H' none ys (nJ c d)) ⟨lf,_,none,none,none,by rw[c0k,c0m,b9h];rfl,s02,f2,hC2⟩ ?_ ?_⟩
 .rintro d σ H3 hd ⟨lf,ys,y5,y6,y7,rfl,s3,f3,hC3⟩;have hd':d<L:=by lia
  have Ld:=LV d;have hyl:=hC3.len;have p6:(2:Nat)^d<=64:=by
   have:(2:Nat)^d<=2^6:=b4u (by decide) (by lia);lia
  have hLd:d*(ps.length+1)<=100:=b0n (b6i _ (by lia)) hLm;have hLn:d*(ps.length - 1)<=100:=b0n (b0m _ (by lia)) hLd;walk_at "rz";intro lh hlh;have s4:=b9.new (o:=.lst []) hlh;have h4:=b7 (H:=H3) (a:=lh) (o:=.lst []);generalize upd H3 lh (.lst [])=H4 at *;walk_at "rz";refine⟨⟨_,o7.of (s4 _ _ f3)⟩,cF (xs:=ys) (fun i σ H'=>∃ (y7:Option V) (zs:List V),σ=[some (.ref a),some (.int (L:Int)),some (.int (b*2^(d*(ps.length - 1)))),some (.ref l),some (.ref lf),some (.int (0+(d:Int))),some (.ref lh),y7]/\b9 H3 H'/\H' lh=some (.lst zs)/\cZ H' (some lh) zs (cU ((nJ c d).take i))) ⟨_,[],rfl,s4,h4,⟨rfl,fun i v c e=>by simp at e⟩⟩ ?_ ?_ ?_⟩
  .rintro i σ H5 _ ⟨_,_,_,s5,_⟩;exact o7.of (s5 _ _ f3)
  .rintro i x σ H5 hx ⟨y7,zs,rfl,s5,h5,hZ⟩;have hi:i<(nJ c d).length:=by rw[<- hyl];exact (a9c.mp hx).1
   have hci:(nJ c d)[i]?=some ((nJ c d)[i]):=a8y hi;obtain⟨lc,uc,rfl,_,hlc,hPc⟩:=hC3.get i x _ hx hci;have hcl2:=Ld.len _ (a9n hi);have hcz:=Ld.sz _ (a9n hi);have htk:cU ((nJ c d).take (i+1))=(cU ((nJ c d).take i)++[xS (nJ c d)[i]])++[B7 (nJ c d)[i]]:=by
    unfold cU;rw[b4j,hci,b6w];simp
   have hzl:=hZ.len;have hzl2:zs.length<=200:=by
    rw[hzl];unfold cU;rw[b6x];have:=iQ (fun _:List Pl=>2) 2 ((nJ c d).take i) fun _ _=>rfl;have h2:(b9y (fun a=>[xS a,B7 a].length) ((nJ c d).take i)).sum=((nJ c d).take i).length*2:=this;rw[h2,b0d,Ld.n];lia
   generalize (nJ c d)[i]=ci at *;walk_at "rz";refine⟨.inl ⟨rfl,_,o7.of h5⟩,?_⟩;walk_at "rz";dsimp only[q9];refine⟨lc,uc,ci,m+d*(ps.length+1),rfl,s5 _ _ hlc,hPc.same s5,by lia,by lia,hcz,by lia,fun r l1 l2 u1 u2 H6 s6 hr hr0 hl10 hl20 hl1 hl2 hP1 hP2=>?_⟩;refine⟨lh,r,zs,_,rfl,rfl,s6 _ _ h5,hr,by have:=j8 (n:=zs.length+2) (by lia);exact b1x this,?_⟩;have nl1:some l1≠some lh:=fun z=>by cases z;rw[h5] at hl10;cases hl10
   have nl2:some l2≠some lh:=fun z=>by cases z;rw[h5] at hl20;cases hl20
   have Z6:=((hZ.same s6).snoc nl1 hl1 hP1).snoc nl2 hl2 hP2;rw[a9z] at Z6;refine⟨_,zs++[.ref l1,.ref l2],rfl,ak hlh (s5.trans s6),b7,?_⟩;rw[htk];exact cZ.upd Z6 (s6 _ _ h5)
  .rintro σ H5 ⟨y7,zs,rfl,s5,h5,hZ⟩;rw[hyl,b3e] at hZ;have ha5:=s5 _ _ (s3 _ _ ha);have hpw:(1:Int)*2^((ws.length:Int) - 1).toNat=2^(ps.length - 1):=by rw[b7f,show ((ws.length:Int) - 1).toNat=ps.length - 1 by lia]
   walk_at "rz";refine⟨⟨by lia,by lia,by decide⟩,?_⟩;have zp1:Sz 200 (b*2^(d*(ps.length - 1))):=(zb.mul (bt _)).mono (by lia);have zp2:Sz 20 ((1:Int)*2^((ws.length:Int) - 1).toNat):=by rw[hpw];exact (bt _).mono (by lia)
   walk_at "rz";refine⟨lh,zs,some (.int (0+(d:Int))),some (.ref lh),y7,?_,s3.trans s5,h5,hZ.drop⟩;show [some (V.ref a),some (V.int (L:Int)),some (V.int (b*2^(d*(ps.length - 1))*(1*2^((ws.length:Int) - 1).toNat))),some (V.ref l),some (V.ref lh),some (V.int (0+(d:Int))),some (V.ref lh),y7]=_;rw[hpw,b2q,<- b9i,show d*(ps.length - 1)+(ps.length - 1)=(d+1)*(ps.length - 1) by rw[b6t]]
 .rintro σ H3 ⟨lf,ys,y5,y6,y7,rfl,s3,f3,hC3⟩;rw[show ((L:Int)).toNat=L from rfl] at hC3 ⊢;have Ld:=LV L;have hyl:=hC3.len;rw[Ld.n] at hyl;have p6:(2:Nat)^L<=64:=by
   have:(2:Nat)^L<=2^6:=b4u (by decide) (by lia);lia
  have hLn:L*(ps.length - 1)<=100:=b0n (b0m _ (by lia)) hLm;have zB':Sz 9000 (b*2^(L*(ps.length - 1))):=(zb.mul (bt _)).mono (by lia);have B1:0<b*2^(L*(ps.length - 1)):=b1b b0 (bX _);have eL:=Ld.eq;generalize b*2^(L*(ps.length - 1))=Bo at *;walk_at "rz";refine⟨⟨_,o7.of f3⟩,a8m (ae (o7.of f3)) (by lia) (fun i xs H=>aa H xs (gP (aK ps L) i)) (fun _ _ _ _ tt h=>h.tup tt) (fun j H8 kk hj s8 hk=>?_) (fun D zs H8 hD s8 hd hzl hLs=>?_)⟩
  .have hcj:(nJ c L)[j]?=some ((nJ c L)[j]'(by rw[Ld.n];lia)):=a8y _;obtain⟨lc,uc,ec,hlc,hPc⟩:=hC3.at hcj;have hcl2:=Ld.len _ (a9n (show j<(nJ c L).length by rw[Ld.n];lia));have ej:gP (aK ps L) (j:Int)=aW Bo Bo ((nJ c L)[j]'(by rw[Ld.n];lia)):=by
    unfold gP;rw[<- eL,b1o,a9h,hcj];rfl
   rw[ec];show _;rw[ej] at hk;generalize (nJ c L)[j]'(by rw[Ld.n];lia)=cj at *;walk_at "rz";refine⟨⟨_,o7.of (s8 _ _ hlc)⟩,mV (eN (o7.of (s8 _ _ hlc)) (hPc.same s8)) (by lia) (fun i v H=>lF H v (a9e ((cj[i]?).getD (0,0)).1 Bo) (a9e ((cj[i]?).getD (0,0)).2 Bo)) (fun _ _ _ _ t h=>h.tup t) (fun i H9 k9 hi s9 hk9=>?_) (fun E es H9 hE s9 he hel hr=>?_)⟩
   .walk_at "rz";dsimp only[q9];refine⟨_,Bo,rfl,B1,zB',fun v1 H10 s10 g1=>?_⟩;walk_at "rz";dsimp only[q9];refine⟨_,Bo,rfl,B1,zB',fun v2 H11 s11 g2=>?_⟩;walk_at "rz";intro t ht;have s12:=b9.new (o:=.tup [v1,v2]) ht;exact hk9 _ _ ((s10.trans s11).trans s12) ⟨t,v1,v2,rfl,b7,(g1.same s11).same s12,g2.same s12⟩
   .refine hk E es H9 s9 hE he ⟨by rw[hel,bL],fun i v p w1 w2=>?_⟩;have:=hr i v w1;unfold aW at w2;rw[a9h] at w2;obtain⟨q,eq,rfl⟩:=b4f.mp w2;rw[eq] at this;exact this
  .refine k D zs H8 (s3.trans s8) (s3.free hD) hd (by rw[hzl,hyl]) fun i v e=>?_;obtain⟨l',xs,r1,r2,r3,r4,r5⟩:=hLs.get i v e;exact⟨l',xs,r1,s3.free r2,r4,r5⟩
theorem sZ(F:j4 K mg "_law_width" eM ["_law_one","_law_other","_law_level_here"])(b45:i7 P w K mg base z8 2 "_law_most" ["_law_some"] lM)(b48:i7 P w K mg base z8 3 "_law_box" ["_law_seats"] pq)(b49:i7 P w K mg base z8 3 "_law_side" ["_law_frame"] yk)(b50:i7 P w K mg base z8 3 "_law_stretches" ["_law_curve","_law_level_here"] (sL K)):i7 P w K mg base z8 4 "_law_width" ["_law_one","_law_other","_law_level_here"] (dR K):=by
 refine o5 F lW (fun vs H Q E h=>?_) (fun f cdv A outer s H vs Q E hr h=>?_)
 .obtain⟨a,b,us,ws,ps,qs,D,m,L,rfl,_⟩:=h;rfl
 obtain⟨a,b,us,ws,ps,qs,D,m,L,rfl,ha,hP,hb,hR,p1,p12,q1,q12,hD,zD,hm,hov,hL,hLm,k⟩:=h;have hu:=hr.units;refine⟨_,(b8 (i5 (i:=3) lW.nd rfl (Or.inl rfl) (d8 jR (i6 b50 hr j7 (a8 (f8 0) (a8 (f8 2) a9))) (i6 b50 hr j7 (a8 (f8 1) (a8 (f8 2) a9))))) (e9 (j5 (i6 b45 hr j7 (a8 (ag (os:=["_law_seats"]) (caps:=[]) ["_law_one","_law_other","_law_level_here","_law_some"] (d4 eM) (o8 K (f8 3)) (fun _ _ _ _ _=>(g8 (i:=0) (show a9x (["_law_seats"]:List Str) from by decide) rfl (Or.inl rfl))) (fun _ _ _ _ _=>(i6 b49 hr j7 (a8 (i6 b48 hr j7 (a8 (f8 0) a9)) a9))) (by decide)) a9))))),?_⟩;have o1:∀ p∈ps,ki D m p:=fun p hp=>hov p (a9k.mpr (.inl hp));have o2:∀ p∈qs,ki D m p:=fun p hp=>hov p (a9k.mpr (.inr hp));have hL1:L*(ps.length+1)<=100:=b0n (b0m _ (by lia)) hLm;have hL2:L*(qs.length+1)<=100:=b0n (b0m _ (by lia)) hLm;have hL3:L*(max ps.length qs.length - 1)<=100:=b0n (b0m _ (by lia)) hLm;obtain⟨w1,w2,w3⟩:=a3k hL;have i64:((2^L:Nat):Int)=(2:Int)^L:=by simp
 obtain⟨ll1,lc1⟩:=jT (ps:=ps) L;obtain⟨ll2,lc2⟩:=jT (ps:=qs) L;have D0:0<D*2^(L*(max ps.length qs.length - 1)):=b1b hD (bX _);have zD2:Sz 170 (D*2^(L*(max ps.length qs.length - 1))):=(zD.mul (bt _)).mono (by lia);have st1:∀ i,i<2^L->a5v ps qs (D*2^(L*(max ps.length qs.length - 1))) 600 L i (gP (aK ps L) (i:Int)):=fun i hi=>by
  have e:=a8y (l:=aK ps L) (i:=i) (by lia);have g:gP (aK ps L) (i:Int)=(aK ps L)[i]'(by omega (config:={})):=by unfold gP;rw[b1o,e];rfl
  refine⟨by rw[a9i (by lia),e,g],?_,?_,fun p hp=>?_⟩
  .rw[g,lc1 _ (a9n _)];lia
  .rw[g,lc1 _ (a9n _)];lia
  .have:=vC hD o1 (M:=max ps.length qs.length) (d:=L) (by lia) (i:Int) p hp;exact⟨this.1.mono (by lia),this.2.mono (by lia)⟩
 have st2:∀ i,i<2^L->a5v ps qs (D*2^(L*(max ps.length qs.length - 1))) 600 L (2^L+i) (gP (aK qs L) (i:Int)):=fun i hi=>by
  have e:=a8y (l:=aK qs L) (i:=i) (by lia);have g:gP (aK qs L) (i:Int)=(aK qs L)[i]'(by omega (config:={})):=by unfold gP;rw[b1o,e];rfl
  refine⟨by rw[a9l (by lia),show 2^L+i - (aK ps L).length=i by lia,e,g],?_,?_,fun p hp=>?_⟩
  .rw[g,lc2 _ (a9n _)];lia
  .rw[g,lc2 _ (a9n _)];lia
  .have:=vC hD o2 (M:=max ps.length qs.length) (d:=L) (by lia) (i:Int) p hp;exact⟨this.1.mono (by lia),this.2.mono (by lia)⟩
 generalize D*2^(L*(max ps.length qs.length - 1))=DD at *;walk_at "rd";dsimp only[q9];refine⟨a,us,ps,D,m,L,rfl,ha,hP,hD,zD,hm,o1,p1,p12,hL,hL1,fun d1 y1 H1 s1 hd10 hd1 ly1 r1=>?_⟩;walk_at "rd";dsimp only[q9];refine⟨b,ws,qs,D,m,L,rfl,s1 _ _ hb,hR.same s1,hD,zD,hm,o2,q1,q12,hL,hL2,fun d2 y2 H2 s2 hd20 hd2 ly2 r2=>?_⟩;refine⟨d1,d2,y1,y2,rfl,rfl,s2 _ _ hd1,hd2,b1x (j8 (by lia)),fun l3 hl3=>?_⟩;have s3:=b9.new (o:=.lst (y1++y2)) hl3;have f3:=b7 (H:=H2) (a:=l3) (o:=.lst (y1++y2));generalize upd H2 l3 (.lst (y1++y2))=H3 at *;have items:∀ (i:Nat) v,(y1++y2)[i]?=some v->∃ (l:Addr) (xs:List V) (st:List Pt),v=.ref l/\H3 l=some (.lst xs)/\aa H3 xs st/\a5v ps qs DD 600 L i st:=fun i v e=>by
  by_cases hi:i<y1.length
  .rw[a9i hi] at e;obtain⟨l,xs,e1,e2,e3,e4⟩:=r1 i v e;exact⟨l,xs,_,e1,s3 _ _ (s2 _ _ e3),(e4.same s2).same s3,st1 i (by lia)⟩
  .rw[a9l (by lia)] at e;obtain⟨l,xs,e1,e2,e3,e4⟩:=r2 _ v e;have hj:=(a9c.mp e).1;have:=st2 (i - y1.length) (by lia);rw[show 2^L+(i - y1.length)=i by lia] at this;exact⟨l,xs,_,e1,s3 _ _ e3,e4.same s3,this⟩
 have sA:=s1.trans (s2.trans s3);have hyl:(y1++y2).length=2^L+2^L:=by rw[a9b];lia
 generalize y1++y2=ys at *;clear r1 r2 st1 st2 s1 s2 s3;walk_at "rd";refine⟨⟨_,o7.of f3⟩,en (ae (o7.of f3)) (by lia) (fun i v H=>∃ w:Rat,bh H v w/\Bd 900 w/\0<=w/\∃ st q,(aK ps L++aK qs L)[i]?=some st/\bZ st q/\xU [q.r - q.l,q.t - q.b] w) (fun i v H H' t h=>by obtain⟨w,h1,h2⟩:=h;exact⟨w,h1.tup t,h2⟩) (fun i H4 kk hi s4 hk=>?_) (fun l4 y4 H4 hl4 s4 h4 ly4 r4=>?_)⟩
 .have e1:=a8y hi;obtain⟨l,xs,st,e2,e3,e4,S⟩:=items i _ e1;rw[e1,e2];walk_at "rd";dsimp only[q9];refine⟨l,xs,st,rfl,s4 _ _ e3,e4.same s4,S.l1,by have:=S.l2;lia,fun p hp=>jm D0 zD2 (S.ov p hp) 4000 (by decide) (by decide),fun v q H5 s5 hv hq=>?_⟩;walk_at "rd";dsimp only[q9];refine⟨v,q,rfl,hv,hq.bd D0 zD2 S.ov (by decide) (by decide),fun v2 w H6 s6 hw hx=>?_⟩;have hm:=hx.mem;simp only[a9g,a9w,or_false] at hm;exact hk _ _ (s5.trans s6) ⟨w,hw,N9 D0 zD2 hq S.ov (by decide) (by decide) hm,b4s hq.nn (hx.le _ (by simp)),st,q,S.at_,hq,hx⟩
 have hn:ys.length=(aK ps L++aK qs L).length:=by rw[a9b];lia
 obtain⟨f,hf⟩:=yN (T:=Rat) (n:=ys.length) (P:=fun i w=>(∀ v,y4[i]?=some v->bh H4 v w)/\Bd 900 w/\0<=w/\∃ st q,(aK ps L++aK qs L)[i]?=some st/\bZ st q/\xU [q.r - q.l,q.t - q.b] w) (fun i hi=>by
  have e:=a8y (l:=y4) (i:=i) (by lia);obtain⟨w,h1,h2⟩:=r4 i _ e;exact⟨w,fun v ev=>by rw[e] at ev;cases ev;exact h1,h2⟩)
 have hS:iE H4 y4 ((b0y ys.length).map f):=by
  refine⟨by rw[a9a,b1d];lia,fun i v q e1 e2=>?_⟩;have hi:i<ys.length:=by have:=(a9c.mp e1).1;lia
  rw[a9h,b3r hi] at e2;cases e2;exact (hf i hi).1 v e1
 dsimp only[q9];refine⟨l4,y4,_,rfl,h4,hS,by rw[a9a,b1d];lia,fun q hq=>?_,fun v w hv hw=>?_⟩
 .obtain⟨i,hi,rfl⟩:=a9m.mp hq;exact (hf i (b1c.mp hi)).2.1.mono (by decide)
 obtain⟨i,hi,ei⟩:=a9m.mp hw.mem;have hwi:=hf i (b1c.mp hi);rw[ei] at hwi;exact k v w H4 (sA.trans s4) hv (a6p hn (fun i hi=>(hf i hi).2.2.2) hw) hwi.2.1 hwi.2.2.1
theorem tj(F:j4 K mg "_law_level" gO ["_law_one","_law_other","_law_nearness_here"])(b43:i7 P w K mg base z8 1 "_law_less" ["_law_one","_law_other"] cx)(b51:i7 P w K mg base z8 4 "_law_width" ["_law_one","_law_other","_law_level_here"] (dR K)):i7 P w K mg base z8 5 "_law_level" ["_law_one","_law_other","_law_nearness_here"] (uX K):=by
 refine o5 F io (fun vs H Q E h=>?_) (fun f cdv A outer s H vs Q E hr h=>?_)
 .obtain⟨a,b,nv,nu,us,ws,ps,qs,D,m,rfl,_⟩:=h;rfl
 obtain⟨a,b,nv,nu,us,ws,ps,qs,D,m,rfl,ha,hP,hb,hR,hnv,bnu,p1,p12,q1,q12,hD,zD,hm,hov,hL,k⟩:=h;have hu:=hr.units;refine⟨_,(b8 (i5 (i:=3) io.nd rfl (Or.inl rfl) b6) (b8 (dk PassesOwn.never (gr (pG (p9 kz (f8 3) b6 (v8 _)) (mn (br (i6 b43 hr j7 (a8 (f8 2) (a8 (i6 b51 hr j7 (a8 (f8 0) (a8 (f8 1) (a8 (f8 3) a9)))) a9))))))) (e9 (i5 (i:=3) io.nd rfl (Or.inl rfl) (d8 z9 (f8 3) b6)))) (e9 (j5 (f8 3))))),?_⟩;walk_at "rd";refine lG (fun mm σ H'=>∃ (d:Nat),mm=7 - d/\d<=7/\σ=[some (.ref a),some (.ref b),some nv,some (.int (d:Int))]/\b9 H H'/\∀ e,e<d->¬ nl ps qs nu e) (m0:=7) ⟨0,rfl,by lia,rfl,L2.b9.refl _,fun e he=>absurd he (by lia)⟩ ?_ ?_
 .rintro mm σ W0 ⟨d,rfl,hd,rfl,s0,hN⟩;walk_at "rd";dsimp only;refine qq (fun z=>?_) (fun z=>?_)
  .have d7:d<7:=by have:=of_decide_eq_true z;lia
   walk_at "rd";dsimp only[q9];refine⟨a,b,us,ws,ps,qs,D,m,d,rfl,s0 _ _ ha,hP.same s0,s0 _ _ hb,hR.same s0,p1,p12,q1,q12,hD,zD,hm,hov,by lia,b0n (b6i _ (by lia)) hL,fun v w W1 w1 hv hw bw _=>?_⟩;walk_at "rd";dsimp only[q9];refine⟨nv,v,nu,w,rfl,(hnv.same s0).same w1,hv,bnu.mono (by decide),bw.mono (by decide),?_⟩;refine⟨_,rfl,qq (fun y=>?_) (fun y=>?_)⟩
   .have hlt:=of_decide_eq_true y;walk_at "rd";refine⟨7 - (d+1),by lia,d+1,rfl,by lia,by rw[b8u];rfl,s0.trans w1,fun e he hs=>?_⟩;by_cases ed:e=d
    .subst ed;exact b8f.mpr hlt (hw.small.mpr hs)
    .exact hN e (by lia) hs
   .have hle:=b3v.mp (of_decide_eq_false y);walk_at "rd";exact k d W1 (s0.trans w1) hd hN fun _=>hw.small.mp hle
  .have d7:d=7:=by have:=of_decide_eq_false z;lia
   refine sy rfl ?_;walk_at "rd";exact k d W0 s0 hd hN fun h=>absurd h (by lia)
 .rintro σ W Q1 Q2 hq ⟨v,e1,i,j,e2,e3,kk,e4,h⟩;refine⟨v,e1,i,j,e2,e3,kk,e4,?_⟩;cases kk with
  | false=>exact sy rfl (hq _ _ (C8 h))
  | true=>
    rw[if_pos rfl] at h;refine C7 rfl ?_;obtain⟨v1,e5,v2,e6,v3,e7,v4,e8,h⟩:=h;have h':dR K [v2,v3,v4] W (fun x H1=>cx [v1,x] H1 (fun y H2=>∃ c,y=V.bl c/\Q1 c H2) E0) E0:=h;have h2:dR K [v2,v3,v4] W (fun x H1=>cx [v1,x] H1 (fun y H2=>∃ c,y=V.bl c/\Q2 c H2) E0) E0:=ph h' fun x H1 g=>pi g fun y H2 hh=>by obtain⟨c,ec,hc⟩:=hh;exact⟨c,ec,hq _ _ hc⟩
    exact⟨v1,e5,v2,e6,v3,e7,v4,e8,h2⟩
theorem nG(F:j4 K mg "_law_nearness" cz ["_law_one","_law_other","_law_s"])(b41:i7 P w K mg base z8 2 "_law_share" ["_law_top","_law_bottom"] eG)(b51:i7 P w K mg base z8 4 "_law_width" ["_law_one","_law_other","_law_level_here"] (dR K)):i7 P w K mg base z8 5 "_law_nearness" ["_law_one","_law_other","_law_s"] (uW K):=by
 refine o5 F bT (fun vs H Q E h=>?_) (fun f cdv A outer s H vs Q E hr h=>?_)
 .obtain⟨a,b,l,us,ws,xs,ps,qs,D,m,rfl,_⟩:=h;rfl
 obtain⟨a,b,l,us,ws,xs,ps,qs,D,m,rfl,ha,hP,hb,hR,hl,hxl,hx0,p1,p7,q1,q7,hD,zD,hm,hov,k⟩:=h;have hu:=hr.units;refine rX (b5b 1 (x8 cz)) (b8 (i5 (i:=5) bT.nd rfl (Or.inl rfl) (i6 b51 hr j7 (a8 (f8 0) (a8 (f8 1) (a8 (g6 (j3 K) (u0 (a8 b6 (a8 b6 (a8 b6 (a8 b6 a9))))) (d8 aI (g6 (j3 K) (f8 2) b6 (fun _ _=>rfl)) b6) (fun _ _=>rfl)) a9))))) (b8 (aw (gr (fP (p9 fU (d8 aI (g6 (j3 K) (f8 2) b6 (fun _ _=>rfl)) b6) b6 (v8 _)) (jk (p9 fU (g6 (i4 K) (f8 5) b6 (fun _ _=>rfl)) b6 (v8 _))))) (e9 (i5 (i:=5) bT.nd rfl (Or.inl rfl) (i6 b41 hr j7 (a8 (d8 z9 (d8 z9 (d8 k8 (g6 (i4 K) (f8 5) b6 (fun _ _=>rfl)) b6) b6) (d8 aI (g6 (j3 K) (f8 2) b6 (fun _ _=>rfl)) b6)) (a8 (d8 k8 (g6 (i4 K) (f8 5) b6 (fun _ _=>rfl)) b6) a9))))) w8) (e9 (j5 (f8 5))))) (fun R1 hc1 e1=>?_);refine⟨_,(b8 (aw (p9 fU (d8 aI (g6 (j3 K) (f8 2) b6 (fun _ _=>rfl)) b6) b6 (v8 _)) (b8 (i5 (i:=3) bT.nd rfl (Or.inl rfl) (i6 b51 hr j7 (a8 (f8 0) (a8 (f8 1) (a8 b6 a9))))) (e9 (aw (p9 kA (g6 (i4 K) (f8 3) b6 (fun _ _=>rfl)) b6 (v8 _)) (b8 (i5 (i:=4) bT.nd rfl (Or.inl rfl) (d8 z9 b6 (d8 aI (g6 (j3 K) (f8 2) b6 (fun _ _=>rfl)) (g6 (j3 K) (u0 (a8 b6 (a8 b6 (a8 b6 (a8 b6 a9))))) (d8 aI (g6 (j3 K) (f8 2) b6 (fun _ _=>rfl)) b6) (fun _ _=>rfl))))) (e9 (j5 (i6 b41 hr j7 (a8 (g6 (i4 K) (f8 3) b6 (fun _ _=>rfl)) (a8 (d8 k8 (g6 (i4 K) (f8 3) b6 (fun _ _=>rfl)) (f8 4)) a9)))))) w8))) w8) hc1),?_⟩;have hLm:∀ d,d<=3->d*(max ps.length qs.length+1)<=100:=fun d hd=>by have:=b4k hd (show max ps.length qs.length+1<=8 by lia);lia
 have gx:∀ i:Nat,0<=xs.getD i 0:=fun i=>by
  rw[b0h];cases e:xs[i]? with
  | none=>exact b3u _
  | some z=>exact hx0 z (a9f e)
 have go:∀ (y3 y4:Option V) H',b9 H H'->R1 { nx:=fun _ H'=>Q V.non H',rt:=Q } [some (.ref a),some (.ref b),some (.ref l),y3,y4,none] H':=by
  intro y3 y4 H1 s1;replace ha:=s1 _ _ ha;replace hb:=s1 _ _ hb;replace hl:=s1 _ _ hl;replace hP:=hP.same s1;replace hR:=hR.same s1;subst e1;walk_at "rz";intro lz hlz;have s2:=b9.new (o:=.lst [V.int 1,V.int 2,V.int 0,V.int 3]) hlz;have f2:=b7 (H:=H1) (a:=lz) (o:=.lst [V.int 1,V.int 2,V.int 0,V.int 3]);generalize upd H1 lz (.lst [V.int 1,V.int 2,V.int 0,V.int 3])=H2 at *;have hl2:=s2 _ _ hl;walk_at "rz";obtain⟨v2,hv2,hm2⟩:=qk [V.int 1,V.int 2,V.int 0,V.int 3] (xs.getD (b0l 2) 0 % 4) (by lia) (by show _<(4:Int);lia);have hL0:∃ L:Nat,v2=V.int (L:Int)/\L<=3:=by
   simp only[a9g,a9w,or_false] at hm2;rcases hm2 with rfl | rfl | rfl | rfl
   .exact⟨1,rfl,by decide⟩
   .exact⟨2,rfl,by decide⟩
   .exact⟨0,rfl,by decide⟩
   .exact⟨3,rfl,by decide⟩
  obtain⟨L,rfl,hL⟩:=hL0;refine⟨lz,_,_,_,rfl,rfl,o7.of f2,hv2,?_⟩;walk_at "rz";dsimp only[q9];refine⟨a,b,us,ws,ps,qs,D,m,L,rfl,s2 _ _ ha,hP.same s2,s2 _ _ hb,hR.same s2,p1,by lia,q1,by lia,hD,zD,hm,hov,by lia,hLm L hL,fun v w H3 s3 hv hw bw nw=>?_⟩;have s03:=s1.trans (s2.trans s3);have fin:∀ v nu H',b9 H3 H'->bh H' v nu->Bd 1000 nu->w<=nu->Q v H':=fun v nu H' s g1 g2 g3=>k v nu H' (s03.trans s) g1 g2 (.inl ⟨L,hL,hw.small.mp g3⟩);have hl3:=s3 _ _ hl2;obtain⟨av,rfl,hav⟩:=hv;have zn:=bw.num;have zd:=bw.den;have z100:Sz 7 100:=kq (b:=100) (by decide) (by decide);have new:∀ (H':Hp),b9 H3 H'->∀ v,bh H' v (a9e (w.num*100+1+xs.getD (b0l 4) 0 % 50) ((w.den:Int)*100))->Q v H':=fun H' s v hv=>by
   have d0:(0:Int)<(w.den:Int)*100:=by have:=w.den_pos;lia
   refine fin v _ H' s hv (nc d0 ?_ ((zd.mul z100).mono (by decide))) (U9 (by lia));have a1:Sz 907 (w.num*100):=zn.mul z100;have a2:Sz 907 (1+xs.getD (b0l 4) 0 % 50):=kq (b:=100) (by lia) (by decide);rw[Int.add_assoc];exact (a1.add a2).mono (by decide)
  have d0:(0:Int)<(w.den:Int)*100:=by have:=w.den_pos;lia
  walk_at "rz";dsimp only;refine qq (fun z=>?_) (fun z=>?_)
  .walk_at "cd";refine C7 rfl ?_;walk_at "rz";dsimp only[q9];refine⟨_,_,rfl,d0,(zd.mul z100).mono (by decide),fun v H4 s4 hv=>?_⟩;walk_at "rz";exact new H4 s4 v hv
  .walk_at "rz";refine qq (fun y=>?_) (fun y=>?_)
   .walk_at "rz";dsimp only[q9];refine⟨_,_,rfl,d0,(zd.mul z100).mono (by decide),fun v H4 s4 hv=>?_⟩;walk_at "rz";exact new H4 s4 v hv
   .walk_at "rz";exact fin (.ref av) w H3 (L2.b9.refl _) ⟨av,rfl,hav⟩ (bw.mono (by decide)) c0z
 walk_at "rz";dsimp only;refine qq (fun z=>?_) (fun z=>?_)
 rotate_left
 .walk_at "cd";exact go none none H (L2.b9.refl _)
 have z0:xs.getD (b0l 0) 0 % 3=1:=by have:=of_decide_eq_true z;exact V.int.inj this
 walk_at "rz";dsimp only[q9];refine⟨a,b,us,ws,ps,qs,D,m,0,rfl,ha,hP,hb,hR,p1,by lia,q1,by lia,hD,zD,hm,hov,by lia,by lia,fun v w H1 s1 hv hw bw nw=>?_⟩;obtain⟨av,rfl,hav⟩:=hv;have hl1:=s1 _ _ hl;walk_at "rz";refine qq (fun y=>?_) (fun y=>?_)
 rotate_left
 .walk_at "cd";exact go _ _ H1 s1
 have w0:0<w:=by
  have:=of_decide_eq_true y;refine Rat.lt_of_le_of_ne nw fun e=>?_;rw[<- e] at this;exact absurd this (by decide)
 have zn:=bw.num;have zd:=bw.den;walk_at "rz";intro lg hlg;have s2:=b9.new (o:=.lst [V.int 16,V.int 16,V.int 8,V.int 200]) hlg;have f2:=b7 (H:=H1) (a:=lg) (o:=.lst [V.int 16,V.int 16,V.int 8,V.int 200]);generalize upd H1 lg (.lst [V.int 16,V.int 16,V.int 8,V.int 200])=H2 at *;have hl2:=s2 _ _ hl1;have hav2:=s2 _ _ hav;have key:∃ mo:Int,nk [V.int 16,V.int 16,V.int 8,V.int 200] (xs.getD (b0l 5) 0 % 4)=some (.int mo)/\1<=mo/\(mo<=16\/(xs.getD (b0l 5) 0 % 4=3/\mo<=200)):=by
  have:xs.getD (b0l 5) 0 % 4=0\/xs.getD (b0l 5) 0 % 4=1\/xs.getD (b0l 5) 0 % 4=2\/xs.getD (b0l 5) 0 % 4=3:=by lia
  rcases this with e | e | e | e<;>rw[e]
  .exact⟨16,rfl,by decide,.inl (by decide)⟩
  .exact⟨16,rfl,by decide,.inl (by decide)⟩
  .exact⟨8,rfl,by decide,.inl (by decide)⟩
  .exact⟨200,rfl,by decide,.inr ⟨rfl,by decide⟩⟩
 obtain⟨mo,km,k1,k2⟩:=key;walk_at "rz";refine⟨by lia,?_⟩;have o1:1<=1+xs.getD (b0l 1) 0 % mo:=by have:=b4e (xs.getD (b0l 1) 0) (b:=mo) (by lia);lia
 have o2:1+xs.getD (b0l 1) 0 % mo<=mo:=by have:=b7d (xs.getD (b0l 1) 0) (b:=mo) (by lia);lia
 have zo:Sz 8 (1+xs.getD (b0l 1) 0 % mo):=kq (b:=200) (by lia) (by decide);walk_at "rz";dsimp only[q9];have d0:(0:Int)<(w.den:Int):=by have:=w.den_pos;lia
 refine⟨_,_,rfl,b1b d0 (by lia),(zd.mul zo).mono (by decide),fun v H3 s3 hv=>?_⟩;walk_at "rz";exact k v _ H3 (s1.trans (s2.trans s3)) hv (nc (b1b d0 (by lia)) (zn.mono (by decide)) ((zd.mul zo).mono (by decide))) (.inr ⟨z0,w,_,hw,w0,o1,T4 o1,by lia⟩)
theorem iz(F:j4 K mg "greatest_common" bC ["one","other"])(B:nt mg):i7 P w K mg base z8 1 "greatest_common" ["one","other"] uY:=by
 refine o5 F dA (fun vs H Q E h=>?_) (fun f cdv A outer s H vs Q E hr h=>?_)
 .obtain⟨a,b,rfl,_⟩:=h;rfl
 obtain⟨a,b,rfl,k⟩:=h;have hu:=hr.units;refine⟨_,(b8 (dk PassesOwn.never (p9 zu (f8 1) b6 (v8 _)) (e9 (cB (i:=0) (j:=1) rfl dA.nd rfl rfl (by decide) rfl rfl (a8 (f8 1) (a8 (d8 T6 (f8 0) (f8 1)) a9)) rfl))) (e9 (j5 (o9 se (by rfl) B.abs b9j (a8 (f8 0) a9))))),?_⟩;refine lH (fun σ H'=>∃ x y:Int,σ=[some (.int x),some (.int y)]/\H'=H/\a9r x y=a9r a b) (fun σ _=>match σ with | [_,some (.int y)]=>y.natAbs | _=>0) ⟨a,b,rfl,rfl,rfl⟩ ?_ ?_
 .rintro σ H' ⟨x,y,rfl,rfl,e⟩;refine⟨_,rfl,rfl,_,rfl,?_⟩;by_cases hy:y=0
  .subst hy;refine a8f rfl ?_;refine⟨_,rfl,_,rfl,?_⟩;rw[gcd_zero,e];exact k
  .refine C7 (ud hy) ?_;refine⟨_,rfl,_,rfl,_,rfl,_,_,rfl,rfl,hy,_,_,rfl,⟨_,_,rfl,rfl,?_⟩,?_⟩
   .rw[rP];exact e
   .exact X7 x y hy
 .rintro σ H' Q Q' hq ⟨v,h1,hs,k1,h2,h3⟩;exact⟨v,h1,hs,k1,h2,hq _ _ h3⟩
theorem jn(F:j4 K mg "common_bottoms" bN ["shares"])(b52:i7 P w K mg base z8 1 "greatest_common" ["one","other"] uY):i7 P w K mg base z8 2 "common_bottoms" ["shares"] (qQ K):=by
 refine o5 F aF (fun vs H Q E h=>?_) (fun f cdv A outer s H vs Q E hr h=>?_)
 .obtain⟨a,ws,qs,D,rfl,_⟩:=h;rfl
 obtain⟨a,ws,qs,D,rfl,hS,hQ,hD,zD,hdv,h40,k⟩:=h;have hu:=hr.units;refine⟨_,(b8 (i5 (i:=1) aF.nd rfl (Or.inl rfl) (u0 a9)) (b8 (i5 (i:=2) aF.nd rfl (Or.inl rfl) b6) (b8 (aP PassesOwn.never rfl (o8 K (f8 0)) (g8 (i:=3) aF.nd rfl (Or.inl rfl)) (b8 (i5 (i:=4) aF.nd rfl (Or.inl rfl) (d8 bH (g6 (i4 K) (f8 3) b6 (fun _ _=>rfl)) (i6 b52 hr j7 (a8 (f8 2) (a8 (g6 (i4 K) (f8 3) b6 (fun _ _=>rfl)) a9))))) (e9 (aw (p9 kA (f8 4) b6 (v8 _)) (b8 (aC (show ao _ _ (qp K _ _ _ _) from (bQ b0c b0p b0q aO (f8 1) (a8 (f8 4) a9)))) (e9 (i5 (i:=2) aF.nd rfl (Or.inl rfl) (d8 k8 (f8 2) (f8 4))))) w8)))) (e9 (j5 (f8 1)))))),?_⟩;walk_at "rd";intro l hl;walk_at "rd";refine⟨⟨ws,by walk_at "mv"⟩,cF (xs:=ws) (fun i σ H'=>∃ (y1 y2:Option V) (W:Int) (bs:List Int),σ=[some (.ref a),some (.ref l),some (.int W),y1,y2]/\W=j0 bs/\b9 H H'/\H' l=some (.lst (bs.map V.int))/\(∀ b∈bs,0<b/\Sz 9000 b)/\W∣D/\(∀ j q,j<i->qs[j]?=some q->(q.den:Int)∣W)/\bs.length<=i)
  ⟨none,none,1,[],rfl,rfl,b9.new hl,b7,(fun _ h=>nomatch h),⟨D,by rw[b7f]⟩,fun j q h=>absurd h (Nat.not_lt_zero _),a9j _⟩ ?_ ?_ ?_⟩
 .rintro i σ H' hi ⟨y1,y2,W,bs,rfl,eW,s1,h1,hb,hW,hq,hn⟩;exact s1.seq hS
 .rintro i x σ H' hx ⟨y1,y2,W,bs,rfl,eW,s1,h1,hb,hW,hq,hn⟩;have hi:i<ws.length:=(a9c.mp hx).1;have hwl:=hQ.len;obtain⟨q,eq,c,rfl,hc⟩:=(hQ.same s1).atV hx;have hdq:=hdv q (a9f eq);have hd0:0<(q.den:Int):=by have:=q.den_pos;lia
  obtain⟨g1,g2,g3,g4,g5⟩:=rE hd0 hW hdq;have zq:Sz 9000 (q.den:Int):=im (by lia) hdq zD;have zg:Sz 9000 (a9r W q.den:Int):=im (by lia) g5 zq;walk_at "rd";refine⟨W,q.den,rfl,?_⟩;refine⟨_,_,rfl,rfl,⟨by lia,zg⟩,?_⟩;walk_at "rd";have zW:Sz 9000 W:=im (by lia) hW zD;have zm:Sz 9000 ((q.den:Int).fdiv (a9r W q.den)):=pF hd0 g4 g5 zq;refine gX (fun hm=>?_) (fun hm=>?_)
  .walk_at "rd";refine⟨.inl ⟨rfl,_,o7.of h1⟩,?_⟩;walk_at "rd";refine⟨l,_,_,rfl,rfl,h1,j8 (by rw[a9a];lia),?_⟩;walk_at "rd";refine⟨_,_,_,bs++[(q.den:Int).fdiv (a9r W q.den)],rfl,by rw[fk,eW],fun b o e=>?_,?_,?_,g2,?_,?_⟩
   .rw[i9 (n8 e hl)];exact s1 b o e
   .rw[b7,b2w];rfl
   .intro b hb';rcases a9k.mp hb' with h | h
    .exact hb b h
    .rw[a9q.mp h];exact⟨g3,zm⟩
   .intro j r hj er;by_cases hji:j=i
    .subst hji;rw[eq] at er;cases er;exact g1
    .exact b3o (hq j r (by lia) er) ⟨_,rfl⟩
   .rw[a9b];show bs.length+1<=i+1;lia
  .have e1:(q.den:Int).fdiv (a9r W q.den)=1:=by lia
   rw[e1,b9h] at g1;refine⟨_,_,_,bs,rfl,eW,s1,h1,hb,hW,?_,by lia⟩;intro j r hj er;by_cases hji:j=i
   .subst hji;rw[eq] at er;cases er;exact g1
   .exact hq j r (by lia) er
 .rintro σ H' ⟨y1,y2,W,bs,rfl,eW,s1,h1,hb,hW,hq,hn⟩;have hwl:=hQ.len;refine⟨_,rfl,k l bs H' s1 h1 hb (fun q hm=>?_) (eW ▸ hW) (by lia)⟩;obtain⟨j,hj,rfl⟩:=a9o hm;rw[<- eW];exact hq j _ (by lia) (a8y hj)
theorem sV(F:j4 K mg "product" gI ["numbers"]):i7 P w K mg base z8 1 "product" ["numbers"] (gw K):=by
 refine o5 F eZ (fun vs H Q E h=>?_) (fun f cdv A outer s H vs Q E hr h=>?_)
 .obtain⟨a,bs,rfl,_⟩:=h;rfl
 obtain⟨a,bs,rfl,hS,hb,hn,k⟩:=h;have hu:=hr.units;refine⟨_,(b8 (i5 (i:=1) eZ.nd rfl (Or.inl rfl) b6) (b8 (aP PassesOwn.never rfl (o8 K (f8 0)) (g8 (i:=2) eZ.nd rfl (Or.inl rfl)) (e9 (i5 (i:=1) eZ.nd rfl (Or.inl rfl) (d8 k8 (f8 1) (f8 2))))) (e9 (j5 (f8 1))))),?_⟩;walk_at "rd";refine⟨⟨_,hS⟩,cF (xs:=bs.map V.int) (fun i σ H'=>∃ (y:Option V) (W:Int),σ=[some (.ref a),some (.int W),y]/\W=j0 (bs.take i)/\H'=H) ⟨none,1,rfl,rfl,rfl⟩ ?_ ?_ ?_⟩
 .rintro i σ H' hi ⟨y,W,rfl,eW,rfl⟩;exact hS
 .rintro i x σ H' hx ⟨y,W,rfl,eW,rfl⟩;obtain⟨b,eb,rfl⟩:=vI hx;have zW:Sz (9000*100+1) W:=by
   rw[eW];exact (Q4 fun c hc=>hb c (b1y hc)).mono (by rw[b0d];lia)
  walk_at "rd";refine⟨tD zW (hb b (a9f eb)).2,_,_,rfl,?_,rfl⟩;rw[jH eb,fk,eW]
 .rintro σ H' ⟨y,W,rfl,eW,rfl⟩;refine⟨_,rfl,?_⟩;rw[a9a,b3e] at eW;rw[eW];exact k
theorem T9(F:j4 K mg "axis" md ["shares"])(b53:i7 P w K mg base z8 2 "common_bottoms" ["shares"] (qQ K))(b54:i7 P w K mg base z8 1 "product" ["numbers"] (gw K)):i7 P w K mg base z8 3 "axis" ["shares"] (vc K):=by
 refine o5 F pD (fun vs H Q E h=>?_) (fun f cdv A outer s H vs Q E hr h=>?_)
 .obtain⟨a,ws,qs,D,m,rfl,_⟩:=h;rfl
 obtain⟨a,ws,qs,D,m,rfl,hS,hQ,hD,zD,hdv,hm,h40,k⟩:=h;have hu:=hr.units;refine⟨_,(b8 (i5 (i:=1) pD.nd rfl (Or.inl rfl) (i6 b53 hr j7 (a8 (f8 0) a9))) (b8 (i5 (i:=2) pD.nd rfl (Or.inr rfl) (i6 b54 hr j7 (a8 (f8 1) a9))) (e9 (j5 (n4 (a8 (ag (os:=["one"]) (caps:=[(2,"whole")]) ["shares","bottoms","whole"] (d4 md) (o8 K (f8 0)) (fun _ _ _ _ _=>(g8 (i:=0) (show a9x (["one","whole"]:List Str) from by decide) rfl (Or.inl rfl))) (fun _ _ _ _ _=>(d8 k8 (g6 (i4 K) (f8 0) b6 (fun _ _=>rfl)) (d8 bH (f8 1) (g6 (i4 K) (f8 0) b6 (fun _ _=>rfl))))) (by decide)) (a8 (f8 1) a9))))))),?_⟩;walk_at "rd";refine⟨a,ws,qs,D,rfl,hS,hQ,hD,zD,fun q hq=>(hdv q hq).1,h40,fun lb bs H1 s1 hlb hb hdb hbD hbl=>?_⟩;have hW:0<j0 bs:=gU fun b hb'=>(hb b hb').1;have zW:Sz 9000 (j0 bs):=im (by lia) hbD zD;have hwl:=hQ.len;walk_at "rd";refine⟨lb,bs,rfl,o7.of hlb,hb,by lia,?_⟩;walk_at "rd";refine⟨⟨_,s1.seq hS⟩,en (ae (s1.seq hS)) (by lia) (fun i v _=>∀ q,qs[i]?=some q->v=.int (q.num*(j0 bs).fdiv q.den)) (fun _ _ _ _ _ h=>h) (fun i H2 kk hi s2 hk=>?_) (fun E2 ys H2 hE s2 hE2 hl hr=>?_)⟩
 .have ew:ws[i]?=some ws[i]:=a8y hi;obtain⟨q,eq,c,ec,hc⟩:=((hQ.same s1).same s2).atV ew;have ef:(ws[i]?).getD V.non=.ref c:=by rw[ew];exact ec
  obtain⟨dq,bq⟩:=hdv q (a9f eq);have hd0:0<(q.den:Int):=by have:=q.den_pos;lia
  have zq:Sz 9000 (q.den:Int):=im (by lia) dq zD;have dW:=hdb q (a9f eq);have zf:Sz 9000 ((j0 bs).fdiv q.den):=pF hW hd0 dW zW;rw[ef];walk_at "rd";refine⟨⟨by lia,zq⟩,?_⟩;refine⟨_,_,rfl,rfl,nI bq.num zf (by lia),?_⟩;refine hk _ _ (L2.b9.refl _) fun q' e'=>?_;rw[eq] at e';cases e';rfl
 .walk_at "rd";intro p hp;have ey:=W7 (by lia) hr;refine k _ (qs.map fun q=>q.num*(j0 bs).fdiv q.den) bs _ (by walk_at "sm") ⟨p,E2,lb,rfl,b7,?_,?_,?_,hb,by lia,by rw[a9a];lia⟩ (K7 hW hdb) hbl hbD
  .rw[<- ey];exact aQ hp hE2
  .exact aQ hp (s2 _ _ hlb)
  .intro x hx;obtain⟨q,hq,rfl⟩:=a9m.mp hx;obtain⟨dq,bq⟩:=hdv q hq;exact (bq.num.mul (pF hW (by have:=q.den_pos;lia) (hdb q hq) zW)).mono (by lia)
theorem U0(F:j4 K mg "axes" jL ["points"])(b55:i7 P w K mg base z8 3 "axis" ["shares"] (vc K)):i7 P w K mg base z8 4 "axes" ["points"] (vd K):=by
 refine o5 F O2 (fun vs H Q E h=>?_) (fun f cdv A outer s H vs Q E hr h=>?_)
 .obtain⟨a,ws,ps,D,m,rfl,_⟩:=h;rfl
 obtain⟨a,ws,ps,D,m,rfl,hS,hP,hD,zD,hdv,hm,h40,k⟩:=h;have hu:=hr.units;refine⟨_,(e9 (j5 (n4 (a8 (i6 b55 hr j7 (a8 (ag (os:=["place"]) (caps:=[]) ["points"] (d4 jL) (o8 K (f8 0)) (fun _ _ _ _ _=>(g8 (i:=0) (show a9x (["place"]:List Str) from by decide) rfl (Or.inl rfl))) (fun _ _ _ _ _=>(g6 (i4 K) (f8 0) b6 (fun _ _=>rfl))) (by decide)) a9)) (a8 (i6 b55 hr j7 (a8 (ag (os:=["place"]) (caps:=[]) ["points"] (d4 jL) (o8 K (f8 0)) (fun _ _ _ _ _=>(g8 (i:=0) (show a9x (["place"]:List Str) from by decide) rfl (Or.inl rfl))) (fun _ _ _ _ _=>(g6 (i4 K) (f8 0) b6 (fun _ _=>rfl))) (by decide)) a9)) a9))))),?_⟩;have hwl:=hP.len;walk_at "rd";refine⟨⟨ws,by walk_at "mv"⟩,en (ae (by walk_at "mv" : o7 K _ a ws)) (by lia) (fun i v H=>∀ p,ps[i]?=some p->bh H v p.1) (fun _ _ _ _ t h p e=>(h p e).tup t) (fun i H2 kk hi s2 hk=>?_) (fun E2 ys2 H2 hE2 s2 hE'2 hl2 hr2=>?_)⟩
 .have ew:ws[i]?=some ws[i]:=a8y hi;obtain⟨p,ep,c,vx,vy,ec,hc,hx,hy⟩:=(show aa H2 ws ps by walk_at "mv").atV ew;have ef:(ws[i]?).getD V.non=.ref c:=by rw[ew];exact ec
  rw[ef];walk_at "rd";refine hk _ _ (L2.b9.refl _) fun p' e'=>?_;rw[ep] at e';cases e';assumption
 have hq2:iE H2 ys2 (ps.map (·.1)):=iE.map (by lia) hr2;clear hr2;refine⟨E2,ys2,ps.map (·.1),D,m,rfl,o7.of hE'2,hq2,hD,zD,fun q hq=>?_,hm,by rw[a9a];lia,fun v3 t3 b3 H3 s3 A3 e3 n3 g3=>?_⟩
 .obtain⟨p,hp,rfl⟩:=a9m.mp hq;exact (hdv p hp).1
 rw[a9a] at n3;walk_at "rd";refine⟨⟨ws,by walk_at "mv"⟩,en (ae (by walk_at "mv" : o7 K _ a ws)) (by lia) (fun i v H=>∀ p,ps[i]?=some p->bh H v p.2) (fun _ _ _ _ t h p e=>(h p e).tup t) (fun i H4 kk hi s4 hk=>?_) (fun E4 ys4 H4 hE4 s4 hE'4 hl4 hr4=>?_)⟩
 .have ew:ws[i]?=some ws[i]:=a8y hi;obtain⟨p,ep,c,vx,vy,ec,hc,hx,hy⟩:=(show aa H4 ws ps by walk_at "mv").atV ew;have ef:(ws[i]?).getD V.non=.ref c:=by rw[ew];exact ec
  rw[ef];walk_at "rd";refine hk _ _ (L2.b9.refl _) fun p' e'=>?_;rw[ep] at e';cases e';assumption
 have hq4:iE H4 ys4 (ps.map (·.2)):=iE.map (by lia) hr4;clear hr4;refine⟨E4,ys4,ps.map (·.2),D,m,rfl,o7.of hE'4,hq4,hD,zD,fun q hq=>?_,hm,by rw[a9a];lia,fun v5 t5 b5 H5 s5 A5 e5 n5 g5=>?_⟩
 .obtain⟨p,hp,rfl⟩:=a9m.mp hq;exact (hdv p hp).2
 rw[a9a] at n5;walk_at "rd";intro c hc;exact k c v3 v5 t3 b3 t5 b5 _ (by walk_at "sm") b7 (by walk_at "mv") (by walk_at "mv") e3 e5 n3 n5 g3 g5
theorem rk(F:j4 K mg "room_for" fh ["seats","level"]):i7 P w K mg base z8 1 "room_for" ["seats","level"] yl:=by
 refine o5 F qU (fun vs H Q E h=>?_) (fun f cdv A outer s H vs Q E hr h=>?_)
 .obtain⟨n,L,rfl,_⟩:=h;rfl
 obtain⟨n,L,rfl,h1,h2,h3,k⟩:=h;have hu:=hr.units;refine⟨_,(e9 (j5 (d8 jQ b6 (d8 k8 (f8 1) (d8 bg (f8 0) b6))))),?_⟩;walk_at "rd";have e:(L:Int)*((n:Int) - 1)=((L*(n - 1):Nat):Int):=by
  rw[show (n:Int) - 1=((n - 1:Nat):Int) by lia];exact (b8t L (n - 1)).symm
 have m1:L*(n - 1)<=1000*1000:=b4k (by lia) (by lia);refine⟨⟨by show (0:Int)<=(L:Int)*((n:Int) - 1);lia,by show (L:Int)*((n:Int) - 1)<=1000000;lia,by decide⟩,?_⟩;show Q (.int (1*2^((L:Int)*((n:Int) - 1)).toNat)) H;rw[e,b1o,b7f];exact k
theorem mz(F:j4 K mg "whole_curve" bU ["xs","ys","room"])(B:nt mg):i7 P w K mg base z8 1 "whole_curve" ["xs","ys","room"] qI:=by
 refine o5 F lR (fun vs H Q E h=>?_) (fun f cdv A outer s H vs Q E hr h=>?_)
 .obtain⟨x,y,n,t1,b1,t2,b2,R,rfl,_⟩:=h;rfl
 obtain⟨_,_,n,t1,b1,t2,b2,R,rfl,⟨a1,lt1,lb1,rfl,h1,ht1,hb1,z1,g1,n1,m1⟩,⟨a2,lt2,lb2,rfl,h2,ht2,hb2,z2,g2,n2,m2⟩,h12,zR,hn,k⟩:=h;have hu:=hr.units;refine⟨_,(e9 (j5 (ag (os:=["x","y"]) (caps:=[(2,"room")]) ["xs","ys","room"] (d4 bU) (show qw _ _ _ (W9 K _) from (vp rfl B.zip (a8 (g6 (i4 K) (f8 0) b6 (fun _ _=>rfl)) (a8 (g6 (i4 K) (f8 1) b6 (fun _ _=>rfl)) a9)))) (fun _ _ _ _ _=>(u8 (n:=2) K rfl (g9 (g8 (i:=0) (show a9x (["x","y","room"]:List Str) from by decide) rfl (Or.inl rfl)) (g9 (g8 (i:=1) (show a9x (["x","y","room"]:List Str) from by decide) rfl (Or.inl rfl)) u5)))) (fun _ _ _ _ _=>(n4 (a8 (d8 k8 (f8 0) (f8 2)) (a8 (d8 k8 (f8 1) (f8 2)) a9)))) (by decide)))),?_⟩;walk_at "rd";refine⟨_,_,rfl,⟨_,o7.of ht1⟩,⟨_,o7.of ht2⟩,mV (oy (o7.of ht1) (o7.of ht2)) (by rw[a9a,a9a];lia) (fun i v H=>∀ x y,t1[i]?=some x->t2[i]?=some y->wf H v (x*R) (y*R)) (fun _ _ _ _ t h x y e f=>(h x y e f).tup t) (fun i H2 kk hi s2 hk=>?_) (fun D us H2 hD s2 hD2 hl hr=>?_)⟩
 .rw[a9a,a9a] at hi;have e1:t1[i]?=some (t1[i]'(by omega (config:={}))):=a8y _;have e2:t2[i]?=some (t2[i]'(by omega (config:={}))):=a8y _;rw[C6 e1,C6 e2];have c1:=z1 _ (a9f e1);have c2:=z2 _ (a9f e2);walk_at "rd";refine⟨nI c1 zR (by lia),?_⟩;walk_at "rd";refine⟨nI c2 zR (by lia),?_⟩;walk_at "rd";intro p hp;refine hk _ _ (by walk_at "sm") fun x y ex ey=>?_;rw[e1] at ex;rw[e2] at ey;cases ex;cases ey;exact⟨p,rfl,b7⟩
 .rw[a9a,a9a] at hl;refine k D us H2 s2 hD hD2 ⟨by unfold sv;rw[b2m];exact hl,fun i v p e1 e2=>?_⟩;have hi:i<us.length:=(a9c.mp e1).1;have f1:t1[i]?=some (t1[i]'(by omega (config:={}))):=a8y _;have f2:t2[i]?=some (t2[i]'(by omega (config:={}))):=a8y _;unfold sv at e2;rw[b2e,f1,f2] at e2;cases e2;exact hr i v e1 _ _ f1 f2
theorem iB{C_Ground:Addr}(b56:kW K mg "Ground" C_Ground)(b57:u7 K C_Ground "room")(b58:u7 K C_Ground "x_bottoms")(b59:u7 K C_Ground "y_bottoms")(b60:u7 K C_Ground "ones")(b61:u7 K C_Ground "others")(F:jz K C_Ground "__init__" "Ground.__init__" aG ["self","one","other","level"])(B:nt mg)(b62:i7 P w K mg base z8 4 "axes" ["points"] (vd K))(b63:i7 P w K mg base z8 1 "room_for" ["seats","level"] yl)(b64:i7 P w K mg base z8 1 "whole_curve" ["xs","ys","room"] qI):gt P w K mg base z8 5 C_Ground "__init__" ["self","one","other","level"] (lO K C_Ground):=by
 refine A4 F bn (fun vs H Q E h=>?_) (fun f cdv A outer s H vs Q E hr h=>?_)
 .obtain⟨x,a,b,dx,us,ws,ps,qs,D,m,L,rfl,_⟩:=h;rfl
 obtain⟨x,a,b,dx,us,ws,ps,qs,D,m,L,rfl,hx,ha,hP,hb,hR,p1,p12,q1,q12,hD,zD,hm,hov,hL,hLn,k⟩:=h;have hu:=hr.units;refine⟨_,(b8 (aX (i6 b62 hr j7 (a8 (d8 jR (f8 1) (f8 2)) a9)) (u8 (n:=2) K rfl (g9 (g8 (i:=4) bn.nd rfl (Or.inl rfl)) (g9 (g8 (i:=5) bn.nd rfl (Or.inl rfl)) u5)))) (b8 (show qv _ _ (a2t K _ _ _) from (P8 (f8 0) (i6 b63 hr j7 (a8 (o9 (xB rfl) (by rfl) B.max b4i (a8 (o9 (bz K) (by rfl) B.len PySem.boot_len (a8 (f8 1) a9)) (a8 (o9 (bz K) (by rfl) B.len PySem.boot_len (a8 (f8 2) a9)) a9))) (a8 (f8 3) a9))))) (b8 (aX (n4 (a8 (g6 (i4 K) (f8 4) b6 (fun _ _=>rfl)) (a8 (g6 (i4 K) (f8 5) b6 (fun _ _=>rfl)) a9))) (u8 (n:=2) K rfl (g9 (gV K (f8 0)) (g9 (gV K (f8 0)) u5)))) (b8 (i5 (i:=6) bn.nd rfl (Or.inl rfl) (i6 b64 hr j7 (a8 (f8 4) (a8 (f8 5) (a8 (show ao _ _ (dL K _ _) from (aH (f8 0))) a9))))) (e9 (aX (n4 (a8 (u0 (a8 (cq (fJ K) (f8 6) cY (bF (o9 (bz K) (by rfl) B.len PySem.boot_len (a8 (f8 1) a9)))) a9)) (a8 (u0 (a8 (cq (fJ K) (f8 6) (bF (o9 (bz K) (by rfl) B.len PySem.boot_len (a8 (f8 1) a9))) cY) a9)) a9))) (u8 (n:=2) K rfl (g9 (gV K (f8 0)) (g9 (gV K (f8 0)) u5))))))))),?_⟩;have hpl:=hP.len;have hql:=hR.len;walk_at "rz";refine⟨j8 (by lia) |> b1x,fun l0 hl0=>?_⟩;have hPQ:aa H (us++ws) (ps++qs):=hP.append hR;have hov2:∀ p∈ps++qs,((p.1.den:Int)∣D/\Bd 400 p.1)/\(p.2.den:Int)∣D/\Bd 400 p.2:=fun p hp=>by
  obtain⟨o1,o2⟩:=hov p hp;obtain⟨b1,b2⟩:=jm hD zD ⟨o1,o2⟩ 400 (by lia) (by lia);exact⟨⟨em o1,b1⟩,em o2,b2⟩
 walk_at "rz";dsimp only[q9];refine⟨l0,us++ws,ps++qs,D,400,rfl,o7.of b7,hPQ.same (b9.new hl0),hD,zD.mono (by decide),hov2,by decide,by rw[a9b];lia,fun c vx vy t1 b1 t2 b2 H1 s1 hc A1 A2 e1 e2 n1 n2 g1 g2=>?_⟩;have W1:0<j0 b1:=by obtain⟨_,_,_,_,_,_,_,_,zz,_⟩:=id A1;exact gU fun b hb=>(zz b hb).1
 have W2:0<j0 b2:=by obtain⟨_,_,_,_,_,_,_,_,zz,_⟩:=id A2;exact gU fun b hb=>(zz b hb).1
 have l1:t1.length=ps.length+qs.length:=by have:=congrArg b3g e1;rw[lD,a9a,a9b] at this;exact this
 have l2:t2.length=ps.length+qs.length:=by have:=congrArg b3g e2;rw[lD,a9a,a9b] at this;exact this
 walk_at "cd";refine⟨c,_,rfl,aj.of hc,rfl,_,_,rfl,_,_,rfl,rfl,?_⟩;have s01:b9 H H1:=(b9.new hl0).trans s1;walk_at "rz";dsimp only[q9];refine⟨_,_,rfl,?_⟩;walk_at "rz";dsimp only[q9];refine⟨max ps.length qs.length,L,?_,by lia,by lia,by lia,?_⟩
 .rw[hpl,hql];congr 2;by_cases h:(qs.length:Int) > (ps.length:Int)
  .rw[if_pos h];congr 1;lia
  .rw[if_neg h];congr 1;lia
 walk_at "rz";have hx1:=s01 _ _ hx;refine⟨x,C_Ground,dx,[],rfl,hx1,b56.cl,b57,by show 0<1000;decide,?_⟩;generalize eR:(2:Int)^(L*(max ps.length qs.length - 1))=R at *;have i2:il H1 (upd H1 x (.ins C_Ground dx (aB "room" (.int R) []))):=il.upd hx1;have hx2:(upd H1 x (.ins C_Ground dx (aB "room" (.int R) []))) x=some (.ins C_Ground dx (aB "room" (.int R) [])):=b7;have n2':∀ b,b≠x->(upd H1 x (.ins C_Ground dx (aB "room" (.int R) []))) b=H1 b:=fun b hb=>i9 hb;generalize upd H1 x (.ins C_Ground dx (aB "room" (.int R) []))=H2 at *;obtain⟨ax,lt1,lx,rfl,ha1,ha2,ha3,ha4⟩:=id (A1.ins i2);obtain⟨ay,lt2,ly,rfl,hb1,hb2,hb3,hb4⟩:=id (A2.ins i2);walk_at "rz";intro tp htp;have ntx:x≠tp:=fun z=>by rw[<- z,hx2] at htp;cases htp
 have hx3:(upd H2 tp (.tup [.ref lx,.ref ly])) x=some (.ins C_Ground dx (aB "room" (.int R) [])):=by rw[i9 ntx];exact hx2
 walk_at "cd";refine⟨tp,_,rfl,aj.of b7,rfl,_,_,rfl,_,rfl,x,C_Ground,dx,_,rfl,hx3,b56.cl,b58,by show 1<1000;decide,_,_,rfl,_,rfl,x,C_Ground,dx,_,rfl,b7,b56.cl,b59,by show 2<1000;decide,rfl,?_⟩;have i3:il H2 (upd (upd (upd H2 tp (.tup [.ref lx,.ref ly])) x (.ins C_Ground dx (aB "x_bottoms" (.ref lx) (aB "room" (.int R) [])))) x (.ins C_Ground dx (aB "y_bottoms" (.ref ly) (aB "x_bottoms" (.ref lx) (aB "room" (.int R) []))))):=((il.same (b9.new htp)).trans (il.upd hx3)).trans (il.upd b7);have b3:dP x H2 (upd (upd (upd H2 tp (.tup [.ref lx,.ref ly])) x (.ins C_Ground dx (aB "x_bottoms" (.ref lx) (aB "room" (.int R) [])))) x (.ins C_Ground dx (aB "y_bottoms" (.ref ly) (aB "x_bottoms" (.ref lx) (aB "room" (.int R) []))))):=((dP.same (b9.new htp)).trans dP.upd).trans dP.upd;have hx4:(upd (upd (upd H2 tp (.tup [.ref lx,.ref ly])) x (.ins C_Ground dx (aB "x_bottoms" (.ref lx) (aB "room" (.int R) [])))) x (.ins C_Ground dx (aB "y_bottoms" (.ref ly) (aB "x_bottoms" (.ref lx) (aB "room" (.int R) []))))) x=some (.ins C_Ground dx (aB "y_bottoms" (.ref ly) (aB "x_bottoms" (.ref lx) (aB "room" (.int R) [])))):=b7;generalize (upd (upd (upd H2 tp (.tup [.ref lx,.ref ly])) x (.ins C_Ground dx (aB "x_bottoms" (.ref lx) (aB "room" (.int R) [])))) x (.ins C_Ground dx (aB "y_bottoms" (.ref ly) (aB "x_bottoms" (.ref lx) (aB "room" (.int R) [])))))=H3 at *;have b13:dP x H H3:=((dP.same s01).trans (fun b o hb e=>by rw[n2' b hb];exact e)).trans b3;walk_at "rz";refine⟨x,C_Ground,dx,_,.int R,rfl,hx4,b56.cl,b57,by rw[o6,if_neg (by decide),o6,if_neg (by decide)];rfl,?_⟩;have hKK:L*(max ps.length qs.length - 1)<=40:=hLn;have R0:0<R:=by rw[<- eR];exact bX _
 have zR:Sz 41 R:=by rw[<- eR];exact (bt _).mono (by lia)
 walk_at "rz";dsimp only[q9];refine⟨.ref ax,.ref ay,_,t1,b1,t2,b2,R,rfl,(A1.ins i2).ins i3,(A2.ins i2).ins i3,by lia,zR.mono (by decide),by lia,fun l3 u3 H4 s4 hl3 hu3 hP3=>?_⟩;have hul3:=hP3.len;rw[xX (by lia)] at hul3;have nax:a≠x:=fun z=>by rw[z,hx] at ha;cases ha
 have nbx:b≠x:=fun z=>by rw[z,hx] at hb;cases hb
 have b14:dP x H H4:=b13.trans (dP.same s4);have ha4':=b14 _ _ nax ha;have hx5:=s4 _ _ hx4;walk_at "rz";refine⟨l3,u3,rfl,o7.of hu3,fun c1 hc1=>?_⟩;rw[a5n u3 (us.length:Int) us.length rfl];walk_at "rz";intro lo hlo;have s5:b9 H4 (upd (upd H4 c1 (.lst (u3.take us.length))) lo (.lst [.ref c1])):=(b9.new hc1).trans (b9.new hlo);have f1:(upd (upd H4 c1 (.lst (u3.take us.length))) lo (.lst [.ref c1])) c1=some (.lst (u3.take us.length)):=aQ hlo b7;have f2:(upd (upd H4 c1 (.lst (u3.take us.length))) lo (.lst [.ref c1])) lo=some (.lst [.ref c1]):=b7;have hlo4:H4 lo=none:=(b9.new hc1).free hlo;generalize upd (upd H4 c1 (.lst (u3.take us.length))) lo (.lst [.ref c1])=H5 at *;have ha5:=s5 _ _ ha4';have hu5:=s5 _ _ hu3;walk_at "rz";refine⟨l3,u3,rfl,o7.of hu5,fun c2 hc2=>?_⟩;rw[xw u3 (us.length:Int) us.length rfl (by lia)];walk_at "rz";intro lt hlt;have s6:b9 H5 (upd (upd H5 c2 (.lst (u3.drop us.length))) lt (.lst [.ref c2])):=(b9.new hc2).trans (b9.new hlt);have f3:(upd (upd H5 c2 (.lst (u3.drop us.length))) lt (.lst [.ref c2])) c2=some (.lst (u3.drop us.length)):=aQ hlt b7;have f4:(upd (upd H5 c2 (.lst (u3.drop us.length))) lt (.lst [.ref c2])) lt=some (.lst [.ref c2]):=b7;have hlt5:H5 lt=none:=(b9.new hc2).free hlt;generalize upd (upd H5 c2 (.lst (u3.drop us.length))) lt (.lst [.ref c2])=H6 at *;walk_at "rz";intro tq htq;have s7:b9 H6 (upd H6 tq (.tup [.ref lo,.ref lt])):=b9.new htq;have g7:(upd H6 tq (.tup [.ref lo,.ref lt])) tq=some (.tup [.ref lo,.ref lt]):=b7;generalize upd H6 tq (.tup [.ref lo,.ref lt])=H7 at *;have s47:b9 H4 H7:=(s5.trans s6).trans s7;have hx7:=s47 _ _ hx5;walk_at "cd";refine⟨tq,_,rfl,aj.of g7,rfl,_,_,rfl,_,rfl,x,C_Ground,dx,_,rfl,hx7,b56.cl,b60,by show 3<1000;decide,_,_,rfl,_,rfl,x,C_Ground,dx,_,rfl,b7,b56.cl,b61,by show 4<1000;decide,rfl,?_⟩;have iF:il H7 (upd H7 x (.ins C_Ground dx [])):=il.upd hx7;have i37:il H3 (upd H7 x (.ins C_Ground dx [])):=(il.same (s4.trans s47)).trans iF;have i47:il H4 (upd H7 x (.ins C_Ground dx [])):=(il.same s47).trans iF;have T1:∀ x∈t1,Sz m x:=uL W1 hD g1 e1 fun q hq=>by obtain⟨p,hp,rfl⟩:=a9m.mp hq;exact (hov p hp).1
 have T2:∀ x∈t2,Sz m x:=uL W2 hD g2 e2 fun q hq=>by obtain⟨p,hp,rfl⟩:=a9m.mp hq;exact (hov p hp).2
 have C0:=a2c (R:=R) (by lia) e1 e2;obtain⟨q1',q2'⟩:=N0 C0;have C1:=a2d (L*(max ps.length qs.length - 1)) t1 t2;have C2:=a6q (k:=L*(max ps.length qs.length - 1)) T1 T2;rw[eR] at C1 C2;have fin:=k b1 b2 ((sv R t1 t2).take ps.length) ((sv R t1 t2).drop ps.length) lx ly lo lt [.ref c1] [.ref c2] (upd H7 x (.ins C_Ground dx [])) ((b14.trans (dP.same s47)).back hx) (i37.1 _ _ (i3.1 _ _ ha3)) (i37.1 _ _ (i3.1 _ _ hb3)) (iF.1 _ _ (s7 _ _ (s6 _ _ f2))) (ue (iF.1 _ _ (s7 _ _ (s6 _ _ f1))) (by rw[hpl];exact (v7.take hP3 _).tup i47.2)) (iF.1 _ _ (s7 _ _ f4)) (ue (iF.1 _ _ (s7 _ _ f3)) (by rw[hpl];exact (Q7 hP3 _).tup i47.2)) ⟨W1,W2,ha4.2.1,hb4.2.1,by rw[a9b] at n1;lia,by rw[a9b] at n2;lia,by rw[eR];exact q1',by rw[eR];exact q2',fun p hp=>C1 p (b1y hp),fun p hp=>C1 p (b1l hp),fun p hp=>C2 p (b1y hp),fun p hp=>C2 p (b1l hp),gb W1 hD g1 zD,gb W2 hD g2 zD⟩ (b14.free hx5 hlo4) ((b14.trans (dP.same s5)).free (s5 _ _ hx5) hlt5);rw[oZ] at fin;rw[oZ];exact fin
theorem wY(F:j4 K mg "halves" fL ["curve"])(B:nt mg):i7 P w K mg base z8 1 "halves" ["curve"] qO:=by
 refine o5 F gH (fun vs H Q E h=>?_) (fun f cdv A outer s H vs Q E hr h=>?_)
 .obtain⟨a,ws,c,rfl,_⟩:=h;rfl
 obtain⟨a,ws,c,rfl,ha,hP,h12,k⟩:=h;have hu:=hr.units;refine⟨_,(b8 (cB (i:=1) (j:=2) rfl gH.nd rfl rfl (by decide) rfl rfl (a8 (u0 a9) (a8 (u0 a9) a9)) rfl) (b8 (i5 (i:=3) gH.nd rfl (Or.inl rfl) (f8 0)) (b8 (dk PassesOwn.never (O7 (f8 3)) (b8 (aC (show ao _ _ (qp K _ _ _ _) from (bQ b0c b0p b0q aO (f8 1) (a8 (g6 (j3 K) (f8 3) b6 (fun _ _=>rfl)) a9)))) (b8 (aC (show ao _ _ (qp K _ _ _ _) from (bQ b0c b0p b0q aO (f8 2) (a8 (g6 (j3 K) (f8 3) (dF dw b6) (fun _ _=>rfl)) a9)))) (e9 (cK (i:=3) (os:=["x","y","u","v"]) (caps:=[]) ["curve","first","second","row"] (d4 fL) gH.nd rfl rfl (show qw _ _ _ (W9 K _) from (vp rfl B.zip (a8 (f8 3) (a8 (cq (fJ K) (f8 3) (bF b6) cY) a9)))) (fun _ _ _ _ _=>(u8 (n:=2) K rfl (g9 (u8 (n:=2) K rfl (g9 (g8 (i:=0) (show a9x (["x","y","u","v"]:List Str) from by decide) rfl (Or.inl rfl)) (g9 (g8 (i:=1) (show a9x (["x","y","u","v"]:List Str) from by decide) rfl (Or.inl rfl)) u5))) (g9 (u8 (n:=2) K rfl (g9 (g8 (i:=2) (show a9x (["x","y","u","v"]:List Str) from by decide) rfl (Or.inl rfl)) (g9 (g8 (i:=3) (show a9x (["x","y","u","v"]:List Str) from by decide) rfl (Or.inl rfl)) u5))) u5)))) (fun _ _ _ _ _=>(n4 (a8 (d8 fq (d8 z9 (f8 0) (f8 2)) b6) (a8 (d8 fq (d8 z9 (f8 1) (f8 3)) b6) a9)))) (by decide)))))) (e9 (j5 (n4 (a8 (f8 1) (a8 (fm K (f8 2) (bF (dF dw b6))) a9)))))))),?_⟩;walk_at "rz";intro l1 hl1;walk_at "rz";intro l2 hl2;refine⟨_,_,rfl,?_⟩;walk_at "rz";have n12:l1≠l2:=fun e=>by subst e;rw[b7] at hl2;cases hl2
 have na1:a≠l1:=n8 ha hl1;have hl2':H l2=none:=(b9.new (o:=.lst []) hl1).free hl2;have na2:a≠l2:=n8 ha hl2';have sA:b9 H (upd (upd H l1 (.lst [])) l2 (.lst [])):=(b9.new hl1).trans (b9.new hl2);have b1:(upd (upd H l1 (.lst [])) l2 (.lst [])) l1=some (.lst []):=aQ hl2 b7;have b2:(upd (upd H l1 (.lst [])) l2 (.lst [])) l2=some (.lst []):=b7;clear hl2;generalize upd (upd H l1 (.lst [])) l2 (.lst [])=H2 at *;refine lH (fun σ H'=>∃ (lr:Addr) (rs us1 us2:List V) (r:Nat),σ=[some (.ref a),some (.ref l1),some (.ref l2),some (.ref lr)]/\b9 H H'/\H' l1=some (.lst us1)/\H' l2=some (.lst us2)/\H' lr=some (.lst rs)/\lr≠l1/\lr≠l2/\v7 H' rs (cM c r)/\r<=c.length/\v7 H' us1 ((b0y r).map fun r=>((cM c r)[0]?).getD (0,0))/\v7 H' us2 ((b0y r).map fun r=>((cM c r)[c.length - 1 - r]?).getD (0,0))) a6j ⟨a,ws,[],[],0,rfl,sA,b1,b2,sA _ _ ha,na1,na2,hP.same sA,by lia,⟨rfl,fun i v p e=>by simp at e⟩,⟨rfl,fun i v p e=>by simp at e⟩⟩ ?_ ?_
 .rintro σ H3 ⟨lr,rs,us1,us2,r,rfl,s3,q1,q2,q3,n1,n2,P3,hr,P1,P2⟩;have hrl:=P3.len;rw[dI] at hrl;have mu0:a6j [some (.ref a),some (.ref l1),some (.ref l2),some (.ref lr)] H3=rs.length:=zZ q3;have u1l:=P1.len;have u2l:=P2.len;rw[a9a,b1d] at u1l u2l;refine⟨_,rfl,lr,rs,rfl,q3,?_⟩;refine qq (fun he=>?_) (fun he=>?_)
  .have hlt:r<c.length:=by
    cases rs with
    | nil=>simp at he
    | cons x xs=>simp at hrl;lia
   have e0:(cM c r)[0]?=some ((cM c r)[0]'(by rw[dI];lia)):=a8y _;obtain⟨a0,w0,g0⟩:=P3.at e0;obtain⟨vL,wL,gL⟩:=yz hlt P3;refine⟨_,rfl,.inl ⟨rfl,_,o7.of q1⟩,?_⟩;refine⟨_,rfl,lr,_,_,_,rfl,rfl,o7.of q3,z7 (j:=0) rfl w0,?_⟩;refine⟨l1,_,_,rfl,rfl,q1,j8 (by lia),?_⟩;have t1:bR H3 (upd H3 l1 (.lst (us1++[.ref a0]))):=bR.lst q1;have q1':(upd H3 l1 (.lst (us1++[.ref a0]))) l1=some (.lst (us1++[.ref a0])):=b7;have q2':(upd H3 l1 (.lst (us1++[.ref a0]))) l2=some (.lst us2):=by rw[i9 n12.symm];exact q2
   have q3':(upd H3 l1 (.lst (us1++[.ref a0]))) lr=some (.lst rs):=by rw[i9 n1];exact q3
   have s3':b9 H (upd H3 l1 (.lst (us1++[.ref a0]))):=ak hl1 s3;have P1':=(P1.snoc (v:=.ref a0) (p:=((cM c r)[0]'(by rw[dI];lia))) ⟨a0,rfl,g0⟩).tup t1;have P2':=P2.tup t1;have P3':=P3.tup t1;have gL':=gL.tup t1;clear q1 q2 q3 s3 P1 P2 P3 gL t1;generalize upd H3 l1 (.lst (us1++[.ref a0]))=H4 at *;refine⟨_,rfl,.inl ⟨rfl,_,o7.of q2'⟩,?_⟩;walk_at "rz";refine⟨lr,_,_,_,rfl,rfl,o7.of q3',cQ rs vL wL (by lia),?_⟩;refine⟨l2,_,_,rfl,rfl,q2',j8 (by lia),?_⟩;have t2:bR H4 (upd H4 l2 (.lst (us2++[vL]))):=bR.lst q2';have c1:(upd H4 l2 (.lst (us2++[vL]))) l1=some (.lst (us1++[.ref a0])):=by rw[i9 n12];exact q1'
   have c2:(upd H4 l2 (.lst (us2++[vL]))) l2=some (.lst (us2++[vL])):=b7;have c3:(upd H4 l2 (.lst (us2++[vL]))) lr=some (.lst rs):=by rw[i9 n2];exact q3'
   have s5:b9 H (upd H4 l2 (.lst (us2++[vL]))):=ak hl2' s3';have R1:=P1'.tup t2;have R2:=(P2'.snoc (v:=vL) (p:=((cM c r)[c.length - 1 - r]?).getD (0,0)) gL').tup t2;have R3:=P3'.tup t2;clear q1' q2' q3' s3' P1' P2' P3' gL' t2;generalize upd H4 l2 (.lst (us2++[vL]))=H5 at *;walk_at "rz";refine⟨lr,_,rfl,o7.of c3,fun l5 hl5=>?_⟩;rw[J5 rs (by lia)];have s6:b9 H5 (upd H5 l5 (.lst (rs.drop 1))):=b9.new hl5;refine⟨_,_,rfl,⟨_,o7.of (s6 _ _ c3)⟩,⟨_,o7.of b7⟩,Z4 (s6 _ _ c3) (R3.same s6) b7 (by rw[dI];lia) (fun H6 kk x y u v s7 hk=>?_) (fun D ys H6 hD s7 hd hP6=>?_)⟩
   .walk_at "rz";intro p hp;exact hk _ _ (b9.new hp) ⟨p,rfl,b7⟩
   have s8:b9 H5 H6:=s6.trans s7;have d1:=s8 _ _ c1;have d2:=s8 _ _ c2;have nD:H5 D=none:=s6.free hD;walk_at "cd";refine⟨⟨D,ys,_,_,r+1,rfl,s5.trans s8,d1,d2,hd,(fun e=>by rw[e,c1] at nD;cases nD),(fun e=>by rw[e,c2] at nD;cases nD),hP6,by lia,?_,?_⟩,?_⟩
   .rw[ml,e0];exact R1.same s8
   .rw[ml];exact R2.same s8
   .show a6j [_,_,_,some (.ref D)] H6<a6j [_,_,_,some (.ref lr)] H3;rw[zZ hd,mu0,hP6.len,jq,dI,hrl];lia
  .have hre:r=c.length:=by
    cases rs with
    | nil=>simp at hrl;lia
    | cons x xs=>simp at he
   subst hre;walk_at "rz";refine⟨l2,_,rfl,o7.of q2,fun l6 hl6=>?_⟩;walk_at "rz";intro p hp;have s6:=(b9.new (o:=.lst us2.reverse) hl6).trans (b9.new (o:=.tup [.ref l1,.ref l6]) hp);have P2r:=P2.rev;rw[B6] at P2r;exact k p l1 l6 us1 us2.reverse _ (s3.trans s6) b7 hl1 (s3.free hl6) (s6 _ _ q1) (aQ hp b7) (P1.same s6) (P2r.same s6)
 .rintro σ H1 Q1 Q2 hq ⟨v,h1,p,ys,h2,h3,h4⟩;exact⟨v,h1,p,ys,h2,h3,hq _ _ h4⟩
theorem wZ(F:j4 K mg "halved" fM ["curves"])(b65:i7 P w K mg base z8 1 "halves" ["curve"] qO):i7 P w K mg base z8 2 "halved" ["curves"] (qP K):=by
 refine o5 F wC (fun vs H Q E h=>?_) (fun f cdv A outer s H vs Q E hr h=>?_)
 .obtain⟨a,ys,css,rfl,_⟩:=h;rfl
 obtain⟨a,ys,css,rfl,ha,hC,hn,hc,k⟩:=h;have hu:=hr.units;refine⟨_,(e9 (j5 (sT (os:=["curve","half"]) (caps:=[]) ["curves"] (d4 fM) (o8 K (f8 0)) (fun _ _ _ _ _=>(g8 (i:=0) (show a9x (["curve","half"]:List Str) from by decide) rfl (Or.inl rfl))) (fun _ _ _ _ _=>(fS K (i6 b65 hr j7 (a8 (f8 0) a9)))) (fun _ _ _ _ _=>(g8 (i:=1) (show a9x (["curve","half"]:List Str) from by decide) rfl (Or.inl rfl))) (fun _ _ _ _ _=>(f8 1)) (by decide)))),?_⟩;walk_at "rd";refine⟨⟨_,o7.of ha⟩,rK ha hC hn (fun l us c o H2 R hm hl hP hR=>?_) (fun v o H2 kk hk=>?_) (fun D zs H2 hD s2 hd hCs=>?_)⟩
 .walk_at "rd";refine⟨l,us,c,rfl,hl,hP,hc c hm,fun p l1 l2 u1 u2 H3 s3 hp f1 f2 g1 g2 P1 P2=>?_⟩;walk_at "rd";exact⟨⟨_,aj.of hp⟩,hR p l1 l2 u1 u2 H3 s3 hp f1 f2 g1 g2 P1 P2⟩
 .walk_at "rd";exact hk
 .exact k D zs H2 s2 hD hd hCs
theorem jo{C_Ground:Addr}(b56:kW K mg "Ground" C_Ground)(b57:u7 K C_Ground "room")(b58:u7 K C_Ground "x_bottoms")(b59:u7 K C_Ground "y_bottoms")(b60:u7 K C_Ground "ones")(b61:u7 K C_Ground "others")(F:jz K C_Ground "go_down" "Ground.go_down" aN ["self"])(b66:i7 P w K mg base z8 2 "halved" ["curves"] (qP K)):gt P w K mg base z8 3 C_Ground "go_down" ["self"] (pr K C_Ground):=by
 refine A4 F iZ (fun vs H Q E h=>?_) (fun f cdv A outer s H vs Q E hr h=>?_)
 .obtain⟨g,dx,lx,ly,lo,lt,R,yo,yt,As,Bs,rfl,_⟩:=h;rfl
 obtain⟨g,dx,lx,ly,lo,lt,R,yo,yt,As,Bs,rfl,hg,ho,hA,ht,hB,a1,a2,b1,b2,k⟩:=h;have hu:=hr.units;refine⟨_,(e9 (aX (n4 (a8 (i6 b66 hr j7 (a8 (show ao _ _ (dL K _ _) from (aH (f8 0))) a9)) (a8 (i6 b66 hr j7 (a8 (show ao _ _ (dL K _ _) from (aH (f8 0))) a9)) a9))) (u8 (n:=2) K rfl (g9 (gV K (f8 0)) (g9 (gV K (f8 0)) u5))))),?_⟩;walk_at "rd";refine⟨g,C_Ground,dx,_,_,rfl,hg,b56.cl,b60,dj R lx ly lo lt,?_⟩;walk_at "rd";dsimp only[q9];refine⟨lo,yo,As,rfl,ho,hA,a1,a2,fun l1 u1 H1 s1 h10 h1 hC1=>?_⟩;walk_at "rd";refine⟨g,C_Ground,dx,_,_,rfl,s1 _ _ hg,b56.cl,b61,cE R lx ly lo lt,?_⟩;walk_at "rd";dsimp only[q9];refine⟨lt,yt,Bs,rfl,s1 _ _ ht,hB.same s1,b1,b2,fun l2 u2 H2 s2 h20 h2 hC2=>?_⟩;walk_at "rd";intro tq htq;have s3:b9 H2 (upd H2 tq (.tup [.ref l1,.ref l2])):=b9.new htq;have g3:(upd H2 tq (.tup [.ref l1,.ref l2])) tq=some (.tup [.ref l1,.ref l2]):=b7;generalize upd H2 tq (.tup [.ref l1,.ref l2])=H3 at *;have s03:=s1.trans (s2.trans s3);have hg3:=s03 _ _ hg;refine⟨tq,_,rfl,aj.of g3,rfl,_,_,rfl,_,rfl,g,C_Ground,dx,_,rfl,hg3,b56.cl,b60,by rw[vQ];decide,_,_,rfl,_,rfl,g,C_Ground,dx,_,rfl,b7,b56.cl,b61,by rw[rO,vQ];decide,rfl,?_⟩;rw[oZ,rO,tP];exact k l1 l2 u1 u2 H3 s03 h10 (s1.free h20) (s3 _ _ (s2 _ _ h1)) (hC1.same (s2.trans s3)) (s3 _ _ h2) (hC2.same s3)
theorem mC(F:j4 K mg "pairs_below" bV ["pairs"])(B:nt mg):i7 P w K mg base z8 1 "pairs_below" ["pairs"] (uZ K):=by
 refine o5 F lV (fun vs H Q E h=>?_) (fun f cdv A outer s H vs Q E hr h=>?_)
 .obtain⟨a,us,pl,rfl,_⟩:=h;rfl
 obtain⟨a,us,pl,rfl,ha,hP,hnd,hn,hz,k⟩:=h;have hu:=hr.units;refine⟨_,(e9 (j5 (o9 (uo K) (by rfl) B.sorted PyProof.Rows.boot_sorted (a8 (sS (os:=["i","j","k","m"]) (caps:=[]) ["pairs"] (d4 bV) (o8 K (f8 0)) (fun _ _ _ _ _=>(u8 (n:=2) K rfl (g9 (g8 (i:=0) (show a9x (["i","j","k","m"]:List Str) from by decide) rfl (Or.inl rfl)) (g9 (g8 (i:=1) (show a9x (["i","j","k","m"]:List Str) from by decide) rfl (Or.inl rfl)) u5)))) (fun _ _ _ _ _=>(fS K (n4 (a8 b6 (a8 b6 a9))))) (fun _ _ _ _ _=>(g8 (i:=2) (show a9x (["i","j","k","m"]:List Str) from by decide) rfl (Or.inl rfl))) (fun _ _ _ _ _=>(fS K (n4 (a8 b6 (a8 b6 a9))))) (fun _ _ _ _ _=>(g8 (i:=3) (show a9x (["i","j","k","m"]:List Str) from by decide) rfl (Or.inl rfl))) (fun _ _ _ _ _=>(n4 (a8 (d8 z9 (d8 k8 b6 (f8 0)) (f8 2)) (a8 (d8 z9 (d8 k8 b6 (f8 1)) (f8 3)) a9)))) (by decide)) a9)))),?_⟩;walk_at "rd";refine⟨⟨_,o7.of ha⟩,ut ha hP hn (fun v p o1 o2 o3 o4 H2 R hp hv hR=>?_) (fun σ H2 R hR=>?_) (fun p x y H2 R hp hR=>?_) (fun D ys H2 hD s2 hd hY=>?_)⟩
 .obtain⟨b,rfl,hb⟩:=hv;exact⟨b,_,rfl,aj.of hb,rfl,_,_,rfl,_,_,rfl,rfl,hR⟩
 .walk_at "rd";intro t ht;exact⟨t,rfl,⟨_,aj.of b7⟩,hR t ht⟩
 .obtain⟨z1,z2⟩:=hz p hp;walk_at "rd";exact hR
 .walk_at "rd";refine⟨D,ys,below pl,rfl,o7.of hd,hY,gk hnd,by rw[ie];lia,fun l vs qs hl hpm hst hV=>?_⟩;exact k l vs qs _ (s2.trans (b9.new hl)) (s2.free hl) b7 (hV.same (b9.new hl)) hpm hst
theorem zJ(F:j4 K mg "along" jh ["places","way"]):i7 P w K mg base z8 1 "along" ["places","way"] (ve K):=by
 refine o5 F yw (fun vs H Q E h=>?_) (fun f cdv A outer s H vs Q E hr h=>?_)
 .obtain⟨a,b,ws,pl,w,rfl,_⟩:=h;rfl
 obtain⟨a,b,ws,pl,w,rfl,ha,hP,hw,zp,zw,hl,k⟩:=h;have hu:=hr.units;refine⟨_,(e9 (j5 (ag (os:=["x","y"]) (caps:=[(1,"way")]) ["places","way"] (d4 jh) (o8 K (f8 0)) (fun _ _ _ _ _=>(u8 (n:=2) K rfl (g9 (g8 (i:=0) (show a9x (["x","y","way"]:List Str) from by decide) rfl (Or.inl rfl)) (g9 (g8 (i:=1) (show a9x (["x","y","way"]:List Str) from by decide) rfl (Or.inl rfl)) u5)))) (fun _ _ _ _ _=>(d8 z9 (d8 k8 (f8 0) (g6 (i4 K) (f8 2) b6 (fun _ _=>rfl))) (d8 k8 (f8 1) (g6 (i4 K) (f8 2) b6 (fun _ _=>rfl))))) (by decide)))),?_⟩;have z3:=zw.1;have z4:=zw.2;have hwl:=hP.len;walk_at "rd";refine⟨⟨_,o7.of ha⟩,mV (eN (o7.of ha) hP) (by lia) (fun i v _=>v=V.int (dt w ((pl[i]?).getD (0,0)))) (fun _ _ _ _ _ h=>h) (fun i H2 kk hi s2 hk=>?_) (fun E us H2 hE s2 hE2 hlu hr=>?_)⟩
 .have hw2:=aj.same' hw s2;have ep:pl[i]?=some (pl[i]'(by omega (config:={}))):=a8y _;have zi:=zp _ (a9n (show i<pl.length by lia));rw[ep] at hk ⊢;generalize pl[i]'(by omega (config:={}))=p at *;have z1:=zi.1;have z2:=zi.2;walk_at "rd";refine hk _ _ (L2.b9.refl _) ?_;show V.int (p.1*w.1+p.2*w.2)=V.int (dt w p);unfold dt;rw[b1f p.1,b1f p.2]
 rw[W8 hlu hr] at hE2;walk_at "rd";exact k E H2 s2 hE hE2
theorem mB(F:j4 K mg "step_across" cS ["ones","others","i","j"]):i7 P w K mg base z8 1 "step_across" ["ones","others","i","j"] (pj K):=by
 refine o5 F lS (fun vs H Q E h=>?_) (fun f cdv A outer s H vs Q E hr h=>?_)
 .obtain⟨a,b,ws,us,pl,ql,i,j,p,q,rfl,_⟩:=h;rfl
 obtain⟨a,b,ws,us,pl,ql,i,j,p,q,rfl,ha,hP,hb,hQ,ei,ej,k⟩:=h;have hu:=hr.units;refine⟨_,(e9 (j5 (n4 (a8 (d8 bg (g6 (i4 K) (g6 (j3 K) (f8 1) (f8 3) (fun _ _=>rfl)) b6 (fun _ _=>rfl)) (g6 (i4 K) (g6 (j3 K) (f8 0) (f8 2) (fun _ _=>rfl)) b6 (fun _ _=>rfl))) (a8 (d8 bg (g6 (i4 K) (g6 (j3 K) (f8 1) (f8 3) (fun _ _=>rfl)) b6 (fun _ _=>rfl)) (g6 (i4 K) (g6 (j3 K) (f8 0) (f8 2) (fun _ _=>rfl)) b6 (fun _ _=>rfl))) (a8 (f8 2) (a8 (f8 3) a9))))))),?_⟩;obtain⟨ap,wp,gp⟩:=hP.at ei;obtain⟨aq,wq,gq⟩:=hQ.at ej;have xi:nk ws (i:Int)=some (.ref ap):=z7 (j:=i) rfl wp;have xj:nk us (j:Int)=some (.ref aq):=z7 (j:=j) rfl wq;walk_at "rd";intro c hc;exact k c _ (b9.new hc) b7
theorem zG(F:j4 K mg "reach" li ["ones","others","way"])(B:nt mg)(b67:i7 P w K mg base z8 1 "along" ["places","way"] (ve K))(b68:i7 P w K mg base z8 1 "step_across" ["ones","others","i","j"] (pj K)):i7 P w K mg base z8 2 "reach" ["ones","others","way"] (uV K):=by
 refine o5 F lU (fun vs H Q E h=>?_) (fun f cdv A outer s H vs Q E hr h=>?_)
 .obtain⟨a,b,d,ws,us,pl,ql,w,rfl,_⟩:=h;rfl
 obtain⟨a,b,d,ws,us,pl,ql,w,rfl,ha,hP,hb,hQ,hd,zp,zq,zw,p1,q1,pM,qM,k⟩:=h;have hu:=hr.units;refine⟨_,(b8 (cB (i:=3) (j:=4) rfl lU.nd rfl rfl (by decide) rfl rfl (a8 (i6 b67 hr j7 (a8 (f8 0) (a8 (f8 2) a9))) (a8 (i6 b67 hr j7 (a8 (f8 1) (a8 (f8 2) a9))) a9)) rfl) (b8 (cB (i:=5) (j:=6) rfl lU.nd rfl rfl (by decide) rfl rfl (a8 (o9 (kf rfl) (by rfl) B.max b4i (a8 (f8 3) a9)) (a8 (o9 (ke rfl) (by rfl) B.min b6g (a8 (f8 4) a9)) a9)) rfl) (e9 (j5 (n4 (a8 (f8 5) (a8 (f8 6) (a8 (i6 b68 hr j7 (a8 (f8 0) (a8 (f8 1) (a8 (show ao _ _ (qp K _ _ _ _) from (bQ b0c b8p b8q rD (f8 3) (a8 (f8 5) a9))) (a8 (show ao _ _ (qp K _ _ _ _) from (bQ b0c b8p b8q rD (f8 4) (a8 (f8 6) a9))) a9))))) a9)))))))),?_⟩;walk_at "rz";refine⟨a,d,ws,pl,w,rfl,ha,hP,hd,zp,zw,pM,fun l1 H1 s1 h10 h1=>?_⟩;walk_at "rz";refine⟨b,d,us,ql,w,rfl,s1 _ _ hb,hQ.same s1,aj.same' hd s1,zq,zw,qM,fun l2 H2 s2 h20 h2=>?_⟩;replace h1:=s2 _ _ h1;have s12:=s1.trans s2;replace ha:=s12 _ _ ha;replace hb:=s12 _ _ hb;replace hP:=hP.same s12;replace hQ:=hQ.same s12;refine⟨_,_,rfl,?_⟩;walk_at "rz";refine⟨l1,pl.map (dt w),rfl,o7.of h1,by rw[a9a];lia,fun M hM hmax=>?_⟩;walk_at "rz";refine⟨l2,ql.map (dt w),rfl,o7.of h2,by rw[a9a];lia,fun N hN hmin=>?_⟩;refine⟨_,_,rfl,?_⟩;obtain⟨i,ei,ni⟩:=rS hM;obtain⟨j,ej,nj⟩:=rS hN;have ei':=ei;have ej':=ej;rw[a9h] at ei' ej';obtain⟨p,ep,rfl⟩:=b4f.mp ei';obtain⟨q,eq,rfl⟩:=b4f.mp ej';walk_at "rz";refine⟨.inl ⟨rfl,_,o7.of h1⟩,?_⟩;walk_at "rz";refine⟨ni,?_⟩;refine⟨_,rfl,.inl ⟨rfl,_,o7.of h2⟩,?_⟩;walk_at "rz";refine⟨nj,?_⟩;refine⟨a,b,ws,us,pl,ql,i,j,p,q,rfl,ha,hP,hb,hQ,ep,eq,fun f0 H3 s3 hf=>?_⟩;walk_at "rz";intro c hc;exact k c f0 i j p q _ ((s12.trans s3).trans (b9.new hc)) b7 ((b9.new hc) _ _ hf) ep eq (fun p' hp'=>hmax _ (a9m.mpr ⟨p',hp',rfl⟩)) (fun q' hq'=>hmin _ (a9m.mpr ⟨q',hq',rfl⟩))
theorem kJ(F:j4 K mg "turn_between" cy ["one","other"]):i7 P w K mg base z8 1 "turn_between" ["one","other"] (uS K):=by
 refine o5 F kI (fun vs H Q E h=>?_) (fun f cdv A outer s H vs Q E hr h=>?_)
 .obtain⟨a,b,p,q,i,j,m,n,rfl,_⟩:=h;rfl
 obtain⟨a,b,p,q,i,j,m,n,rfl,ha,hb,zp,zq,k⟩:=h;have hu:=hr.units;refine⟨_,(e9 (j5 (d8 bg (d8 k8 (g6 (i4 K) (f8 0) b6 (fun _ _=>rfl)) (g6 (i4 K) (f8 1) b6 (fun _ _=>rfl))) (d8 k8 (g6 (i4 K) (f8 0) b6 (fun _ _=>rfl)) (g6 (i4 K) (f8 1) b6 (fun _ _=>rfl)))))),?_⟩;have z1:=zp.1;have z2:=zp.2;have z3:=zq.1;have z4:=zq.2;walk_at "rd";exact k
theorem rh(F:j4 K mg "way_amid" fe ["right","left"]):i7 P w K mg base z8 1 "way_amid" ["right","left"] (yp K):=by
 refine o5 F qT (fun vs H Q E h=>?_) (fun f cdv A outer s H vs Q E hr h=>?_)
 .obtain⟨x,y,r,l,rfl,_⟩:=h;rfl
 obtain⟨_,_,r,l,rfl,⟨ar,rfl,hR0⟩,⟨al,rfl,hL0⟩,k⟩:=h;have hu:=hr.units;refine⟨_,(b8 (aw (p9 (lm K hu) (f8 0) (f8 1) (v8 _)) (e9 (j5 (cq (pA K) (f8 0) cY (bF b6)))) w8) (e9 (j5 (n4 (a8 (d8 bg (g6 (i4 K) (f8 1) b6 (fun _ _=>rfl)) (g6 (i4 K) (f8 0) b6 (fun _ _=>rfl))) (a8 (d8 bg (g6 (i4 K) (f8 0) b6 (fun _ _=>rfl)) (g6 (i4 K) (f8 1) b6 (fun _ _=>rfl))) a9)))))),?_⟩;walk_at "rd";refine⟨gg r,gg l,Y8 ⟨ar,rfl,hR0⟩,Y8 ⟨al,rfl,hL0⟩,jv _ 6,jv _ 6,fun b0 hb0=>?_⟩;refine⟨_,rfl,?_⟩;by_cases e:r=l
 .obtain rfl:=hb0.mpr (hU.mpr e);refine xm ?_;walk_at "rd";refine⟨ar,_,rfl,aj.of hR0,show ¬ (HT.cw 4 0 none=0/\HT.cw 4 4 (some 2)=4) by decide,fun c hc=>?_⟩;have e2:cV r l=r.1:=if_pos e;exact k c _ (b9.new hc) (by rw[b7,e2];rfl)
 .have hf:b0=false:=by
   cases b0 with
   | false=>rfl
   | true=>exact absurd (hU.mp (hb0.mp rfl)) e
  subst hf;refine C5 ?_;have e2:cV r l=sh r.1 l.1:=if_neg e;walk_at "rd";intro c hc;exact k c _ (b9.new hc) (by rw[b7,e2];rfl)
theorem wS(F:j4 K mg "parted" jb ["ones","others"]){b31 b32 b33 b34 b35:Addr}{b36 t_MOST_LEVEL:Tok}(G:a8v K mg b31 b32 b33 b34 b35 b36 t_MOST_LEVEL)(b68:i7 P w K mg base z8 1 "step_across" ["ones","others","i","j"] (pj K))(b69:i7 P w K mg base z8 2 "reach" ["ones","others","way"] (uV K))(b70:i7 P w K mg base z8 1 "turn_between" ["one","other"] (uS K))(b71:i7 P w K mg base z8 1 "way_amid" ["right","left"] (yp K)):i7 P w K mg base z8 3 "parted" ["ones","others"] (qL K):=by
 refine o5 F aM (fun vs H Q E h=>?_) (fun f cdv A outer s H vs Q E hr h=>?_)
 .obtain⟨a,b,ws,us,pl,ql,n,rfl,_⟩:=h;rfl
 obtain⟨a,b,ws,us,pl,ql,n,rfl,ha,hP,hb,hQ,zp0,zq0,hn1,hn,p1,q1,pM,qM,k1,k2⟩:=h;have hu:=hr.units;refine⟨_,(b8 (aP PassesOwn.never rfl (fS K (fT (v:=.ref b31) rfl G.PLAIN_WAYS rfl)) (g8 (i:=2) aM.nd rfl (Or.inl rfl)) (b8 (aX (i6 b69 hr j7 (a8 (f8 0) (a8 (f8 1) (a8 (f8 2) a9)))) (u8 (n:=3) K rfl (g9 (g8 (i:=3) aM.nd rfl (Or.inl rfl)) (g9 (g8 (i:=4) aM.nd rfl (Or.inl rfl)) (g9 (g8 (i:=5) aM.nd rfl (Or.inl rfl)) u5))))) (e9 (aw (p9 kz (f8 3) (f8 4) (v8 _)) (e9 (j5 (n4 (a8 (d8 (fV K) (f8 2) (n4 (a8 (d8 z9 (f8 3) (f8 4)) a9))) (a8 (u0 a9) a9))))) w8)))) (b8 (yJ (i6 b68 hr j7 (a8 (f8 0) (a8 (f8 1) (a8 b6 (a8 b6 a9))))) (g8 (i:=6) aM.nd rfl (Or.inl rfl)) (g8 (i:=7) aM.nd rfl (Or.inl rfl))) (b8 (aw (p9 (lm K hu) (cq (pA K) (f8 6) cY (bF b6)) (n4 (a8 b6 (a8 b6 a9))) (v8 _)) (e9 (j5 (n4 (a8 pJ (a8 (u0 (a8 (f8 6) a9)) a9))))) w8) (e9 (dk PassesOwn.never (br iw) (b8 (i5 (i:=2) aM.nd rfl (Or.inl rfl) (i6 b71 hr j7 (a8 (f8 6) (a8 (f8 7) a9)))) (b8 (aX (i6 b69 hr j7 (a8 (f8 0) (a8 (f8 1) (a8 (f8 2) a9)))) (u8 (n:=3) K rfl (g9 (g8 (i:=3) aM.nd rfl (Or.inl rfl)) (g9 (g8 (i:=4) aM.nd rfl (Or.inl rfl)) (g9 (g8 (i:=5) aM.nd rfl (Or.inl rfl)) u5))))) (b8 (aw (p9 kz (f8 3) (f8 4) (v8 _)) (e9 (j5 (n4 (a8 (d8 (fV K) (f8 2) (n4 (a8 (d8 z9 (f8 3) (f8 4)) a9))) (a8 (u0 a9) a9))))) w8) (e9 (aw (p9 kA (i6 b70 hr j7 (a8 (f8 6) (a8 (f8 5) a9))) b6 (v8 _)) (e9 (i5 (i:=7) aM.nd rfl (Or.inl rfl) (f8 5))) (e9 (aw (p9 kA (i6 b70 hr j7 (a8 (f8 5) (a8 (f8 7) a9))) b6 (v8 _)) (e9 (i5 (i:=6) aM.nd rfl (Or.inl rfl) (f8 5))) (e9 (j5 (n4 (a8 pJ (a8 (jN (p9 (lm K hu) (f8 6) (f8 7) (v8 _)) (u0 (a8 (f8 6) (a8 (f8 5) a9))) (u0 (a8 (f8 6) (a8 (f8 7) (a8 (f8 5) a9))))) a9))))))))))))))))),?_⟩;have zp:=zp0.mono hn;have zq:=zq0.mono hn;walk_at "rd";refine⟨⟨_,G.pPLAIN_WAYS H⟩,vR (xs:=[.ref b32,.ref b33,.ref b34,.ref b35]) (fun i σ H'=>∃ (y2 y3 y4 y5:Option V),σ=[some (.ref a),some (.ref b),y2,y3,y4,y5,none,none]/\b9 H H') ⟨none,none,none,none,rfl,L2.b9.refl _⟩ (fun i σ H' _ _=>G.pPLAIN_WAYS H') ?_ ?_⟩
 .rintro i v σ H2 hv ⟨y2,y3,y4,y5,rfl,s2⟩;obtain⟨B0,w,rfl,hw,zw⟩ : ∃ (B0:Addr) (w:Pl),v=.ref B0/\(∀ H,aj K H B0 [.int w.1,.int w.2])/\xI (n+2) w:=by
   have o:Sz (n+2) 1:=Sz.mono Sz.one (by lia);have z:Sz (n+2) 0:=Sz.mono Sz.zero (by lia);match i,hv with
   | 0,hv=>cases hv;exact⟨_,(1,0),rfl,fun H=>(G.wPLAIN_WAYS H).1,o,z⟩
   | 1,hv=>cases hv;exact⟨_,(-1,0),rfl,fun H=>(G.wPLAIN_WAYS H).2.1,o.neg,z⟩
   | 2,hv=>cases hv;exact⟨_,(0,1),rfl,fun H=>(G.wPLAIN_WAYS H).2.2.1,z,o⟩
   | 3,hv=>cases hv;exact⟨_,(0,-1),rfl,fun H=>(G.wPLAIN_WAYS H).2.2.2,z,o.neg⟩
   | i+4,hv=>exact absurd (a9c.mp hv).1 (by simp)
  walk_at "rd";refine⟨a,b,B0,ws,us,pl,ql,w,rfl,s2 _ _ ha,hP.same s2,s2 _ _ hb,hQ.same s2,hw _,zp,zq,⟨zw.1.mono (by lia),zw.2.mono (by lia)⟩,p1,q1,pM,qM,fun c f0 i1 j1 p q H3 s3 hc hf ei ej hmax hmin=>?_⟩;refine⟨c,_,rfl,aj.of hc,rfl,_,_,rfl,_,_,rfl,_,_,rfl,rfl,?_⟩;walk_at "rd";by_cases h:dt w p<dt w q
  .refine C7 (by simpa using h) ?_;walk_at "rd";intro g hg;have wg:=b9.new (o:=.tup [.int (dt w p+dt w q)]) hg;refine⟨B0,g,_,_,rfl,rfl,hw _,aj.of b7,by simp,by show 3<=sizeLine;decide,fun z=>(nomatch z),fun _ d hd=>?_⟩;have wd:=b9.new (o:=.tup ([.int w.1,.int w.2]++[.int (dt w p+dt w q)])) hd;walk_at "rd";intro e he;have we:=b9.new (o:=.lst []) he;walk_at "rd";intro c2 hc2;have wc:=b9.new (o:=.tup [.ref d,.ref e]) hc2;exact k1 c2 d e w p q _ (((((s2.trans s3).trans wg).trans wd).trans we).trans wc) b7 (wc _ _ (we _ _ b7)) (wc _ _ b7) zw (a9f ei) (a9f ej) h hmax hmin
  .refine sy (by simpa using h) ?_;exact⟨_,_,_,_,rfl,s2.trans s3⟩
 rintro σ H2 ⟨y2,y3,y4,y5,rfl,s2⟩;walk_at "rd";refine⟨a,b,ws,us,pl,ql,0,0,_,_,rfl,s2 _ _ ha,hP.same s2,s2 _ _ hb,hQ.same s2,a8y (show 0<pl.length by lia),a8y (show 0<ql.length by lia),fun c H3 s3 hc=>?_⟩;have s23:=s2.trans s3;obtain⟨r0,hr0⟩ : ∃ r0:kU,r0=((((ql[0]'(by omega (config:={}))).1 - (pl[0]'(by omega (config:={}))).1,(ql[0]'(by omega (config:={}))).2 - (pl[0]'(by omega (config:={}))).2):Pl),(((0:Nat):Int),((0:Nat):Int))):=⟨_,rfl⟩
 have hc0:H3 c=some (.tup [.int r0.1.1,.int r0.1.2,.int r0.2.1,.int r0.2.2]):=by rw[hr0];exact hc
 have ac0:eE pl ql r0:=⟨0,0,_,_,a8y (show 0<pl.length by lia),a8y (show 0<ql.length by lia),hr0⟩
 clear hc hr0;walk_at "rd";refine⟨c,_,rfl,aj.of hc0,show ¬ (HT.cw 4 0 none=0/\HT.cw 4 4 (some 2)=4) by decide,fun g hg=>?_⟩;have wg:b9 H3 (upd H3 g (.tup (dN [.int r0.1.1,.int r0.1.2,.int r0.2.1,.int r0.2.2] none (some 2)))):=b9.new hg;have hg2:(upd H3 g (.tup (dN [.int r0.1.1,.int r0.1.2,.int r0.2.1,.int r0.2.2] none (some 2)))) g=some (.tup [.int r0.1.1,.int r0.1.2]):=b7;generalize upd H3 g (.tup (dN [.int r0.1.1,.int r0.1.2,.int r0.2.1,.int r0.2.2] none (some 2)))=H4 at *;walk_at "rd";intro g2 hn2;have wg2:b9 H4 (upd H4 g2 (.tup [.int 0,.int 0])):=b9.new hn2;have hz2:(upd H4 g2 (.tup [.int 0,.int 0])) g2=some (.tup [.int 0,.int 0]):=b7;generalize upd H4 g2 (.tup [.int 0,.int 0])=H5 at *;refine⟨.tuple [.int r0.1.1,.int r0.1.2],.tuple [.int 0,.int 0],a1u (aj.of (wg2 _ _ hg2)),a1u (aj.of hz2),J4 _ _ 6,J4 _ _ 6,fun b0 hb0=>?_⟩;have hc5:=wg2 _ _ (wg _ _ hc0);have s5:b9 H H5:=(s23.trans wg).trans wg2;clear hc0 hg2 hz2 wg wg2 s23 s2 s3 hn2 hg;refine⟨_,rfl,?_⟩;by_cases e0:r0.1=(0,0)
 .have hb1:b0=true:=hb0.mpr (by rw[e0]);subst hb1;refine xm ?_;walk_at "rd";intro e he;have we:=b9.new (o:=.lst [.ref c]) he;walk_at "rd";intro c2 hc2;have wc:=b9.new (o:=.tup [.non,.ref e]) hc2;refine k2 c2 e [.ref c] [r0] _ ((s5.trans we).trans wc) b7 (wc _ _ b7) ⟨rfl,fun i v s e1 e2=>?_⟩ (fun s hs=>by cases a9q.mp hs;exact ac0) (.inl ⟨r0,rfl,e0⟩);match i,e1,e2 with
  | 0,e1,e2=>cases e1;cases e2;exact⟨c,rfl,wc _ _ (we _ _ hc5)⟩
  | i+1,e1,e2=>simp at e1
 have hb1:b0=false:=by
  cases b0 with
  | false=>rfl
  | true=>
    have:=hb0.mp rfl;simp at this;exact absurd (b6a this.1 this.2) e0
 subst hb1;refine C5 ?_;walk_at "rd";refine lG (fun m σ H'=>∃ (ar al:Addr) (r l:kU) (y2 y3 y4 y5:Option V),σ=[some (.ref a),some (.ref b),y2,y3,y4,y5,some (.ref ar),some (.ref al)]/\b9 H H'/\H' ar=some (.tup [.int r.1.1,.int r.1.2,.int r.2.1,.int r.2.2])/\H' al=some (.tup [.int l.1.1,.int l.1.2,.int l.2.1,.int l.2.2])/\eE pl ql r/\eE pl ql l/\jy r l/\m=mS (a1x pl ql) r l) ⟨c,c,r0,r0,_,_,_,_,rfl,s5,hc5,hc5,ac0,ac0,.inl ⟨rfl,e0⟩,rfl⟩ ?_ ?_
 .rintro m σ H6 ⟨ar,al,r,l,y2,y3,y4,y5,rfl,s6,hr6,hl6,acr,acl,hrl,rfl⟩;have zr:=acr.sz zp0 zq0;have zl:=acl.sz zp0 zq0;have zw:=N1 zr zl;refine⟨_,rfl,?_⟩;refine xm ?_;walk_at "rd";refine⟨_,_,r,l,rfl,⟨ar,rfl,hr6⟩,⟨al,rfl,hl6⟩,fun w0 H7 s7 hw7=>?_⟩;have s67:=s6.trans s7;walk_at "rd";refine⟨a,b,w0,ws,us,pl,ql,cV r l,rfl,s67 _ _ ha,hP.same s67,s67 _ _ hb,hQ.same s67,aj.of hw7,zp,zq,⟨zw.1.mono (by lia),zw.2.mono (by lia)⟩,p1,q1,pM,qM,fun c8 f0 i1 j1 p q H8 s8 hc8 hf ei ej hmax hmin=>?_⟩;have hw8:=s8 _ _ hw7;have hr8:=s8 _ _ (s7 _ _ hr6);have hl8:=s8 _ _ (s7 _ _ hl6);have s68:=s67.trans s8;clear hr6 hl6 hw7 s6 s67 s7 s8;refine⟨c8,_,rfl,aj.of hc8,rfl,_,_,rfl,_,_,rfl,_,_,rfl,rfl,?_⟩;obtain⟨f,hfe⟩ : ∃ f:kU,f=((q.1 - p.1,q.2 - p.2),((i1:Int),(j1:Int))):=⟨_,rfl⟩
  have acf:eE pl ql f:=⟨i1,j1,p,q,ei,ej,hfe⟩
  have hf8:H8 f0=some (.tup [.int f.1.1,.int f.1.2,.int f.2.1,.int f.2.2]):=by rw[hfe];exact hf
  have hdt:dt (cV r l) f.1=dt (cV r l) q - dt (cV r l) p:=by rw[hfe];exact a5l _ _ _
  have zf:=acf.sz zp0 zq0;clear hf hfe;walk_at "rd";by_cases h:dt (cV r l) p<dt (cV r l) q
  .refine C7 (by simpa using h) ?_;walk_at "rd";intro g hg;have wg:=b9.new (o:=.tup [.int (dt (cV r l) p+dt (cV r l) q)]) hg;refine⟨w0,g,_,_,rfl,rfl,aj.of (wg _ _ hw8),aj.of b7,by simp,by show 3<=sizeLine;decide,fun z=>(nomatch z),fun _ d hd=>?_⟩;have wd:=b9.new (o:=.tup ([.int (cV r l).1,.int (cV r l).2]++[.int (dt (cV r l) p+dt (cV r l) q)])) hd;walk_at "rd";intro e he;have we:=b9.new (o:=.lst []) he;walk_at "rd";intro c2 hc2;have wc:=b9.new (o:=.tup [.ref d,.ref e]) hc2;exact k1 c2 d e (cV r l) p q _ ((((s68.trans wg).trans wd).trans we).trans wc) b7 (wc _ _ (we _ _ b7)) (wc _ _ b7) zw (a9f ei) (a9f ej) h hmax hmin
  refine sy (by simpa using h) ?_;have hw0:dt (cV r l) f.1<=0:=by lia
  walk_at "rd";refine⟨ar,f0,r.1,f.1,_,_,_,_,rfl,hr8,hf8,⟨zr.1.mono (by lia),zr.2.mono (by lia)⟩,⟨zf.1.mono (by lia),zf.2.mono (by lia)⟩,?_⟩;walk_at "rd";by_cases h1:0<cr r.1 f.1
  .refine C7 (by simpa using h1) ?_;walk_at "rd";obtain⟨z1,z2⟩:=wv acf.mem hrl hw0 h1;exact⟨_,z2,ar,f0,r,f,_,_,_,_,rfl,s68,hr8,hf8,acr,acf,z1,rfl⟩
  refine sy (by simpa using h1) ?_;walk_at "rd";refine⟨f0,al,f.1,l.1,_,_,_,_,rfl,hf8,hl8,⟨zf.1.mono (by lia),zf.2.mono (by lia)⟩,⟨zl.1.mono (by lia),zl.2.mono (by lia)⟩,?_⟩;walk_at "rd";by_cases h2:0<cr f.1 l.1
  .refine C7 (by simpa using h2) ?_;walk_at "rd";obtain⟨z1,z2⟩:=sH acf.mem hrl hw0 h2;exact⟨_,z2,f0,al,f,l,_,_,_,_,rfl,s68,hf8,hl8,acf,acl,z1,rfl⟩
  refine sy (by simpa using h2) ?_;walk_at "rd";refine⟨gg r,gg l,Y8 ⟨ar,rfl,hr8⟩,Y8 ⟨al,rfl,hl8⟩,jv _ 6,jv _ 6,fun b0 hb0=>?_⟩;refine⟨_,rfl,?_⟩;by_cases e:r=l
  .obtain rfl:=hb0.mpr (hU.mpr e);subst e;refine xm ?_;walk_at "rd";intro e1 he;have we:=b9.new (o:=.lst [.ref ar,.ref f0]) he;walk_at "rd";intro c2 hc2;have wc:=b9.new (o:=.tup [.non,.ref e1]) hc2;refine k2 c2 e1 [.ref ar,.ref f0] [r,f] _ ((s68.trans we).trans wc) b7 (wc _ _ b7) ⟨rfl,fun i v s e3 e4=>?_⟩ (fun s hs=>by simp at hs;rcases hs with rfl | rfl<;>assumption) (Y6 hrl hw0 h1 h2);match i,e3,e4 with
   | 0,e3,e4=>cases e3;cases e4;exact⟨ar,rfl,wc _ _ (we _ _ hr8)⟩
   | 1,e3,e4=>cases e3;cases e4;exact⟨f0,rfl,wc _ _ (we _ _ hf8)⟩
   | i+2,e3,e4=>simp at e3
  .have hf9:b0=false:=by
    cases b0 with
    | false=>rfl
    | true=>exact absurd (hU.mp (hb0.mp rfl)) e
   subst hf9;refine C5 ?_;walk_at "rd";intro e1 he;have we:=b9.new (o:=.lst [.ref ar,.ref al,.ref f0]) he;walk_at "rd";intro c2 hc2;have wc:=b9.new (o:=.tup [.non,.ref e1]) hc2;refine k2 c2 e1 [.ref ar,.ref al,.ref f0] [r,l,f] _ ((s68.trans we).trans wc) b7 (wc _ _ b7) ⟨rfl,fun i v s e3 e4=>?_⟩ (fun s hs=>by simp at hs;rcases hs with rfl | rfl | rfl<;>assumption) (xu hrl e h1 h2);match i,e3,e4 with
   | 0,e3,e4=>cases e3;cases e4;exact⟨ar,rfl,wc _ _ (we _ _ hr8)⟩
   | 1,e3,e4=>cases e3;cases e4;exact⟨al,rfl,wc _ _ (we _ _ hl8)⟩
   | 2,e3,e4=>cases e3;cases e4;exact⟨f0,rfl,wc _ _ (we _ _ hf8)⟩
   | i+3,e3,e4=>simp at e3
 .rintro σ H1 Q1 Q2 hq ⟨b1,h1,h2⟩;exact⟨b1,h1,hq _ _ h2⟩
theorem zF(F:j4 K mg "share" kZ ["top","bottom"])(b52:i7 P w K mg base z8 1 "greatest_common" ["one","other"] uY):i7 P w K mg base z8 2 "share" ["top","bottom"] uU:=by
 refine o5 F lT (fun vs H Q E h=>?_) (fun f cdv A outer s H vs Q E hr h=>?_)
 .obtain⟨a,b,rfl,_⟩:=h;rfl
 obtain⟨t,b,rfl,hb,hz,k⟩:=h;have hu:=hr.units;refine⟨_,(b8 (aw (p9 fU (f8 1) b6 (v8 _)) (e9 wE) w8) (b8 (i5 (i:=2) lT.nd rfl (Or.inl rfl) (i6 b52 hr j7 (a8 (f8 0) (a8 (f8 1) a9)))) (b8 (aw (p9 kz (f8 1) b6 (v8 _)) (e9 (i5 (i:=2) lT.nd rfl (Or.inl rfl) (dF dw (f8 2)))) w8) (e9 (j5 (n4 (a8 (d8 bH (f8 0) (f8 2)) (a8 (d8 bH (f8 1) (f8 2)) a9)))))))),?_⟩;have g0:(a9r t b:Int)≠0:=rQ t b hb;have gz:Sz 9000 (a9r t b:Int):=hz.le (by
  rw[b5m];exact b9t (by lia) (b7v t b))
 refine⟨_,rfl,rfl,_,rfl,?_⟩;refine sy (by simp[hb]) ?_;refine⟨_,rfl,_,rfl,t,b,rfl,?_⟩;refine⟨_,rfl,_,_,rfl,rfl,_,rfl,gX (fun hn=>?_) (fun hn=>?_)⟩
 .refine⟨_,rfl,_,rfl,?_⟩;refine⟨_,rfl,_,rfl,_,_,rfl,rfl,⟨by lia,gz.neg⟩,_,rfl,_,rfl,_,_,rfl,rfl,⟨by lia,gz.neg⟩,(by show 2<=sizeLine;decide),fun p hp=>?_⟩;have e:=wy t b hn;refine k _ _ (b9.new hp) ⟨p,rfl,?_⟩;rw[b7,<- e.1,<- e.2]
 .refine⟨_,rfl,_,rfl,_,_,rfl,rfl,⟨g0,gz⟩,_,rfl,_,rfl,_,_,rfl,rfl,⟨g0,gz⟩,(by show 2<=sizeLine;decide),fun p hp=>?_⟩;have e:=jK t b (by lia);refine k _ _ (b9.new hp) ⟨p,rfl,?_⟩;rw[b7,<- e.1,<- e.2]
theorem pO(F:j4 K mg "told_line" dU ["line","x_bottom","y_bottom","room"])(b72:i7 P w K mg base z8 2 "share" ["top","bottom"] uU):i7 P w K mg base z8 3 "told_line" ["line","x_bottom","y_bottom","room"] lK:=by
 refine o5 F dg (fun vs H Q E h=>?_) (fun f cdv A outer s H vs Q E hr h=>?_)
 .obtain⟨d,w,c,bx,bY,rm,rfl,_⟩:=h;rfl
 obtain⟨d,w,c,bx,bY,rm,rfl,hd,zw,zx,zy,zr,r0,k⟩:=h;have hu:=hr.units;refine⟨_,(b8 (aX (f8 0) (u8 (n:=3) K rfl (g9 (g8 (i:=4) dg.nd rfl (Or.inl rfl)) (g9 (g8 (i:=5) dg.nd rfl (Or.inl rfl)) (g9 (g8 (i:=6) dg.nd rfl (Or.inl rfl)) u5))))) (e9 (j5 (n4 (a8 (n4 (a8 (d8 k8 (f8 4) (f8 1)) (a8 b6 a9))) (a8 (n4 (a8 (d8 k8 (f8 5) (f8 2)) (a8 b6 a9))) (a8 (i6 b72 hr j7 (a8 (f8 6) (a8 (d8 k8 b6 (f8 3)) a9))) a9))))))),?_⟩;have z1:=zw.1;have z2:=zw.2;walk_at "rd";refine⟨d,_,rfl,aj.of hd,rfl,_,_,rfl,_,_,rfl,_,_,rfl,rfl,?_⟩;walk_at "rd";intro g1 hg1;have w1:=b9.new (o:=.tup [.int (w.1*bx),.int 1]) hg1;walk_at "rd";intro g2 hg2;have w2:=b9.new (o:=.tup [.int (w.2*bY),.int 1]) hg2;walk_at "rd";refine⟨c,2*rm,rfl,by lia,(Sz.mul (n:=2) (m:=8000) ⟨by decide⟩ zr).mono (by decide),fun v3 H3 s3 hv3=>?_⟩;walk_at "rd";intro t ht;have wt:=b9.new (o:=.tup [.ref g1,.ref g2,v3]) ht;refine k t _ _ _ _ (((w1.trans w2).trans s3).trans wt) b7 ⟨g1,rfl,?_⟩ ⟨g2,rfl,?_⟩ (hv3.same wt)
 .rw[b8w,b8x];exact wt _ _ (s3 _ _ (w2 _ _ b7))
 .rw[b8w,b8x];exact wt _ _ (s3 _ _ b7)
theorem wR{C_Ground:Addr}(b56:kW K mg "Ground" C_Ground)(b57:u7 K C_Ground "room")(b58:u7 K C_Ground "x_bottoms")(b59:u7 K C_Ground "y_bottoms")(b60:u7 K C_Ground "ones")(b61:u7 K C_Ground "others")(F:j4 K mg "sifted" ja ["ground","pairs"])(B:nt mg){b37 b38 C_NoShare:Addr}(X:Exc K mg b37 b38 C_NoShare){b31 b32 b33 b34 b35:Addr}{b36 t_MOST_LEVEL:Tok}(G:a8v K mg b31 b32 b33 b34 b35 b36 t_MOST_LEVEL)(b54:i7 P w K mg base z8 1 "product" ["numbers"] (gw K))(b73:i7 P w K mg base z8 3 "parted" ["ones","others"] (qL K))(b74:i7 P w K mg base z8 3 "told_line" ["line","x_bottom","y_bottom","room"] lK):i7 P w K mg base (jE P w) 4 "sifted" ["ground","pairs"] (nZ K C_Ground b38):=by
 refine mP F cJ (fun vs H Q E h=>?_) (fun f cdv A outer s H vs Q E hr h=>?_)
 .obtain⟨g,a,dx,lx,ly,lo,lt,R,xb,yb,yo,yt,us,As,Bs,pl,n,rfl,_⟩:=h;rfl
 obtain⟨g,a,dx,lx,ly,lo,lt,R,xb,yb,yo,yt,us,As,Bs,pl,n,rfl,hg,hlx,hly,ho,hA,ht,hB,bx,bY,nx,ny,zx,zy,R0,zR,fA,fB,n1,n2,ha,hP,h256,hin,k,kx⟩:=h;have hu:=hr.units;refine⟨_,(b8 (cB (i:=2) (j:=3) rfl cJ.nd rfl rfl (by decide) rfl rfl (a8 (i6 b54 hr j7 (a8 (show ao _ _ (dL K _ _) from (aH (f8 0))) a9)) (a8 (i6 b54 hr j7 (a8 (show ao _ _ (dL K _ _) from (aH (f8 0))) a9)) a9)) rfl) (b8 (cB (i:=4) (j:=5) rfl cJ.nd rfl rfl (by decide) rfl rfl (a8 (u0 a9) (a8 (u0 a9) a9)) rfl) (b8 (aP PassesOwn.leaving rfl (o8 K (f8 1)) (u8 (n:=2) K rfl (g9 (g8 (i:=6) cJ.nd rfl (Or.inl rfl)) (g9 (g8 (i:=7) cJ.nd rfl (Or.inl rfl)) u5))) (b8 (aX (i6 b73 hr j7 (a8 (g6 (j3 K) (show ao _ _ (dL K _ _) from (aH (f8 0))) (f8 6) (fun _ _=>rfl)) (a8 (g6 (j3 K) (show ao _ _ (dL K _ _) from (aH (f8 0))) (f8 7) (fun _ _=>rfl)) a9))) (u8 (n:=2) K rfl (g9 (g8 (i:=8) cJ.nd rfl (Or.inl rfl)) (g9 (g8 (i:=9) cJ.nd rfl (Or.inl rfl)) u5)))) (e9 (aw (p9 a4e (f8 8) pJ (v8 _)) (e9 (aC (show ao _ _ (qp K _ _ _ _) from (bQ b0c b0p b0q aO (f8 4) (a8 (n4 (a8 (f8 6) (a8 (f8 7) a9))) a9))))) (e9 (aC (show ao _ _ (qp K _ _ _ _) from (bQ b0c b0p b0q aO (f8 5) (a8 (d8 (fV K) (n4 (a8 (f8 6) (a8 (f8 7) a9))) (i6 b74 hr j7 (a8 (f8 8) (a8 (f8 2) (a8 (f8 3) (a8 (show ao _ _ (dL K _ _) from (aH (f8 0))) a9)))))) a9))))))))) (b8 (aw (p9 kA (o9 (bz K) (by rfl) B.len PySem.boot_len (a8 (f8 4) a9)) (fT (v:=.int 256) rfl G.MOST_PAIRS ⟨_,rfl⟩) (v8 _)) (e9 (ou nY X.xTooMany (a8 vq a9))) w8) (e9 (j5 (n4 (a8 (f8 4) (a8 (f8 5) a9))))))))),?_⟩;have hul:=hP.len;walk_at "rz";refine⟨g,C_Ground,dx,_,_,rfl,hg,b56.cl,b58,jZ R lx ly lo lt,?_⟩;walk_at "rz";dsimp only[q9];refine⟨lx,xb,rfl,o7.of hlx,bx,by lia,?_⟩;walk_at "rz";refine⟨g,C_Ground,dx,_,_,rfl,hg,b56.cl,b59,jY R lx ly lo lt,?_⟩;walk_at "rz";dsimp only[q9];refine⟨ly,yb,rfl,o7.of hly,bY,by lia,?_⟩;refine⟨_,_,rfl,?_⟩;walk_at "rz";intro lf hlf;walk_at "rz";intro lh hlh;have s1:b9 H (upd (upd H lf (.lst [])) lh (.lst [])):=(b9.new hlf).trans (b9.new hlh);have nfh:lf≠lh:=fun z=>by rw[<- z,b7] at hlh;cases hlh
 have hlh0:H lh=none:=(b9.new hlf).free hlh;have f0:(upd (upd H lf (.lst [])) lh (.lst [])) lf=some (.lst []):=aQ hlh b7;have h0:(upd (upd H lf (.lst [])) lh (.lst [])) lh=some (.lst []):=b7;generalize upd (upd H lf (.lst [])) lh (.lst [])=H1 at *;refine⟨_,_,rfl,?_⟩;walk_at "rz";refine⟨⟨us,o7.of (s1 _ _ ha)⟩,cF (xs:=us) (fun i σ H'=>∃ (y6 y7 y8 y9:Option V) (vf vh:List V) (fl tl:List Pl),σ=[some (.ref g),some (.ref a),some (.int (j0 xb)),some (.int (j0 yb)),some (.ref lf),some (.ref lh),y6,y7,y8,y9]/\b9 H H'/\H' lf=some (.lst vf)/\H' lh=some (.lst vh)/\v7 H' vf fl/\uA H' vh tl (sj (j0 xb) (j0 yb) R As Bs)/\wj (pl.take i) fl tl/\(∀ p∈fl,si (gC As p.1) (gC Bs p.2))) ⟨none,none,none,none,[],[],[],[],rfl,s1,f0,h0,⟨rfl,fun i v p e=>by simp at e⟩,⟨rfl,fun i v p e=>by simp at e⟩,by rw[b9n];exact .nil,fun p hp=>by simp at hp⟩ ?_ ?_ ?_⟩
 .rintro i σ H2 _ ⟨_,_,_,_,_,_,_,_,_,s2,_⟩;exact o7.of (s2 _ _ ha)
 .rintro i x σ H2 hx ⟨y6,y7,y8,y9,vf,vh,fl,tl,rfl,s2,hf2,hh2,hF,hT,hpr,hM⟩;have hi:i<pl.length:=by rw[<- hul];exact (a9c.mp hx).1
  have hp:pl[i]?=some pl[i]:=a8y hi;have hmem:pl[i]∈pl:=a9n hi;have htk:pl.take (i+1)=pl.take i++[pl[i]]:=by rw[b4j,hp];rfl
  obtain⟨pb,rfl,hpb⟩:=(hP.same s2).get i x _ hx hp;generalize pl[i]=p at *;obtain⟨in1,in2,in3,in4⟩:=hin p hmem;obtain⟨la,ua,ea,hla,hPa,hma⟩:=a1n (hA.same s2) in1 in2;obtain⟨lb,ub,eb,hlb,hPb,hmb⟩:=a1n (hB.same s2) in3 in4;have hg2:=s2 _ _ hg;have hfl:fl.length+tl.length=i:=by have:=hpr.perm.length_eq;rw[a9b,b0d] at this;lia
  walk_at "rz";refine⟨pb,_,rfl,aj.of hpb,rfl,_,_,rfl,_,_,rfl,rfl,?_⟩;walk_at "rz";refine⟨g,C_Ground,dx,_,_,rfl,hg2,b56.cl,b60,dj R lx ly lo lt,?_⟩;walk_at "rz";refine⟨lo,yo,_,_,rfl,rfl,o7.of (s2 _ _ ho),z7 (j:=p.1.toNat) (by lia) ea,?_⟩;walk_at "rz";refine⟨g,C_Ground,dx,_,_,rfl,hg2,b56.cl,b61,cE R lx ly lo lt,?_⟩;walk_at "rz";refine⟨lt,yt,_,_,rfl,rfl,o7.of (s2 _ _ ht),z7 (j:=p.2.toNat) (by lia) eb,?_⟩;walk_at "rz";dsimp only[q9];obtain⟨qa1,qa2,qa3⟩:=fA _ hma;obtain⟨qb1,qb2,qb3⟩:=fB _ hmb;refine⟨la,lb,ua,ub,gC As p.1,gC Bs p.2,n,rfl,hla,hPa,hlb,hPb,qa3,qb3,n1,by lia,qa1,qb1,by lia,by lia,?_,?_⟩
  .intro c3 d e w p' q' H3 s3 hc3 hd he zw hp' hq' hlt hmx hmn;walk_at "cd";refine⟨c3,_,rfl,aj.of hc3,rfl,_,_,rfl,_,_,rfl,rfl,?_⟩;walk_at "rz";refine⟨.inl ⟨rfl,_,o7.of (s3 _ _ hh2)⟩,?_⟩;walk_at "rz";intro tp htp;have s4:=b9.new (o:=.tup [.int p.1,.int p.2]) htp;have ht4:=b7 (H:=H3) (a:=tp) (o:=.tup [.int p.1,.int p.2]);generalize upd H3 tp (.tup [.int p.1,.int p.2])=H4 at *;walk_at "rz";refine⟨g,C_Ground,dx,_,_,rfl,s4 _ _ (s3 _ _ hg2),b56.cl,b57,cD R lx ly lo lt,?_⟩;walk_at "rz";dsimp only[q9];refine⟨d,w,dt w p' + dt w q',j0 xb,j0 yb,R,rfl,s4 _ _ hd,⟨zw.1.mono (by lia),zw.2.mono (by lia)⟩,zx.mono (by decide),zy.mono (by decide),zR.mono (by decide),R0,fun t v1 v2 v3 H5 s5 ht5 g1 g2 g3=>?_⟩;refine⟨tp,t,_,_,rfl,rfl,aj.of (s5 _ _ ht4),aj.of ht5,by simp,by show 5<=sizeLine;decide,fun zz=>(nomatch zz),fun _ c9 hc9=>?_⟩;have s6:=b9.new (o:=.tup ([.int p.1,.int p.2]++[v1,v2,v3])) hc9;have hc6:=b7 (H:=H5) (a:=c9) (o:=.tup ([.int p.1,.int p.2]++[v1,v2,v3]));generalize upd H5 c9 (.tup ([.int p.1,.int p.2]++[v1,v2,v3]))=H6 at *;have s26:=(s3.trans s4).trans (s5.trans s6);have hf6:=s26 _ _ hf2;have hh6:=s26 _ _ hh2;have hvl:=hT.len;refine⟨lh,vh,_,rfl,rfl,hh6,j8 (by lia),?_⟩;have tg:bR H6 (upd H6 lh (.lst (vh++[.ref c9]))):=bR.lst hh6;refine⟨_,_,_,_,vf,vh++[.ref c9],fl,tl++[p],rfl,ak hlh0 (s2.trans s26),by rw[i9 nfh];exact hf6,b7,(hF.same s26).tup tg,?_,by rw[htk];exact .snd p hpr,hM⟩;exact ((hT.tup (L2.b9.tup s26)).snoc hc6 (g1.same s6) (g2.same s6) (g3.same s6) ⟨⟨w,p',q',rfl,rfl,rfl,hp',hq',hlt,hmx,hmn⟩,V5 zw n2 zx zy zR R0 qa3 qb3 hp' hq'⟩).tup tg
  .intro c3 e vs ss H3 s3 hc3 he hss hac hh0;walk_at "cd";refine⟨c3,_,rfl,aj.of hc3,rfl,_,_,rfl,_,_,rfl,rfl,?_⟩;have hvl:=hF.len;walk_at "rz";refine⟨.inl ⟨rfl,_,o7.of (s3 _ _ hf2)⟩,?_⟩;walk_at "rz";intro tp htp;have s4:=b9.new (o:=.tup [.int p.1,.int p.2]) htp;have ht4:=b7 (H:=H3) (a:=tp) (o:=.tup [.int p.1,.int p.2]);generalize upd H3 tp (.tup [.int p.1,.int p.2])=H4 at *;have s24:=s3.trans s4;have hf4:=s24 _ _ hf2;have hh4:=s24 _ _ hh2;refine⟨lf,vf,_,rfl,rfl,hf4,j8 (by lia),?_⟩;have tg:bR H4 (upd H4 lf (.lst (vf++[.ref tp]))):=bR.lst hf4;refine⟨_,_,_,_,vf++[.ref tp],vh,fl++[p],tl,rfl,ak hlf (s2.trans s24),b7,by rw[i9 (Ne.symm nfh)];exact hh4,(mx (hF.same s24) ht4).tup tg,(hT.tup (L2.b9.tup s24)).tup tg,by rw[htk];exact .fst p hpr,fun q hq=>?_⟩;rcases a9k.mp hq with hq | hq
   .exact hM q hq
   .rw[a9q.mp hq];exact⟨ss,hac,hh0⟩
 .rintro σ H2 ⟨y6,y7,y8,y9,vf,vh,fl,tl,rfl,s2,hf2,hh2,hF,hT,hpr,hM⟩;have hvl:=hF.len;rw[show pl.take us.length=pl by rw[hul,b3e]] at hpr;have hfl:fl.length+tl.length=pl.length:=by have:=hpr.perm.length_eq;rw[a9b] at this;exact this
  walk_at "rz";refine qq (fun hb=>?_) (fun hb=>?_)
  .refine⟨(by show 1<=sizeLine;decide),?_⟩;exact kx vh fl tl H2 s2 hT hpr hM (by have:=of_decide_eq_true hb;lia)
  walk_at "rz";intro c hc;have s3:=b9.new (o:=.tup [.ref lf,.ref lh]) hc;exact k c lf lh vf vh fl tl _ (s2.trans s3) b7 hlf hlh0 (s3 _ _ hf2) (s3 _ _ hh2) (hF.same s3) (hT.tup (L2.b9.tup s3)) hpr hM (by have:=of_decide_eq_false hb;lia)
theorem zH{C_Ground:Addr}(b56:kW K mg "Ground" C_Ground)(b57:u7 K C_Ground "room")(b58:u7 K C_Ground "x_bottoms")(b59:u7 K C_Ground "y_bottoms")(b60:u7 K C_Ground "ones")(b61:u7 K C_Ground "others")(F:j4 K mg "meets" gJ ["one","other","level"])(B:nt mg){b38:Addr}{b31 b32 b33 b34 b35:Addr}{b36 t_MOST_LEVEL:Tok}(G:a8v K mg b31 b32 b33 b34 b35 b36 t_MOST_LEVEL)(b75:gt P w K mg base z8 5 C_Ground "__init__" ["self","one","other","level"] (lO K C_Ground))(b76:gt P w K mg base z8 3 C_Ground "go_down" ["self"] (pr K C_Ground))(b77:i7 P w K mg base z8 1 "pairs_below" ["pairs"] (uZ K))(b78:i7 P w K mg base (jE P w) 4 "sifted" ["ground","pairs"] (nZ K C_Ground b38)):i7 P w K mg base (jE P w) 7 "meets" ["one","other","level"] (lN K b38):=by
 refine mP F cW (fun vs H Q E h=>?_) (fun f cdv A outer s H vs Q E hr h=>?_)
 .obtain⟨a,b,us,ws,ps,qs,D,m,L,rfl,_⟩:=h;rfl
 obtain⟨a,b,us,ws,ps,qs,D,m,L,rfl,ha,hP,hb,hR,p1,p12,q1,q12,hD,zD,hm,hov,hL,hLn,k,kx⟩:=h;have hu:=hr.units;refine⟨_,(b8 (i5 (i:=3) cW.nd rfl (Or.inl rfl) (yV b56 b75 hr j7 (a8 (f8 0) (a8 (f8 1) (a8 (f8 2) a9))))) (b8 (aX (i6 b78 hr jO (a8 (f8 3) (a8 (u0 (a8 (n4 (a8 b6 (a8 b6 a9))) a9)) a9))) (u8 (n:=2) K rfl (g9 (g8 (i:=4) cW.nd rfl (Or.inl rfl)) (g9 (g8 (i:=5) cW.nd rfl (Or.inl rfl)) u5)))) (b8 (cK (i:=6) (os:=["each"]) (caps:=[]) ["one","other","level","ground","pairs","thrown","told","depth"] (d4 gJ) cW.nd rfl rfl (o8 K (f8 5)) (fun _ _ _ _ _=>(g8 (i:=0) (show a9x (["each"]:List Str) from by decide) rfl (Or.inl rfl))) (fun _ _ _ _ _=>(d8 (fV K) (n4 (a8 b6 a9)) (f8 0))) (by decide)) (b8 (aP PassesOwn.leaving rfl (my rfl B.range (a8 b6 (a8 (d8 z9 (f8 2) b6) a9))) (g8 (i:=7) cW.nd rfl (Or.inr rfl)) (b8 (aC (rb b56 b76 (f8 3) hr j7)) (b8 (aX (i6 b78 hr jO (a8 (f8 3) (a8 (i6 b77 hr j7 (a8 (f8 4) a9)) a9))) (u8 (n:=2) K rfl (g9 (g8 (i:=4) cW.nd rfl (Or.inl rfl)) (g9 (g8 (i:=5) cW.nd rfl (Or.inl rfl)) u5)))) (e9 (aC (show ao _ _ (qp K _ _ _ _) from (bQ b0c b7y b7z oA (f8 6) (a8 (ag (os:=["each"]) (caps:=[(7,"depth")]) ["one","other","level","ground","pairs","thrown","told","depth"] (d4 gJ) (o8 K (f8 5)) (fun _ _ _ _ _=>(g8 (i:=0) (show a9x (["each","depth"]:List Str) from by decide) rfl (Or.inl rfl))) (fun _ _ _ _ _=>(d8 (fV K) (n4 (a8 (f8 1) a9)) (f8 0))) (by decide)) a9)))))))) (e9 (j5 (n4 (a8 (f8 4) (a8 (f8 6) a9))))))))),?_⟩;walk_at "rz";dsimp only[q9];intro x dx hx hdx hne;have s1:b9 H (upd (upd H dx (.own x)) x (.ins C_Ground dx [])):=(b9.new hdx).trans (b9.new (by rw[i9 (Ne.symm hne)];exact hx));have hx1:(upd (upd H dx (.own x)) x (.ins C_Ground dx [])) x=some (.ins C_Ground dx []):=b7;generalize upd (upd H dx (.own x)) x (.ins C_Ground dx [])=H1 at *;refine⟨x,a,b,dx,us,ws,ps,qs,D,m,L,rfl,hx1,s1 _ _ ha,hP.same s1,s1 _ _ hb,hR.same s1,p1,p12,q1,q12,hD,zD,hm,hov,by lia,hLn,fun xb yb c1 c2 lx ly lo lt yo yt H2 s2 hlx hly hlo hA hlt hB G n1 n2=>⟨rfl,?_⟩⟩;have hx2:=s2 _ _ hx1;generalize eK:L*(max ps.length qs.length - 1)=KK at *;have i2:il H2 (upd H2 x (.ins C_Ground dx (ee (2^KK) lx ly lo lt))):=il.upd hx2;have s3:b9 H (upd H2 x (.ins C_Ground dx (ee (2^KK) lx ly lo lt))):=ak hx (s1.trans s2);have hx3:(upd H2 x (.ins C_Ground dx (ee (2^KK) lx ly lo lt))) x=some (.ins C_Ground dx (ee (2^KK) lx ly lo lt)):=b7;generalize upd H2 x (.ins C_Ground dx (ee (2^KK) lx ly lo lt))=H3 at *;replace hlx:=i2.1 _ _ hlx;replace hly:=i2.1 _ _ hly;replace hlo:=i2.1 _ _ hlo;replace hlt:=i2.1 _ _ hlt;replace hA:=hA.ins i2;replace hB:=hB.ins i2;have lc1:c1.length=ps.length:=by have:=congrArg b3g G.p1;rw[bL] at this;exact this
 have lc2:c2.length=qs.length:=by have:=congrArg b3g G.p2;rw[bL] at this;exact this
 have R0:(0:Int)<2^KK:=bX _;have zR:Sz 41 ((2:Int)^KK):=(bt _).mono (by lia);walk_at "rz";intro t0 ht0;walk_at "rz";intro l0 hl0;have s4:b9 H3 (upd (upd H3 t0 (.tup [.int 0,.int 0])) l0 (.lst [.ref t0])):=(b9.new ht0).trans (b9.new hl0);have f1:(upd (upd H3 t0 (.tup [.int 0,.int 0])) l0 (.lst [.ref t0])) t0=some (.tup [.int 0,.int 0]):=aQ hl0 b7;have f2:(upd (upd H3 t0 (.tup [.int 0,.int 0])) l0 (.lst [.ref t0])) l0=some (.lst [.ref t0]):=b7;generalize upd (upd H3 t0 (.tup [.int 0,.int 0])) l0 (.lst [.ref t0])=H4 at *;have hE:v7 H4 [] []:=⟨rfl,fun i v p e=>by simp at e⟩
 have hP0:v7 H4 [.ref t0] [((0:Int),(0:Int))]:=mx (p:=((0:Int),(0:Int))) hE f1;walk_at "rz";dsimp only[q9];refine⟨x,l0,dx,lx,ly,lo,lt,2^KK,xb,yb,yo,yt,_,[c1],[c2],[(0,0)],m+(KK+1),rfl,s4 _ _ hx3,s4 _ _ hlx,s4 _ _ hly,s4 _ _ hlo,hA.same s4,s4 _ _ hlt,hB.same s4,G.bx,G.bY,G.lx,G.ly,G.zx.mono (by decide),G.zy.mono (by decide),R0,zR,?_,?_,by lia,by lia,f2,hP0,by decide,?_,fun c lf lh vf vh fl tl H5 s5 hc5 hlf hlh hf5 hh5 hF hT hpr hM hm5=>?_,fun vh fl tl H5 s5 hT hpr hM hbig=>absurd hbig (by have:=hpr.sub.1.length_le;simp only[b0r,b6n] at this;lia)⟩
 .intro c hc;rw[a9q.mp hc];exact⟨by lia,by lia,G.z1⟩
 .intro c hc;rw[a9q.mp hc];exact⟨by lia,by lia,G.z2⟩
 .intro p hp;rw[a9q.mp hp];exact⟨by decide,by simp,by decide,by simp⟩
 walk_at "cd";refine⟨c,_,rfl,aj.of hc5,rfl,_,_,rfl,_,_,rfl,rfl,?_⟩;have T0:aA (jA c1 c2) 0 fl (tl.map (b5e 0)):=.zero hpr hM hT.notB;have s05:=s3.trans (s4.trans s5);have ltl:tl.length<=1:=by have:=hpr.sub.2.length_le;exact this
 walk_at "rz";refine⟨⟨_,o7.of hh5⟩,mi (d:=0) (Ln:=kj (j0 xb) (j0 yb) (2^KK) c1 c2) (ae (o7.of hh5)) (fun i v e=>by rw[e];rfl) hT (by lia) (fun t xs H6 kk ht6 hx6 l6 h6=>?_) (fun ld ys H6 hld s6 hd6 hTd=>?_)⟩
 .walk_at "rz";intro t1 ht1;have s7:=b9.new (o:=.tup [.int 0]) ht1;walk_at "rz";refine⟨t1,t,_,_,rfl,rfl,aj.of b7,aj.of (s7 _ _ ht6),by simp,by show 1+xs.length<=sizeLine;have:=j8 (n:=1+xs.length) (by lia);lia,fun zz=>absurd zz hx6,fun _ c9 hc9=>?_⟩;exact h6 c9 _ (s7.trans (b9.new hc9)) b7
 have s06:=s05.trans s6;have hlfH:H lf=none:=(s3.trans s4).free hlf;have hldH:H ld=none:=s05.free hld;have nfd:lf≠ld:=fun z=>by rw[<- z,hf5] at hld;cases hld
 walk_at "rz";have nx5:lx≠ld:=fun z=>by rw[<- z,s5 _ _ (s4 _ _ hlx)] at hld;cases hld
 have ny5:ly≠ld:=fun z=>by rw[<- z,s5 _ _ (s4 _ _ hly)] at hld;cases hld
 have s36:=s4.trans (s5.trans s6);have lv1:∀ d,d<=L->uF (j0 xb*2^KK) (j0 yb*2^KK) ps (m+(KK+1)) ((L - d)*(ps.length - 1)) d (cL c1 d):=fun d hd=>jU p1 G.p1 G.z1 L d hd (G.d1.mono (by rw[<- eK];exact b0m _ (by lia)));have lv2:∀ d,d<=L->uF (j0 xb*2^KK) (j0 yb*2^KK) qs (m+(KK+1)) ((L - d)*(qs.length - 1)) d (cL c2 d):=fun d hd=>jU q1 G.p2 G.z2 L d hd (G.d2.mono (by rw[<- eK];exact b0m _ (by lia)));refine⟨_,_,rfl,⟨by decide,by decide,by lia,by lia⟩,cN (fun i σ H'=>∃ (lo lt lf:Addr) (y5 y7:Option V) (yo yt vf vh:List V) (fl:List Pl) (tt:List (Nat×Pl)),σ=[some (.ref a),some (.ref b),some (.int (L:Int)),some (.ref x),some (.ref lf),y5,some (.ref ld),y7]/\b9 H H'/\H' x=some (.ins C_Ground dx (ee (2^KK) lx ly lo lt))/\H' lx=some (.lst (xb.map V.int))/\H' ly=some (.lst (yb.map V.int))/\H' lo=some (.lst yo)/\cZ H' none yo (cL c1 i)/\H' lt=some (.lst yt)/\cZ H' none yt (cL c2 i)/\H lf=none/\lf≠ld/\H' lf=some (.lst vf)/\v7 H' vf fl/\H' ld=some (.lst vh)/\qm H' vh tt (kj (j0 xb) (j0 yb) (2^KK) c1 c2)/\aA (jA c1 c2) i fl tt/\tt.length<=1024*(i+1)/\fl.length<=256/\xO (j0 xb) (j0 yb) (2^KK) c1 c2 i) ⟨lo,lt,lf,some (.ref lh),none,yo,yt,vf,ys,fl,_,rfl,s06,s36 _ _ hx3,s36 _ _ hlx,s36 _ _ hly,s36 _ _ hlo,hA.same s36,s36 _ _ hlt,hB.same s36,hlfH,nfd,s6 _ _ hf5,hF.same s6,hd6,hTd,T0,by rw[a9a];lia,hm5,fun e he=>⟨fl,_,hTd.ex,by rw[Nat.le_zero.mp he];exact T0,hm5⟩⟩ ?_ ?_⟩
 .rintro i σ W0 hi ⟨lo,lt,lf,y5,y7,yo,yt,vf,vh,fl,tt,rfl,sG,gx,glx,gly,glo,gA,glt,gB,glf,nlf,gf,gF,gd,gT,gTd,gn,g256,gFw⟩;have hi':i<L:=by lia
  have p8:(2:Nat)^i<=32:=by
   have:i=0\/i=1\/i=2\/i=3\/i=4\/i=5:=by lia
   rcases this with rfl | rfl | rfl | rfl | rfl | rfl<;>decide
  have i8:(2:Int)^i<=32:=by exact_mod_cast p8
  have fln:=gTd.len;have fin:=gTd.ins.1;have L1:=lv1 i (by lia);have L2':=lv2 i (by lia);have M1:=lv1 (i+1) (by lia);have M2:=lv2 (i+1) (by lia);walk_at "rz";refine⟨x,dx,_,rfl,gx,mL _ lx ly lo lt,?_⟩;dsimp only[q9];refine⟨x,dx,lx,ly,lo,lt,2^KK,yo,yt,cL c1 i,cL c2 i,rfl,gx,glo,gA,glt,gB,by rw[cc];lia,fun c hc=>by rw[L1.len c hc];lia,by rw[cc];lia,fun c hc=>by rw[L2'.len c hc];lia,fun lo' lt' yo' yt' W1 w1 fo ft hlo' hA' hlt' hB'=>?_⟩;have gx1:=w1 _ _ gx;have iW:il W1 (upd W1 x (.ins C_Ground dx (ee (2^KK) lx ly lo' lt'))):=il.upd gx1;have sW2:b9 H (upd W1 x (.ins C_Ground dx (ee (2^KK) lx ly lo' lt'))):=ak hx (sG.trans w1);have gx2:(upd W1 x (.ins C_Ground dx (ee (2^KK) lx ly lo' lt'))) x=some (.ins C_Ground dx (ee (2^KK) lx ly lo' lt')):=b7;generalize upd W1 x (.ins C_Ground dx (ee (2^KK) lx ly lo' lt'))=W2 at *;have nlo:lo'≠ld:=fun z=>by rw[z,gd] at fo;cases fo
  have nlt:lt'≠ld:=fun z=>by rw[z,gd] at ft;cases ft
  have i02:il W0 W2:=(il.same w1).trans iW;replace gd:=i02.1 _ _ gd;replace gT:=gT.tup i02.2;replace glx:=i02.1 _ _ glx;replace gly:=i02.1 _ _ gly;replace hlo':=iW.1 _ _ hlo';replace hlt':=iW.1 _ _ hlt';replace hA':=hA'.ins iW;replace hB':=hB'.ins iW;walk_at "rz";dsimp only[q9];refine⟨lf,vf,fl,rfl,i02.1 _ _ gf,gF.tup i02.2,gTd.nodup,by lia,fun p hp=>?_,fun l vs3 qs3 W3 w3 hl0 hl3 hP3 hpm hso=>?_⟩
  .obtain⟨z1,z2,z3,z4⟩:=fin p hp;exact⟨kq (b:=1000000) (by lia) (by decide),kq (b:=1000000) (by lia) (by decide)⟩
  have lq:qs3.length<=1024:=by have:=hpm.length_eq;rw[ie] at this;lia
  walk_at "rz";dsimp only[q9];refine⟨x,l,dx,lx,ly,lo',lt',2^KK,xb,yb,yo',yt',_,cL c1 (i+1),cL c2 (i+1),qs3,m+(KK+1),rfl,w3 _ _ gx2,w3 _ _ glx,w3 _ _ gly,w3 _ _ hlo',hA'.same w3,w3 _ _ hlt',hB'.same w3,G.bx,G.bY,G.lx,G.ly,G.zx.mono (by decide),G.zy.mono (by decide),R0,zR,fun c hc=>⟨by rw[M1.len c hc];lia,by rw[M1.len c hc];lia,M1.sz c hc⟩,fun c hc=>⟨by rw[M2.len c hc];lia,by rw[M2.len c hc];lia,M2.sz c hc⟩,by lia,by lia,hl3,hP3,by lia,fun p hp=>?_,fun c lf4 lh4 vf4 vh4 fl4 tl4 W4 w4 hc4 hf40 hh40 hf4 hh4 hF4 hT4 hpr4 hM4 hm4=>?_,fun vh4 fl4 tl4 W4 w4 hT4 hpr4 hM4 hbig=>?_⟩
  .obtain⟨z1,z2,z3,z4⟩:=(fin _ (cP.mp (hpm.subset hp))).below;rw[cc,cc];exact⟨z1,by exact_mod_cast z2,z3,by exact_mod_cast z4⟩
  walk_at "cd";refine⟨c,_,rfl,aj.of hc4,rfl,_,_,rfl,_,_,rfl,rfl,?_⟩;have T1:aA (jA c1 c2) (i+1) fl4 (tt++tl4.map (b5e (i+1))):=.step gTd hpm hso hpr4 hM4 hT4.notB;have w24:=w3.trans w4;have gd4:=w24 _ _ gd;have ltl4:tl4.length<=1024:=by have:=hpr4.sub.2.length_le;lia
  walk_at "rz";refine⟨.inl ⟨rfl,_,o7.of gd4⟩,?_⟩;walk_at "rz";refine⟨⟨_,o7.of hh4⟩,mi (d:=i+1) (Ln:=kj (j0 xb) (j0 yb) (2^KK) c1 c2) (ae (o7.of hh4)) (fun i v e=>by rw[e];rfl) hT4 (by lia) (fun t xs W5 kk ht5 hx5 l5 h5=>?_) (fun le ye W5 hle w5 hd5 hTe=>?_)⟩
  .walk_at "rz";intro t1 ht1;have s7:=b9.new (o:=.tup [.int (1+(i:Int))]) ht1;walk_at "rz";refine⟨t1,t,_,_,rfl,rfl,aj.of b7,aj.of (s7 _ _ ht5),by simp,by show 1+xs.length<=sizeLine;have:=j8 (n:=1+xs.length) (by lia);lia,fun zz=>absurd zz hx5,fun _ c9 hc9=>?_⟩;refine h5 c9 _ (s7.trans (b9.new hc9)) ?_;rw[b7,show ((i+1:Nat):Int)=1+(i:Int) by lia];rfl
  have w25:=w24.trans w5;have gd5:=w25 _ _ gd;have gT5:=gT.tup (L2.b9.tup w25);have lv5:=gT5.len;have le5:=hTe.len;rw[a9a] at le5;refine⟨ld,le,vh,ye,rfl,rfl,gd5,hd5,by have:=j8 (n:=vh.length+ye.length) (by lia);lia,?_⟩;have tg:bR W5 (upd W5 ld (.lst (vh++ye))):=bR.lst gd5;have nlf4:lf4≠ld:=fun z=>by rw[z,w3 _ _ gd] at hf40;cases hf40
  have A5:=((a1v (hA'.same w25) (fun c hc=>by rw[M1.len c hc];exact p1) gd5 gT5).upd (ws:=vh++ye) gd5).drop;have B5:=((a1v (hB'.same w25) (fun c hc=>by rw[M2.len c hc];exact q1) gd5 gT5).upd (ws:=vh++ye) gd5).drop;have nxd:x≠ld:=fun z=>by rw[z,gd] at gx2;cases gx2
  walk_at "cd";exact⟨lo',lt',lf4,_,_,yo',yt',vf4,vh++ye,fl4,_,rfl,ak hldH (sW2.trans w25),by rw[i9 nxd];exact w25 _ _ gx2,by rw[i9 nx5];exact w25 _ _ glx,by rw[i9 ny5];exact w25 _ _ gly,by rw[i9 nlo];exact w25 _ _ hlo',A5,by rw[i9 nlt];exact w25 _ _ hlt',B5,(sW2.trans w3).free hf40,nlf4,by rw[i9 nlf4];exact w5 _ _ hf4,(hF4.same w5).tup tg,b7,(gT5.append hTe).tup tg,T1,by rw[a9b,a9a];lia,hm4,gFw.step ((gT5.append hTe).tup tg).ex T1 hm4⟩
  .have WC:ng ps qs L (j0 xb) (j0 yb) (2^KK) c1 c2:=⟨G.w1,G.w2,R0,G.p1,G.p2,by rw[eK];exact G.d1,by rw[eK];exact G.d2,_,G.z1,G.z2⟩
   have T1:aA (jA c1 c2) (i+1) fl4 (tt++tl4.map (b5e (i+1))):=.step gTd hpm hso hpr4 hM4 hT4.notB;exact kx (i+1) fl4 _ W4 (by lia) (sW2.trans (w3.trans w4)) (a0j p1 q1 WC (by lia) (a6f.add gT.ex hT4) T1) hbig
 .rintro σ W0 ⟨lo,lt,lf,y5,y7,yo,yt,vf,vh,fl,tt,rfl,sG,gx,glx,gly,glo,gA,glt,gB,glf,nlf,gf,gF,gd,gT,gTd,gn,g256,gFw⟩;walk_at "rz";intro c9 hc9;have s9:=b9.new (o:=.tup [.ref lf,.ref ld]) hc9;have eL:((L:Int)+1 - 1).toNat=L:=by lia
  rw[eL] at gTd;have WC:ng ps qs L (j0 xb) (j0 yb) (2^KK) c1 c2:=⟨G.w1,G.w2,R0,G.p1,G.p2,by rw[eK];exact G.d1,by rw[eK];exact G.d2,_,G.z1,G.z2⟩
  obtain⟨TB1,TB2⟩:=a6u p1 q1 WC (gT.tup (L2.b9.tup s9)) gTd;exact k c9 lf ld vf vh fl tt _ (sG.trans s9) b7 glf hldH (s9 _ _ gf) (s9 _ _ gd) nlf (gF.same s9) TB1 TB2 (gFw.few p1 q1 WC (by lia))
theorem rq(F:j4 K mg "_law_places" bo ["_law_found","_law_one","_law_other","_law_level_here"])(B:nt mg){b38:Addr}(b44:i7 P w K mg base z8 2 "_law_least" ["_law_some"] pp)(b45:i7 P w K mg base z8 2 "_law_most" ["_law_some"] lM)(b48:i7 P w K mg base z8 3 "_law_box" ["_law_seats"] pq)(b50:i7 P w K mg base z8 3 "_law_stretches" ["_law_curve","_law_level_here"] (sL K))(b79:i7 P w K mg base (jE P w) 7 "meets" ["one","other","level"] (lN K b38)):i7 P w K mg base z8 8 "_law_places" ["_law_found","_law_one","_law_other","_law_level_here"] (qK K):=by
 refine o5 F aR (fun vs H Q E h=>?_) (fun f cdv A outer s H vs Q E hr h=>?_)
 .obtain⟨lk,a,b,ys,us,ws,fl,tt,ps,qs,D,m,L,rfl,_⟩:=h;rfl
 obtain⟨lk,a,b,ys,us,ws,fl,tt,ps,qs,D,m,L,rfl,hk0,hN,hTd,hFw,ha,hP,hb,hR,p1,p7,q1,q7,hD,zD,hm,hov,hL,k⟩:=h;have hu:=hr.units;refine rX (b5b 4 (x8 bo)) (b8 (aP PassesOwn.never rfl (o8 K (f8 0)) (g8 (i:=7) aR.nd rfl (Or.inl rfl)) (b8 (i5 (i:=8) aR.nd rfl (Or.inr rfl) (i6 b48 hr j7 (a8 (g6 (j3 K) (f8 5) (g6 (i4 K) (f8 7) b6 (fun _ _=>rfl)) (fun _ _=>rfl)) a9))) (b8 (i5 (i:=9) aR.nd rfl (Or.inr rfl) (i6 b48 hr j7 (a8 (g6 (j3 K) (f8 6) (g6 (i4 K) (f8 7) b6 (fun _ _=>rfl)) (fun _ _=>rfl)) a9))) (b8 (cK (i:=10) (os:=["_law_k"]) (caps:=[(8,"_law_first"),(9,"_law_second")]) ["_law_found","_law_one","_law_other","_law_level_here","_law_pairs","_law_ones","_law_others","_law_told","_law_first","_law_second","_law_low","_law_high"] (d4 bo) aR.nd rfl rfl (bG rfl B.range (a8 b6 a9)) (fun _ _ _ _ _=>(g8 (i:=0) (show a9x (["_law_k","_law_first","_law_second"]:List Str) from by decide) rfl (Or.inl rfl))) (fun _ _ _ _ _=>(i6 b45 hr j7 (a8 (u0 (a8 (g6 (i4 K) (f8 1) (f8 0) (fun _ _=>rfl)) (a8 (g6 (i4 K) (f8 2) (f8 0) (fun _ _=>rfl)) a9))) a9))) (by decide)) (b8 (cK (i:=11) (os:=["_law_k"]) (caps:=[(8,"_law_first"),(9,"_law_second")]) ["_law_found","_law_one","_law_other","_law_level_here","_law_pairs","_law_ones","_law_others","_law_told","_law_first","_law_second","_law_low","_law_high"] (d4 bo) aR.nd rfl rfl (my rfl B.range (a8 b6 (a8 b6 a9))) (fun _ _ _ _ _=>(g8 (i:=0) (show a9x (["_law_k","_law_first","_law_second"]:List Str) from by decide) rfl (Or.inl rfl))) (fun _ _ _ _ _=>(i6 b44 hr j7 (a8 (u0 (a8 (g6 (i4 K) (f8 1) (f8 0) (fun _ _=>rfl)) (a8 (g6 (i4 K) (f8 2) (f8 0) (fun _ _=>rfl)) a9))) a9))) (by decide)) (e9 (aw (gr (fP (fj (br (o9 (dr K) (by rfl) B.isinstance b1a (a8 (f8 7) (a8 (dG (v:=.ty "tuple") rfl B.tuple b3z rfl) a9))))) (fP (fj (br (o9 (dr K) (by rfl) B.isinstance b1a (a8 (g6 (i4 K) (f8 7) b6 (fun _ _=>rfl)) (a8 (dG (v:=.ty "tuple") rfl B.tuple b3z rfl) a9))))) (jk (p9 (pK K hu) (g6 (i4 K) (f8 7) b6 (fun _ _=>rfl)) (az (mZ K) rfl B.tuple b3z (a8 (d8 jR (f8 10) (f8 11)) a9)) (v8 _)))))) (e9 (j5 iw)) w8))))))) (e9 (j5 iw))) (fun R2 hc2 e2=>?_);refine rX (b5b 2 (x8 bo)) (b8 (i5 (i:=5) aR.nd rfl (Or.inl rfl) (i6 b50 hr j7 (a8 (f8 1) (a8 (f8 3) a9)))) (b8 (i5 (i:=6) aR.nd rfl (Or.inl rfl) (i6 b50 hr j7 (a8 (f8 2) (a8 (f8 3) a9)))) hc2)) (fun R1 hc1 e1=>?_);refine⟨_,(b8 (i5 (i:=4) aR.nd rfl (Or.inl rfl) (g6 (i4 K) (i6 b79 hr sU (a8 (az (z6 K) rfl B.list b0u (a8 (f8 1) a9)) (a8 (az (z6 K) rfl B.list b0u (a8 (f8 2) a9)) (a8 (f8 3) a9)))) b6 (fun _ _=>rfl))) (b8 (aw (gr (fP (fj (br (o9 (dr K) (by rfl) B.isinstance b1a (a8 (f8 0) (a8 (dG (v:=.ty "list") rfl B.list b0u rfl) a9))))) (jk (p9 (pK K hu) (ag (os:=["_law_place"]) (caps:=[]) ["_law_found","_law_one","_law_other","_law_level_here","_law_pairs","_law_ones","_law_others","_law_told","_law_first","_law_second","_law_low","_law_high"] (d4 bo) (o8 K (f8 0)) (fun _ _ _ _ _=>(g8 (i:=0) (show a9x (["_law_place"]:List Str) from by decide) rfl (Or.inl rfl))) (fun _ _ _ _ _=>(cq (pA K) (f8 0) cY (bF b6))) (by decide)) (f8 4) (v8 _))))) (e9 (j5 iw)) w8) hc1)),?_⟩;have hL40:L*(max ps.length qs.length - 1)<=40:=by have:=b4k hL (show max ps.length qs.length - 1<=6 by lia);lia
 have o1:∀ p∈ps,ki D m p:=fun p hp=>hov p (a9k.mpr (.inl hp));have o2:∀ p∈qs,ki D m p:=fun p hp=>hov p (a9k.mpr (.inr hp));have hL1:L*(ps.length+1)<=100:=by have:=b4k hL (show ps.length+1<=8 by lia);lia
 have hL2:L*(qs.length+1)<=100:=by have:=b4k hL (show qs.length+1<=8 by lia);lia
 have hyl:=hN.len;have f256:=tW hFw (a9j _) hTd;walk_at "rd";intro l1 hl1;have s1:=b9.new (o:=.lst us) hl1;have f1:=b7 (H:=H) (a:=l1) (o:=.lst us);generalize upd H l1 (.lst us)=H1 at *;have hb1:=s1 _ _ hb;walk_at "rd";intro l2 hl2;have s2:=b9.new (o:=.lst ws) hl2;have f2:=b7 (H:=H1) (a:=l2) (o:=.lst ws);generalize upd H1 l2 (.lst ws)=H2 at *;have s02:=s1.trans s2;walk_at "rd";dsimp only[q9];refine⟨l1,l2,us,ws,ps,qs,D,m,L,rfl,s2 _ _ f1,hP.same s02,f2,hR.same s02,p1,by lia,q1,by lia,hD,zD.mono (by decide),by lia,hov,hL,hL40,fun c lf lh vf vh fl' tt' H3 s3 hc hlf hlh hf hh hne hF hT hTo hFw'=>?_,fun e fl' tt' H3 he s3 hTo hbig=>absurd (tW hFw he hTo) (by lia)⟩;have ef:=hTo.same hTd;subst ef;have s03:=s02.trans s3;walk_at "rd";have hk3:=s03 _ _ hk0;replace hN:=hN.same s03;clear hT hTo hFw' hlf hlh hne hh hc s1 s2 s3 s02 hl1 hl2 f1 f2 hb1;walk_at "rd";refine⟨⟨_,o7.of hk3⟩,en (ae (o7.of hk3)) (by lia) (fun i v H=>∀ p,fl'[i]?=some p->wf H v p.1 p.2) (fun i v H H' t h p e=>(h p e).tup t) (fun i H4 kk hi s4 hk=>?_) (fun l4 y4 H4 hl4 s4 h4 ly4 r4=>?_)⟩
 .have e1:=a8y hi;have e2:=a8y (l:=fl') (i:=i) (by lia);obtain⟨t,w,b1,b2,r1,r2,r3,r5,r6⟩:=(hN.same s4).get i _ _ e1 e2;rw[e1,r1];walk_at "rd";refine⟨t,_,rfl,aj.of r2,by show ¬ (HT.cw 3 0 none=0/\HT.cw 3 3 (some 2)=3);decide,fun p hp=>?_⟩;refine hk _ _ (b9.new hp) fun p' e=>?_;rw[e2] at e;cases e;exact⟨p,rfl,b7⟩
 have hP4:v7 H4 y4 fl':=⟨by lia,fun i v p e1 e2=>r4 i v e1 p e2⟩
 clear r4;walk_at "rd";refine⟨_,_,a1t h4 hP4,a1t (s4 _ _ hf) (hF.same s4),oI _ 6,oI _ 6,fun bb hbb=>?_⟩;rw[hbb.mpr rfl];refine⟨_,rfl,sy rfl ?_⟩;subst e1;have s04:=s03.trans s4;replace hN:=hN.same s4;replace hk3:=s4 _ _ hk3;clear hbb h4 hP4 hl4 hf hF s03 s4;walk_at "rd";dsimp only[q9];refine⟨a,us,ps,D,m,L,rfl,s04 _ _ ha,hP.same s04,hD,zD,hm,o1,p1,by lia,hL,hL1,fun d1 z1 H5 s5 hd10 hd1 lz1 r1=>?_⟩;walk_at "rd";dsimp only[q9];refine⟨b,ws,qs,D,m,L,rfl,s5 _ _ (s04 _ _ hb),(hR.same s04).same s5,hD,zD,hm,o2,q1,by lia,hL,hL2,fun d2 z2 H6 s6 hd20 hd2 lz2 r2=>?_⟩;have s06:=s04.trans (s5.trans s6);replace hN:=(hN.same s5).same s6;replace hk3:=s6 _ _ (s5 _ _ hk3);replace hd1:=s6 _ _ hd1;replace r1:∀ (i:Nat) v,z1[i]?=some v->∃ l xs,v=.ref l/\H6 l=some (.lst xs)/\aa H6 xs (gP (aK ps L) i):=fun i v e=>by obtain⟨l,xs,r3,r4,r5,r6⟩:=r1 i v e;exact⟨l,xs,r3,s6 _ _ r5,r6.same s6⟩
 replace r2:∀ (i:Nat) v,z2[i]?=some v->∃ l xs,v=.ref l/\H6 l=some (.lst xs)/\aa H6 xs (gP (aK qs L) i):=fun i v e=>by obtain⟨l,xs,r3,r4,r5,r6⟩:=r2 i v e;exact⟨l,xs,r3,r5,r6⟩
 clear s5 s6 hd10 hd20;have fin:=hTd.ins.1;have i64:((2^L:Nat):Int)=(2:Int)^L:=by simp
 have D1:0<D*2^(L*(ps.length - 1)):=b1b hD (bX _);have D2:0<D*2^(L*(qs.length - 1)):=b1b hD (bX _);have zz1:Sz 170 (D*2^(L*(ps.length - 1))):=(zD.mul (bt _)).mono (by have:L*(ps.length - 1)<=100:=b0n (b0m _ (by lia)) hL1;lia);have zz2:Sz 170 (D*2^(L*(qs.length - 1))):=(zD.mul (bt _)).mono (by have:L*(qs.length - 1)<=100:=b0n (b0m _ (by lia)) hL2;lia);have bd1:∀ i:Int,∀ p∈gP (aK ps L) i,Bd 4000 p.1/\Bd 4000 p.2:=fun i p hp=>by
  have h3:L*(ps.length - 1)<=100:=b0n (b0m _ (by lia)) hL1;exact jm D1 zz1 (vC hD o1 (M:=ps.length) (d:=L) (a9j _) i p hp) 4000 (by lia) (by decide)
 have bd2:∀ i:Int,∀ p∈gP (aK qs L) i,Bd 4000 p.1/\Bd 4000 p.2:=fun i p hp=>by
  have h3:L*(qs.length - 1)<=100:=b0n (b0m _ (by lia)) hL2;exact jm D2 zz2 (vC hD o2 (M:=qs.length) (d:=L) (a9j _) i p hp) 4000 (by lia) (by decide)
 subst e2;walk_at "rd";refine⟨⟨_,o7.of hk3⟩,cF (xs:=ys) (fun i σ H'=>∃ (y7 y8 y9 y10 y11:Option V),σ=[some (.ref lk),some (.ref a),some (.ref b),some (.int (L:Int)),some (.ref lf),some (.ref d1),some (.ref d2),y7,y8,y9,y10,y11]/\b9 H6 H') ⟨none,none,none,none,none,rfl,L2.b9.refl _⟩ (fun i σ H' _ h=>by obtain⟨_,_,_,_,_,_,s⟩:=h;exact o7.of (s _ _ hk3)) ?_ ?_⟩
 .rintro i x σ W hx ⟨y7,y8,y9,y10,y11,rfl,sW⟩;have hi:i<fl'.length:=by rw[<- hyl];exact (a9c.mp hx).1
  have e2:=a8y hi;obtain⟨t,w,b1,b2,rfl,t2,t3,t4,t5⟩:=(hN.same sW).get i _ _ hx e2;obtain⟨u1,u2,u3,u4⟩:=fin _ (a9n hi);generalize fl'[i]=p at *;have v1:p.1.toNat<z1.length:=by rw[<- i64] at u2;lia
  have v2:p.2.toNat<z2.length:=by rw[<- i64] at u4;lia
  have g1:=a8y v1;have g2:=a8y v2;obtain⟨m1,x1,em1,hm1,hp1⟩:=r1 _ _ g1;obtain⟨m2,x2,em2,hm2,hp2⟩:=r2 _ _ g2;rw[show ((p.1.toNat:Nat):Int)=p.1 by lia] at hp1;rw[show ((p.2.toNat:Nat):Int)=p.2 by lia] at hp2;rw[em1] at g1;rw[em2] at g2;have ln1:=qc (ps:=ps) (d:=L) u1 u2;have ln2:=qc (ps:=qs) (d:=L) u3 u4;walk_at "rd";refine⟨d1,z1,_,_,rfl,rfl,o7.of (sW _ _ hd1),z7 (j:=p.1.toNat) (by lia) g1,?_⟩;walk_at "rd";dsimp only[q9];refine⟨m1,x1,_,rfl,sW _ _ hm1,hp1.same sW,by lia,by lia,bd1 _,fun va qa W1 w1 hva hqa=>?_⟩;have ea:=hqa.uniq t3;subst ea;have t2':=w1 _ _ t2;walk_at "rd";refine⟨d2,z2,_,_,rfl,rfl,o7.of (w1 _ _ (sW _ _ hd2)),z7 (j:=p.2.toNat) (by lia) g2,?_⟩;walk_at "rd";dsimp only[q9];refine⟨m2,x2,_,rfl,w1 _ _ (sW _ _ hm2),(hp2.same sW).same w1,by lia,by lia,bd2 _,fun vb qb W2 w2 hvb hqb=>?_⟩;have eb:=hqb.uniq t4;subst eb;have ba:=hqa.bd4 (bd1 _);have bb:=hqb.bd4 (bd2 _);replace t2':=w2 _ _ t2';replace t5:=(t5.same w1).same w2;obtain⟨fa,a1,a2,a3,a4,rfl,hfa,ha1,ha2,ha3,ha4⟩:=(hva.same w2).ex;obtain⟨fb,b1,b2,b3,b4,rfl,hfb,hb1,hb2,hb3,hb4⟩:=hvb.ex;have sW2:=sW.trans (w1.trans w2);clear w1 w2 hva hvb hqa hqb g1 g2 hm1 hm2 hp1 hp2 em1 em2 t2;walk_at "rd";refine en (fR 0 _ _) (by decide) (fun i v H=>∀ w,[xR qa.l qb.l,xR qa.b qb.b][i]?=some w->bh H v w) (fun i v H H' t h w e=>(h w e).tup t) (fun j W3 kk hj w3 hk=>?_) (fun l5 n5 W3 hl5 w3 h5 ln5 r5=>?_)
  .have key:∃ (xa xb:V) (pa pb:Rat),nk [a1,a2,a3,a4] (0+(j:Int))=some xa/\nk [b1,b2,b3,b4] (0+(j:Int))=some xb/\bh W3 xa pa/\bh W3 xb pb/\Bd 4000 pa/\Bd 4000 pb/\[xR qa.l qb.l,xR qa.b qb.b][j]?=some (xR pa pb):=by
    have:j=0\/j=1:=by have:j<2:=hj;lia
    rcases this with rfl | rfl
    .exact⟨a1,b1,_,_,rfl,rfl,ha1.same w3,hb1.same w3,ba.l,bb.l,rfl⟩
    .exact⟨a2,b2,_,_,rfl,rfl,ha2.same w3,hb2.same w3,ba.b,bb.b,rfl⟩
   obtain⟨xa,xb,pa,pb,k1,k2,k3,k4,k5,k6,k7⟩:=key;walk_at "rd";intro l6 hl6;have s6:=b9.new (o:=.lst [xa,xb]) hl6;dsimp only[q9];refine⟨l6,[xa,xb],[pa,pb],rfl,b7,yr (k3.same s6) (k4.same s6),by simp,fun w hw=>?_,fun v mm hv hmm=>?_⟩
   .simp only[a9g,a9w,or_false] at hw;rcases hw with rfl | rfl
    .exact k5
    .exact k6
   .refine hk _ _ s6 fun w e=>?_;rw[k7] at e;cases e;rw[<- a4k hmm];exact hv
  obtain⟨c1,c2,rfl⟩:=xZ ln5;have hc1:=r5 0 _ rfl _ rfl;have hc2:=r5 1 _ rfl _ rfl;clear r5;replace hfa:=w3 _ _ hfa;replace hfb:=w3 _ _ hfb;replace ha3:=ha3.same w3;replace ha4:=ha4.same w3;replace hb3:=hb3.same w3;replace hb4:=hb4.same w3;replace t2':=w3 _ _ t2';replace t5:=t5.same w3;replace sW2:=sW2.trans w3;clear w3;walk_at "rd";refine⟨_,_,rfl,⟨by decide,by decide,by decide,by decide⟩,en (fR 2 _ _) (by decide) (fun i v H=>∀ w,[xQ qa.r qb.r,xQ qa.t qb.t][i]?=some w->bh H v w) (fun i v H H' t h w e=>(h w e).tup t) (fun j W4 kk hj w4 hk=>?_) (fun l7 n7 W4 hl7 w4 h7 ln7 r7=>?_)⟩
  .have key:∃ (xa xb:V) (pa pb:Rat),nk [a1,a2,a3,a4] (2+(j:Int))=some xa/\nk [b1,b2,b3,b4] (2+(j:Int))=some xb/\bh W4 xa pa/\bh W4 xb pb/\Bd 4000 pa/\Bd 4000 pb/\[xQ qa.r qb.r,xQ qa.t qb.t][j]?=some (xQ pa pb):=by
    have:j=0\/j=1:=by have:j<2:=hj;lia
    rcases this with rfl | rfl
    .exact⟨a3,b3,_,_,rfl,rfl,ha3.same w4,hb3.same w4,ba.r,bb.r,rfl⟩
    .exact⟨a4,b4,_,_,rfl,rfl,ha4.same w4,hb4.same w4,ba.t,bb.t,rfl⟩
   obtain⟨xa,xb,pa,pb,k1,k2,k3,k4,k5,k6,k7⟩:=key;walk_at "rd";intro l6 hl6;have s6:=b9.new (o:=.lst [xa,xb]) hl6;dsimp only[q9];refine⟨l6,[xa,xb],[pa,pb],rfl,b7,yr (k3.same s6) (k4.same s6),by simp,fun w hw=>?_,fun v mm hv hmm=>?_⟩
   .simp only[a9g,a9w,or_false] at hw;rcases hw with rfl | rfl
    .exact k5
    .exact k6
   .refine hk _ _ s6 fun w e=>?_;rw[k7] at e;cases e;rw[<- a4m hmm];exact hv
  obtain⟨c3,c4,rfl⟩:=xZ ln7;have hc3:=r7 0 _ rfl _ rfl;have hc4:=r7 1 _ rfl _ rfl;clear r7;replace hc1:=hc1.same w4;replace hc2:=hc2.same w4;replace h5:=w4 _ _ h5;replace t2':=w4 _ _ t2';obtain⟨wt,o1',o2',o3',o4',rfl,g0,g1,g2,g3,g4⟩:=(t5.same w4).ex;walk_at "rd";intro l8 hl8;have s8:=b9.new (o:=.lst ([c1,c2]++[c3,c4])) hl8;dsimp only[q9];refine⟨l8,_,rfl,.inl ⟨o7.of b7,fun t8 ht8=>?_⟩⟩;have s9:=b9.new (o:=.tup ([c1,c2]++[c3,c4])) ht8;have s89:=s8.trans s9;refine⟨_,_,G9 (s89 _ _ g0) (g1.same s89) (g2.same s89) (g3.same s89) (g4.same s89),G9 b7 (hc1.same s89) (hc2.same s89) (hc3.same s89) (hc4.same s89),oJ _ _ _ _,oJ _ _ _ _,fun bb2 hbb=>?_⟩;rw[hbb.mpr rfl];refine⟨_,rfl,sy rfl ?_⟩;exact⟨_,_,_,_,_,rfl,sW2.trans (w4.trans s89)⟩
 .rintro σ W ⟨y7,y8,y9,y10,y11,rfl,sW⟩;walk_at "rd";exact k W (s06.trans sW)
theorem pN(F:j4 K mg "whole_box" cm ["part"])(B:nt mg):i7 P w K mg base z8 1 "whole_box" ["part"] (sI K):=by
 refine o5 F iU (fun vs H Q E h=>?_) (fun f cdv A outer s H vs Q E hr h=>?_)
 .obtain⟨a,us,c,rfl,_⟩:=h;rfl
 obtain⟨a,us,c,rfl,ha,hP,c1,c2,k⟩:=h;have hu:=hr.units;refine⟨_,(b8 (cB (i:=1) (j:=2) rfl iU.nd rfl rfl (by decide) rfl rfl (a8 (ag (os:=["x","y"]) (caps:=[]) ["part","across","up"] (d4 cm) (o8 K (f8 0)) (fun _ _ _ _ _=>(u8 (n:=2) K rfl (g9 (g8 (i:=0) (show a9x (["x","y"]:List Str) from by decide) rfl (Or.inl rfl)) (g9 (g8 (i:=1) (show a9x (["x","y"]:List Str) from by decide) rfl (Or.inl rfl)) u5)))) (fun _ _ _ _ _=>(f8 0)) (by decide)) (a8 (ag (os:=["x","y"]) (caps:=[]) ["part","across","up"] (d4 cm) (o8 K (f8 0)) (fun _ _ _ _ _=>(u8 (n:=2) K rfl (g9 (g8 (i:=0) (show a9x (["x","y"]:List Str) from by decide) rfl (Or.inl rfl)) (g9 (g8 (i:=1) (show a9x (["x","y"]:List Str) from by decide) rfl (Or.inl rfl)) u5)))) (fun _ _ _ _ _=>(f8 1)) (by decide)) a9)) rfl) (e9 (j5 (n4 (a8 (o9 (ke rfl) (by rfl) B.min b6g (a8 (f8 1) a9)) (a8 (o9 (ke rfl) (by rfl) B.min b6g (a8 (f8 2) a9)) (a8 (o9 (kf rfl) (by rfl) B.max b4i (a8 (f8 1) a9)) (a8 (o9 (kf rfl) (by rfl) B.max b4i (a8 (f8 2) a9)) a9)))))))),?_⟩;have hul:=hP.len;walk_at "rd";refine⟨⟨_,o7.of ha⟩,mV (eN (o7.of ha) hP) (by lia) (fun i v _=>v=V.int ((c[i]?).getD (0,0)).1) (fun _ _ _ _ _ h=>h) (fun i H2 kk hi s2 hk=>?_) (fun D ys H2 hD s2 hd hyl hr=>?_)⟩
 .walk_at "rd";exact hk _ _ (L2.b9.refl _) rfl
 have ey:=uH (f:=(·.1)) hyl hr;subst ey;walk_at "rd";refine⟨⟨_,o7.of (s2 _ _ ha)⟩,mV (eN (o7.of (s2 _ _ ha)) (hP.same s2)) (by lia) (fun i v _=>v=V.int ((c[i]?).getD (0,0)).2) (fun _ _ _ _ _ h=>h) (fun i H3 kk hi s3 hk=>?_) (fun D2 ys H3 hD2 s3 hd2 hyl2 hr2=>?_)⟩
 .walk_at "rd";exact hk _ _ (L2.b9.refl _) rfl
 have ey:=uH (f:=(·.2)) hyl2 hr2;subst ey;have hd3:=s3 _ _ hd;clear hr hr2 hyl hyl2 hD hD2;refine⟨_,_,rfl,?_⟩;walk_at "rd";refine⟨D,_,rfl,o7.of hd3,by rw[a9a];lia,fun x0 m1 m2=>?_⟩;walk_at "rd";refine⟨D2,_,rfl,o7.of hd2,by rw[a9a];lia,fun y0 m3 m4=>?_⟩;walk_at "rd";refine⟨D,_,rfl,o7.of hd3,by rw[a9a];lia,fun x1 m5 m6=>?_⟩;walk_at "rd";refine⟨D2,_,rfl,o7.of hd2,by rw[a9a];lia,fun y1 m7 m8=>?_⟩;walk_at "rd";intro t ht;exact k t x0 y0 x1 y1 _ (s2.trans (s3.trans (b9.new ht))) b7 ⟨⟨m1,m2⟩,⟨m3,m4⟩,⟨m5,m6⟩,⟨m7,m8⟩⟩
theorem pR{C_Ground:Addr}(b56:kW K mg "Ground" C_Ground)(b57:u7 K C_Ground "room")(b58:u7 K C_Ground "x_bottoms")(b59:u7 K C_Ground "y_bottoms")(b60:u7 K C_Ground "ones")(b61:u7 K C_Ground "others")(F:j4 K mg "all_small" cn ["ground","nearness"])(B:nt mg)(b54:i7 P w K mg base z8 1 "product" ["numbers"] (gw K))(b80:i7 P w K mg base z8 1 "whole_box" ["part"] (sI K)):i7 P w K mg base z8 2 "all_small" ["ground","nearness"] (gv K C_Ground):=by
 refine o5 F bM (fun vs H Q E h=>?_) (fun f cdv A outer s H vs Q E hr h=>?_)
 .obtain⟨g,v,nu,R,xb,yb,As,Bs,n,rfl,_⟩:=h;rfl
 obtain⟨g,v,nu,R,xb,yb,As,Bs,n,rfl,hG,hv,bnu,hR,zR,hx,hy,lx24,ly24,zX,zY,lA,lB,hc,hn,k⟩:=h;have hu:=hr.units;refine⟨_,(b8 (aX (f8 1) (u8 (n:=2) K rfl (g9 (g8 (i:=2) bM.nd rfl (Or.inl rfl)) (g9 (g8 (i:=3) bM.nd rfl (Or.inr rfl)) u5)))) (b8 (i5 (i:=4) bM.nd rfl (Or.inr rfl) (d8 k8 (d8 k8 (f8 2) (i6 b54 hr j7 (a8 (show ao _ _ (dL K _ _) from (aH (f8 0))) a9))) (show ao _ _ (dL K _ _) from (aH (f8 0))))) (b8 (i5 (i:=5) bM.nd rfl (Or.inr rfl) (d8 k8 (d8 k8 (f8 2) (i6 b54 hr j7 (a8 (show ao _ _ (dL K _ _) from (aH (f8 0))) a9))) (show ao _ _ (dL K _ _) from (aH (f8 0))))) (b8 (cK (i:=6) (os:=["part"]) (caps:=[]) ["ground","nearness","top","bottom","most_x","most_y","boxes"] (d4 cn) bM.nd rfl rfl (o8 K (d8 jR (show ao _ _ (dL K _ _) from (aH (f8 0))) (show ao _ _ (dL K _ _) from (aH (f8 0))))) (fun _ _ _ _ _=>(g8 (i:=0) (show a9x (["part"]:List Str) from by decide) rfl (Or.inl rfl))) (fun _ _ _ _ _=>(i6 b80 hr j7 (a8 (f8 0) a9))) (by decide)) (e9 (j5 (o9 (uq K rfl) (by rfl) B.all PyProof.Rows.boot_all (a8 (ag (os:=["left","low","right","high"]) (caps:=[(4,"most_x"),(5,"most_y"),(3,"bottom")]) ["ground","nearness","top","bottom","most_x","most_y","boxes"] (d4 cn) (o8 K (f8 6)) (fun _ _ _ _ _=>(u8 (n:=4) K rfl (g9 (g8 (i:=0) (show a9x (["left","low","right","high","most_x","most_y","bottom"]:List Str) from by decide) rfl (Or.inl rfl)) (g9 (g8 (i:=1) (show a9x (["left","low","right","high","most_x","most_y","bottom"]:List Str) from by decide) rfl (Or.inl rfl)) (g9 (g8 (i:=2) (show a9x (["left","low","right","high","most_x","most_y","bottom"]:List Str) from by decide) rfl (Or.inl rfl)) (g9 (g8 (i:=3) (show a9x (["left","low","right","high","most_x","most_y","bottom"]:List Str) from by decide) rfl (Or.inl rfl)) u5)))))) (fun _ _ _ _ _=>(lj (cC a1b (d8 k8 (d8 bg (f8 2) (f8 0)) (f8 6)) (f8 4) (v8 _)) (jl (cC a1b (d8 k8 (d8 bg (f8 3) (f8 1)) (f8 6)) (f8 5) (v8 _))))) (by decide)) a9)))))))),?_⟩;obtain⟨dx,lx,ly,lo,lt,yo,yt,hg,hlx,hly,hlo,hA,hlt,hB⟩:=hG.ex;obtain⟨nv,rfl,hnv⟩:=hv;walk_at "rd";refine⟨nv,_,rfl,aj.of hnv,rfl,_,_,rfl,_,_,rfl,rfl,?_⟩;walk_at "rd";refine⟨g,C_Ground,dx,_,_,rfl,hg,b56.cl,b58,jZ R lx ly lo lt,?_⟩;walk_at "rd";dsimp only[q9];refine⟨lx,xb,rfl,o7.of hlx,hx,by lia,?_⟩;have zn:Sz 1000 nu.num:=bnu.num;have zd:Sz 1000 (nu.den:Int):=bnu.den;walk_at "rd";refine⟨g,C_Ground,dx,_,_,rfl,hg,b56.cl,b57,cD R lx ly lo lt,?_⟩;walk_at "rd";refine⟨g,C_Ground,dx,_,_,rfl,hg,b56.cl,b59,jY R lx ly lo lt,?_⟩;walk_at "rd";dsimp only[q9];refine⟨ly,yb,rfl,o7.of hly,hy,by lia,?_⟩;walk_at "rd";refine⟨g,C_Ground,dx,_,_,rfl,hg,b56.cl,b57,cD R lx ly lo lt,?_⟩;walk_at "rd";refine⟨g,C_Ground,dx,_,_,rfl,hg,b56.cl,b60,dj R lx ly lo lt,?_⟩;walk_at "rd";refine⟨g,C_Ground,dx,_,_,rfl,hg,b56.cl,b61,cE R lx ly lo lt,?_⟩;walk_at "rd";have eA:=hA.len;have eB:=hB.len;refine⟨b1x (j8 (by lia)),fun l1 hl1=>?_⟩;have s1:=b9.new (o:=.lst (yo++yt)) hl1;have hl:=b7 (H:=H) (a:=l1) (o:=.lst (yo++yt));generalize upd H l1 (.lst (yo++yt))=H1 at *;have hC:=(hA.append hB).same s1;generalize yo++yt=ys at *;have eC:=hC.len;rw[a9b] at eC;clear hA hB hlo hlt hlx hly hg hnv hl1;refine⟨l1,rfl,⟨_,o7.of hl⟩,en (ae (o7.of hl)) (by lia) (fun i v H=>∃ q:Bx5,v=.ref q.1/\H q.1=some (.tup [.int q.2.1,.int q.2.2.1,.int q.2.2.2.1,.int q.2.2.2.2])/\ii (((As++Bs)[i]?).getD []) q.2.1 q.2.2.1 q.2.2.2.1 q.2.2.2.2) (fun i v H H' t h=>by obtain⟨q,h1,h2,h3⟩:=h;exact⟨q,h1,t _ _ h2,h3⟩) (fun i H2 kk hi s2 hk=>?_) (fun D bs H2 hD s2 hd hbl hr=>?_)⟩
 .have e1:=a8y hi;have hi2:i<(As++Bs).length:=by rw[a9b];lia
  have e2:=a8y hi2;obtain⟨lc,uc,e3,_,hlc,hPc⟩:=(hC.same s2).get i _ _ e1 e2;rw[e1,e3];rw[e2] at hk;obtain⟨q1,q2,q3⟩:=hc _ (a9n hi2);walk_at "rd";dsimp only[q9];refine⟨lc,uc,_,rfl,hlc,hPc,q1,by lia,fun t x0 y0 x1 y1 H3 s3 ht hb=>?_⟩;exact hk _ _ s3 ⟨(t,x0,y0,x1,y1),rfl,ht,hb⟩
 obtain⟨f,hf⟩:=yN (n:=(As++Bs).length) (P:=fun i (q:Bx5)=>bs[i]?=some (.ref q.1)/\H2 q.1=some (.tup [.int q.2.1,.int q.2.2.1,.int q.2.2.2.1,.int q.2.2.2.2])/\ii (((As++Bs)[i]?).getD []) q.2.1 q.2.2.1 q.2.2.2.1 q.2.2.2.2) (fun i hi=>by
  rw[a9b] at hi;have e:=a8y (l:=bs) (i:=i) (by lia);obtain⟨q,h1,h2,h3⟩:=hr i _ e;exact⟨q,by rw[e,h1],h2,h3⟩)
 have hsm:=ww (X:=j0 xb) (Y:=j0 yb) (R:=R) (nu:=nu) (css:=As++Bs) (f:=f) (fun i hi=>(hf i hi).2.2);clear hr;walk_at "rd";have hbn:bs.length=(As++Bs).length:=by rw[a9b];lia
 refine⟨⟨_,o7.of hd⟩,a8n (fa:=fun i=>(f i).1) (x:=fun i=>.int (f i).2.1) (y:=fun i=>.int (f i).2.2.1) (u:=fun i=>.int (f i).2.2.2.1) (v:=fun i=>.int (f i).2.2.2.2) ((ae (o7.of hd)).congr fun i hi=>by rw[(hf i (by lia)).1];rfl) (fun i hi=>aj.of (hf i (by lia)).2.1) (by lia) (fun i v _=>v=.bl (a0x (j0 xb) (j0 yb) R nu (f i))) (fun _ _ _ _ _ h=>h) (fun i H3 kk hi s3 hk=>?_) (fun E cs H3 hE s3 he hcl hr=>?_)⟩
 .have hi2:i<(As++Bs).length:=by lia
  have hbx:=(hf i hi2).2.2;rw[a8y hi2] at hbx;obtain⟨⟨z1,z2⟩,z3,z4⟩:=hbx.sz (hc _ (a9n hi2)).2.2;generalize f i=q at *;obtain⟨qa,qx0,qy0,qx1,qy1⟩:=q;dsimp only at z1 z2 z3 z4;replace z1:=z1.mono hn;replace z2:=z2.mono hn;replace z3:=z3.mono hn;replace z4:=z4.mono hn;walk_at "rd";refine qq (fun z=>?_) (fun z=>?_)
  .walk_at "rd";refine hk _ _ (L2.b9.refl _) ?_;unfold a0x;rw[z,Bool.true_and]
  .refine hk _ _ (L2.b9.refl _) ?_;unfold a0x;rw[z,b9o]
 have ec:=a0a (f:=fun i=>a0x (j0 xb) (j0 yb) R nu (f i)) hcl hr;dsimp only[q9];refine⟨E,(b0y bs.length).map fun i=>a0x (j0 xb) (j0 yb) R nu (f i),rfl,o7.of (by rw[<- ec];exact he),?_⟩;exact k _ _ (s1.trans (s2.trans s3)) (by rw[hbn];exact hsm)
theorem zE(F:j4 K mg "under" kY ["one","other"]):i7 P w K mg base z8 1 "under" ["one","other"] cx:=by
 refine o5 F yv (fun vs H Q E h=>?_) (fun f cdv A outer s H vs Q E hr h=>?_)
 .obtain⟨x,y,p,q,rfl,_⟩:=h;rfl
 obtain⟨_,_,p,q,rfl,⟨a,rfl,ha⟩,⟨b,rfl,hb⟩,hp,hq,k⟩:=h;have hu:=hr.units;refine⟨_,(e9 (j5 (cC kz (d8 k8 (g6 (i4 K) (f8 0) b6 (fun _ _=>rfl)) (g6 (i4 K) (f8 1) b6 (fun _ _=>rfl))) (d8 k8 (g6 (i4 K) (f8 1) b6 (fun _ _=>rfl)) (g6 (i4 K) (f8 0) b6 (fun _ _=>rfl))) (v8 _)))),?_⟩;refine⟨_,rfl,a,_,_,_,rfl,rfl,aj.of ha,rfl,_,rfl,b,_,_,_,rfl,rfl,aj.of hb,rfl,_,_,rfl,rfl,tD hp.num hq.den,_,rfl,b,_,_,_,rfl,rfl,aj.of hb,rfl,_,rfl,a,_,_,_,rfl,rfl,aj.of ha,rfl,_,_,rfl,rfl,tD hq.num hp.den,_,_,rfl,rfl,?_⟩;have e:decide (p.num*(q.den:Int)<q.num*(p.den:Int))=decide (p<q):=decide_eq_decide.mpr (Rat.lt_iff p q).symm;show Q (.bl (decide (p.num*(q.den:Int)<q.num*(p.den:Int)))) H;rw[e];exact k
theorem tu(F:j4 K mg "greater" gS ["one","other"])(b81:i7 P w K mg base z8 1 "under" ["one","other"] cx):i7 P w K mg base z8 2 "greater" ["one","other"] oj:=by
 refine o5 F sP (fun vs H Q E h=>?_) (fun f cdv A outer s H vs Q E hr h=>?_)
 .obtain⟨x,y,p,q,rfl,_⟩:=h;rfl
 obtain⟨x,y,p,q,rfl,hx,hy,bp,bq,k⟩:=h;have hu:=hr.units;refine⟨_,(e9 (j5 (jN (br (i6 b81 hr j7 (a8 (f8 0) (a8 (f8 1) a9)))) (f8 1) (f8 0)))),?_⟩;walk_at "rd";dsimp only[q9];refine⟨x,y,p,q,rfl,hx,hy,bp,bq,?_⟩;refine⟨_,rfl,qq (fun z=>?_) (fun z=>?_)⟩
 .walk_at "rd";exact k _ (by unfold xR;rw[if_pos (of_decide_eq_true z)];exact hy)
 .walk_at "rd";exact k _ (by unfold xR;rw[if_neg (of_decide_eq_false z)];exact hx)
theorem wT(F:j4 K mg "lesser" jc ["one","other"])(b81:i7 P w K mg base z8 1 "under" ["one","other"] cx):i7 P w K mg base z8 2 "lesser" ["one","other"] qN:=by
 refine o5 F wA (fun vs H Q E h=>?_) (fun f cdv A outer s H vs Q E hr h=>?_)
 .obtain⟨x,y,p,q,rfl,_⟩:=h;rfl
 obtain⟨x,y,p,q,rfl,hx,hy,bp,bq,k⟩:=h;have hu:=hr.units;refine⟨_,(e9 (j5 (jN (br (i6 b81 hr j7 (a8 (f8 0) (a8 (f8 1) a9)))) (f8 0) (f8 1)))),?_⟩;walk_at "rd";dsimp only[q9];refine⟨x,y,p,q,rfl,hx,hy,bp,bq,?_⟩;refine⟨_,rfl,qq (fun z=>?_) (fun z=>?_)⟩
 .walk_at "rd";exact k _ (by unfold xQ;rw[if_pos (of_decide_eq_true z)];exact hx)
 .walk_at "rd";exact k _ (by unfold xQ;rw[if_neg (of_decide_eq_false z)];exact hy)
theorem nH(F:j4 K mg "common_box" di ["one","other"])(b82:i7 P w K mg base z8 2 "greater" ["one","other"] oj)(b83:i7 P w K mg base z8 2 "lesser" ["one","other"] qN):i7 P w K mg base z8 3 "common_box" ["one","other"] ol:=by
 refine o5 F nE (fun vs H Q E h=>?_) (fun f cdv A outer s H vs Q E hr h=>?_)
 .obtain⟨x,y,p,q,rfl,_⟩:=h;rfl
 obtain⟨x,y,p,q,rfl,hx,hy,bp,bq,k⟩:=h;have hu:=hr.units;refine⟨_,(e9 (j5 (n4 (a8 (i6 b82 hr j7 (a8 (g6 (i4 K) (f8 0) b6 (fun _ _=>rfl)) (a8 (g6 (i4 K) (f8 1) b6 (fun _ _=>rfl)) a9))) (a8 (i6 b82 hr j7 (a8 (g6 (i4 K) (f8 0) b6 (fun _ _=>rfl)) (a8 (g6 (i4 K) (f8 1) b6 (fun _ _=>rfl)) a9))) (a8 (i6 b83 hr j7 (a8 (g6 (i4 K) (f8 0) b6 (fun _ _=>rfl)) (a8 (g6 (i4 K) (f8 1) b6 (fun _ _=>rfl)) a9))) (a8 (i6 b83 hr j7 (a8 (g6 (i4 K) (f8 0) b6 (fun _ _=>rfl)) (a8 (g6 (i4 K) (f8 1) b6 (fun _ _=>rfl)) a9))) a9))))))),?_⟩;obtain⟨a,a1,a2,a3,a4,rfl,ha,h1,h2,h3,h4⟩:=hx.ex;obtain⟨b,b1,b2,b3,b4,rfl,hb,g1,g2,g3,g4⟩:=hy.ex;walk_at "rd";dsimp only[q9];refine⟨a1,b1,_,_,rfl,h1,g1,bp.l,bq.l,fun v1 k1=>?_⟩;walk_at "rd";dsimp only[q9];refine⟨a2,b2,_,_,rfl,h2,g2,bp.b,bq.b,fun v2 k2=>?_⟩;walk_at "rd";dsimp only[q9];refine⟨a3,b3,_,_,rfl,h3,g3,bp.r,bq.r,fun v3 k3=>?_⟩;walk_at "rd";dsimp only[q9];refine⟨a4,b4,_,_,rfl,h4,g4,bp.t,bq.t,fun v4 k4=>?_⟩;walk_at "rd";intro t ht;have s:=b9.new (o:=.tup [v1,v2,v3,v4]) ht;exact k _ _ s ⟨t,v1,v2,v3,v4,rfl,b7,k1.same s,k2.same s,k3.same s,k4.same s⟩
theorem nF(F:j4 K mg "share_over" dh ["top","bottoms"])(b52:i7 P w K mg base z8 1 "greatest_common" ["one","other"] uY):i7 P w K mg base z8 2 "share_over" ["top","bottoms"] (oh K):=by
 refine o5 F bS (fun vs H Q E h=>?_) (fun f cdv A outer s H vs Q E hr h=>?_)
 .obtain⟨bi,a,bs,rfl,_⟩:=h;rfl
 obtain⟨bi,a,bs,rfl,hS,hb,hn,k⟩:=h;have hu:=hr.units;refine⟨_,(b8 (i5 (i:=2) bS.nd rfl (Or.inl rfl) b6) (b8 (aP PassesOwn.never rfl (o8 K (f8 1)) (g8 (i:=3) bS.nd rfl (Or.inl rfl)) (b8 (i5 (i:=4) bS.nd rfl (Or.inl rfl) (i6 b52 hr j7 (a8 (f8 0) (a8 (f8 3) a9)))) (e9 (cB (i:=0) (j:=2) rfl bS.nd rfl rfl (by decide) rfl rfl (a8 (d8 bH (f8 0) (f8 4)) (a8 (d8 k8 (f8 2) (d8 bH (f8 3) (f8 4))) a9)) rfl)))) (e9 (j5 (n4 (a8 (f8 0) (a8 (f8 2) a9))))))),?_⟩;walk_at "rd";refine⟨⟨_,hS⟩,cF (xs:=bs.map V.int) (fun i σ H'=>∃ (y1 y2:Option V) (T B:Int),σ=[some (.int T),some (.ref a),some (.int B),y1,y2]/\0<B/\a9r T B=1/\T*j0 (bs.take i)=bi*B/\Sz (9000*i+1) B/\H'=H) ⟨none,none,bi,1,rfl,by decide,by simp,by simp[j0],⟨by decide⟩,rfl⟩ ?_ ?_ ?_⟩
 .rintro i σ H' hi ⟨y1,y2,T,B,rfl,hB,hg,he,hz,rfl⟩;exact hS
 .rintro i x σ H' hx ⟨y1,y2,T,B,rfl,hB,hg,he,hz,rfl⟩;obtain⟨b,eb,rfl⟩:=vI hx;have hi:i<bs.length:=(a9c.mp eb).1;obtain⟨b0,zb⟩:=hb b (a9f eb);obtain⟨g1,g2,g3,g4,g5⟩:=wP b0 hB hg;have zg:Sz 9000 (a9r T b:Int):=im (by lia) g5 zb;have zq:Sz 9000 (b.fdiv (a9r T b)):=pF b0 g4 g5 zb;walk_at "rd";refine⟨T,b,rfl,?_⟩;walk_at "rd";refine⟨⟨by lia,zg⟩,?_⟩;walk_at "rd";refine⟨⟨by lia,zg⟩,?_⟩;refine⟨_,_,rfl,rfl,nI hz zq (by lia),?_⟩;refine⟨_,_,rfl,_,_,_,_,rfl,g2,g1,?_,(hz.mul zq).mono (by lia),rfl⟩;rw[jH eb,fk];have e1:T.fdiv (a9r T b)*(j0 (bs.take i)*b)=(T.fdiv (a9r T b)*b)*j0 (bs.take i):=by grind
  rw[e1,g3];have e2:T*b.fdiv (a9r T b)*j0 (bs.take i)=(T*j0 (bs.take i))*b.fdiv (a9r T b):=by grind
  rw[e2,he];grind
 .rintro σ H' ⟨y1,y2,T,B,rfl,hB,hg,he,hz,rfl⟩;rw[a9a,b3e] at he;walk_at "rd";intro p hp;have hu:=tK hB (gU fun b hb'=>(hb b hb').1) hg he;refine k _ _ (b9.new hp) ⟨p,rfl,?_⟩;rw[b7,hu.1,hu.2]
theorem rj{C_Ground:Addr}(b56:kW K mg "Ground" C_Ground)(b57:u7 K C_Ground "room")(b58:u7 K C_Ground "x_bottoms")(b59:u7 K C_Ground "y_bottoms")(b60:u7 K C_Ground "ones")(b61:u7 K C_Ground "others")(F:j4 K mg "told_box" fg ["ground","part"])(b80:i7 P w K mg base z8 1 "whole_box" ["part"] (sI K))(b84:i7 P w K mg base z8 2 "share_over" ["top","bottoms"] (oh K)):i7 P w K mg base z8 3 "told_box" ["ground","part"] (uT K C_Ground):=by
 refine o5 F ck (fun vs H Q E h=>?_) (fun f cdv A outer s H vs Q E hr h=>?_)
 .obtain⟨g,a,R,xb,yb,As,Bs,us,c,rfl,_⟩:=h;rfl
 obtain⟨g,a,R,xb,yb,As,Bs,us,c,rfl,hG,ha,hP,c1,c2,hR,zR,hx,hy,lx24,ly24,k⟩:=h;have hu:=hr.units;refine⟨_,(b8 (aX (i6 b80 hr j7 (a8 (f8 1) a9)) (u8 (n:=4) K rfl (g9 (g8 (i:=2) ck.nd rfl (Or.inl rfl)) (g9 (g8 (i:=3) ck.nd rfl (Or.inl rfl)) (g9 (g8 (i:=4) ck.nd rfl (Or.inl rfl)) (g9 (g8 (i:=5) ck.nd rfl (Or.inl rfl)) u5)))))) (b8 (cB (i:=6) (j:=7) rfl ck.nd rfl rfl (by decide) rfl rfl (a8 (d8 jR (show ao _ _ (dL K _ _) from (aH (f8 0))) (u0 (a8 (show ao _ _ (dL K _ _) from (aH (f8 0))) a9))) (a8 (d8 jR (show ao _ _ (dL K _ _) from (aH (f8 0))) (u0 (a8 (show ao _ _ (dL K _ _) from (aH (f8 0))) a9))) a9)) rfl) (e9 (j5 (n4 (a8 (i6 b84 hr j7 (a8 (f8 2) (a8 (f8 6) a9))) (a8 (i6 b84 hr j7 (a8 (f8 3) (a8 (f8 7) a9))) (a8 (i6 b84 hr j7 (a8 (f8 4) (a8 (f8 6) a9))) (a8 (i6 b84 hr j7 (a8 (f8 5) (a8 (f8 7) a9))) a9))))))))),?_⟩;obtain⟨dx,lx,ly,lo,lt,yo,yt,hg,hlx,hly,hlo,hA,hlt,hB⟩:=hG.ex;walk_at "rd";dsimp only[q9];refine⟨a,us,c,rfl,ha,hP,c1,c2,fun t x0 y0 x1 y1 H1 s1 ht hBx=>?_⟩;refine⟨t,_,rfl,aj.of ht,rfl,_,_,rfl,_,_,rfl,_,_,rfl,_,_,rfl,rfl,?_⟩;have hg1:=s1 _ _ hg;have hx1:=s1 _ _ hlx;have hy1:=s1 _ _ hly;walk_at "rd";refine⟨g,C_Ground,dx,_,_,rfl,hg1,b56.cl,b58,jZ R lx ly lo lt,?_⟩;walk_at "rd";refine⟨g,C_Ground,dx,_,_,rfl,hg1,b56.cl,b57,cD R lx ly lo lt,?_⟩;walk_at "rd";intro l1 hl1;have t1:=b9.new (o:=.lst [.int R]) hl1;refine⟨lx,l1,xb.map V.int,[.int R],rfl,rfl,t1 _ _ hx1,b7,b1x (j8 (by rw[a9a,b2d];lia)),fun l2 hl2=>?_⟩;have t2:=b9.new (o:=.lst (xb.map V.int++[.int R])) hl2;have k2:(upd (upd H1 l1 (.lst [.int R])) l2 (.lst (xb.map V.int++[.int R]))) l2=some (.lst ((xb++[R]).map V.int)):=by rw[b7,b2w];rfl
 generalize upd (upd H1 l1 (.lst [.int R])) l2 (.lst (xb.map V.int++[.int R]))=H2 at *;have t12:=t1.trans t2;replace hg1:=t12 _ _ hg1;replace hy1:=t12 _ _ hy1;clear t1 t2 hl1 hl2;walk_at "rd";refine⟨g,C_Ground,dx,_,_,rfl,hg1,b56.cl,b59,jY R lx ly lo lt,?_⟩;walk_at "rd";refine⟨g,C_Ground,dx,_,_,rfl,hg1,b56.cl,b57,cD R lx ly lo lt,?_⟩;walk_at "rd";intro l3 hl3;have t3:=b9.new (o:=.lst [.int R]) hl3;refine⟨ly,l3,yb.map V.int,[.int R],rfl,rfl,t3 _ _ hy1,b7,b1x (j8 (by rw[a9a,b2d];lia)),fun l4 hl4=>?_⟩;have t4:=b9.new (o:=.lst (yb.map V.int++[.int R])) hl4;have k4:(upd (upd H2 l3 (.lst [.int R])) l4 (.lst (yb.map V.int++[.int R]))) l4=some (.lst ((yb++[R]).map V.int)):=by rw[b7,b2w];rfl
 replace k2:=(t3.trans t4) _ _ k2;have tA:=s1.trans (t12.trans (t3.trans t4));generalize upd (upd H2 l3 (.lst [.int R])) l4 (.lst (yb.map V.int++[.int R]))=H3 at *;clear t3 t4 hl3 hl4 t12;refine⟨_,_,rfl,?_⟩;have bx2:∀ b∈xb++[R],0<b/\Sz 9000 b:=fun b hb=>by
  rcases a9k.mp hb with hb | hb
  .exact hx b hb
  .rw[a9q.mp hb];exact⟨hR,zR⟩
 have by2:∀ b∈yb++[R],0<b/\Sz 9000 b:=fun b hb=>by
  rcases a9k.mp hb with hb | hb
  .exact hy b hb
  .rw[a9q.mp hb];exact⟨hR,zR⟩
 walk_at "rd";dsimp only[q9];refine⟨x0,l2,xb++[R],rfl,o7.of k2,bx2,by rw[a9b,b2d];lia,fun v1 W1 r1 q1=>?_⟩;walk_at "rd";dsimp only[q9];refine⟨y0,l4,yb++[R],rfl,o7.of (r1 _ _ k4),by2,by rw[a9b,b2d];lia,fun v2 W2 r2 q2=>?_⟩;walk_at "rd";dsimp only[q9];refine⟨x1,l2,xb++[R],rfl,o7.of (r2 _ _ (r1 _ _ k2)),bx2,by rw[a9b,b2d];lia,fun v3 W3 r3 q3=>?_⟩;walk_at "rd";dsimp only[q9];refine⟨y1,l4,yb++[R],rfl,o7.of (r3 _ _ (r2 _ _ (r1 _ _ k4))),by2,by rw[a9b,b2d];lia,fun v4 W4 r4 q4=>?_⟩;walk_at "rd";intro tb htb;have r5:=b9.new (o:=.tup [v1,v2,v3,v4]) htb;rw[fk] at q1 q2 q3 q4;exact k _ x0 y0 x1 y1 _ (tA.trans (r1.trans (r2.trans (r3.trans (r4.trans r5))))) hBx ⟨tb,v1,v2,v3,v4,rfl,b7,(((q1.same r2).same r3).same r4).same r5,((q2.same r3).same r4).same r5,(q3.same r4).same r5,q4.same r5⟩
theorem T8{C_Ground:Addr}(b56:kW K mg "Ground" C_Ground)(b57:u7 K C_Ground "room")(b58:u7 K C_Ground "x_bottoms")(b59:u7 K C_Ground "y_bottoms")(b60:u7 K C_Ground "ones")(b61:u7 K C_Ground "others")(F:j4 K mg "near" fK ["one","other","nearness"]){b37 b38 C_NoShare:Addr}(X:Exc K mg b37 b38 C_NoShare){b31 b32 b33 b34 b35:Addr}{b36 t_MOST_LEVEL:Tok}(G:a8v K mg b31 b32 b33 b34 b35 b36 t_MOST_LEVEL)(b75:gt P w K mg base z8 5 C_Ground "__init__" ["self","one","other","level"] (lO K C_Ground))(b76:gt P w K mg base z8 3 C_Ground "go_down" ["self"] (pr K C_Ground))(b79:i7 P w K mg base (jE P w) 7 "meets" ["one","other","level"] (lN K b38))(b85:i7 P w K mg base z8 2 "all_small" ["ground","nearness"] (gv K C_Ground))(b86:i7 P w K mg base z8 3 "common_box" ["one","other"] ol)(b87:i7 P w K mg base z8 3 "told_box" ["ground","part"] (uT K C_Ground)):i7 P w K mg base (jE P w) 8 "near" ["one","other","nearness"] (sK K b38):=by
 refine mP F dS (fun vs H Q E h=>?_) (fun f cdv A outer s H vs Q E hr h=>?_)
 .obtain⟨a,b,nv,nu,us,ws,ps,qs,D,m,rfl,_⟩:=h;rfl
 obtain⟨a,b,nv,nu,us,ws,ps,qs,D,m,rfl,ha,hP,hb,hR,hnv,bnu,p1,p12,q1,q12,hD,zD,hm,hov,hLn,k,kn,kx⟩:=h;have hu:=hr.units;refine rX (b5b 3 (x8 fK)) (b8 (aX (i6 b79 hr jO (a8 (f8 0) (a8 (f8 1) (a8 (f8 4) a9)))) (u8 (n:=2) K rfl (g9 (g8 (i:=5) dS.nd rfl (Or.inl rfl)) (g9 (g8 (i:=6) dS.nd rfl (Or.inl rfl)) u5)))) (b8 (i5 (i:=7) dS.nd rfl (Or.inr rfl) (ag (os:=["part"]) (caps:=[(3,"ground")]) ["one","other","nearness","ground","level","pairs","thrown","ones","others"] (d4 fK) (o8 K (show ao _ _ (dL K _ _) from (aH (f8 3)))) (fun _ _ _ _ _=>(g8 (i:=0) (show a9x (["part","ground"]:List Str) from by decide) rfl (Or.inl rfl))) (fun _ _ _ _ _=>(i6 b87 hr j7 (a8 (f8 1) (a8 (f8 0) a9)))) (by decide))) (b8 (i5 (i:=8) dS.nd rfl (Or.inr rfl) (ag (os:=["part"]) (caps:=[(3,"ground")]) ["one","other","nearness","ground","level","pairs","thrown","ones","others"] (d4 fK) (o8 K (show ao _ _ (dL K _ _) from (aH (f8 3)))) (fun _ _ _ _ _=>(g8 (i:=0) (show a9x (["part","ground"]:List Str) from by decide) rfl (Or.inl rfl))) (fun _ _ _ _ _=>(i6 b87 hr j7 (a8 (f8 1) (a8 (f8 0) a9)))) (by decide))) (e9 (j5 (n4 (a8 (f8 4) (a8 (ag (os:=["i","j"]) (caps:=[(7,"ones"),(8,"others")]) ["one","other","nearness","ground","level","pairs","thrown","ones","others"] (d4 fK) (o8 K (f8 5)) (fun _ _ _ _ _=>(u8 (n:=2) K rfl (g9 (g8 (i:=0) (show a9x (["i","j","ones","others"]:List Str) from by decide) rfl (Or.inl rfl)) (g9 (g8 (i:=1) (show a9x (["i","j","ones","others"]:List Str) from by decide) rfl (Or.inl rfl)) u5)))) (fun _ _ _ _ _=>(n4 (a8 (f8 0) (a8 (f8 1) (a8 (i6 b86 hr j7 (a8 (g6 (j3 K) (f8 2) (f8 0) (fun _ _=>rfl)) (a8 (g6 (j3 K) (f8 3) (f8 1) (fun _ _=>rfl)) a9))) a9))))) (by decide)) a9)))))))) (fun R1 hc1 e1=>?_);refine⟨_,(b8 (i5 (i:=3) dS.nd rfl (Or.inr rfl) (yV b56 b75 hr j7 (a8 (f8 0) (a8 (f8 1) (a8 (fT (v:=.int 6) rfl G.MOST_LEVEL ⟨_,rfl⟩) a9))))) (b8 (i5 (i:=4) dS.nd rfl (Or.inl rfl) b6) (b8 (dk PassesOwn.leaving (fj (br (i6 b85 hr j7 (a8 (f8 3) (a8 (f8 2) a9))))) (b8 (aw (p9 fU (f8 4) (fT (v:=.int 6) rfl G.MOST_LEVEL ⟨_,rfl⟩) (v8 _)) (e9 (ou nY X.xTooMany (a8 vq a9))) w8) (b8 (aC (rb b56 b76 (f8 3) hr j7)) (e9 (Q0 (i:=4) dS.nd rfl (by first | exact Or.inl rfl | exact Or.inr rfl) b6 a5c))))) hc1))),?_⟩;walk_at "rd";dsimp only[q9];intro x dx hx hdx hne;have s1:b9 H (upd (upd H dx (.own x)) x (.ins C_Ground dx [])):=(b9.new hdx).trans (b9.new (by rw[i9 (Ne.symm hne)];exact hx));have hx1:(upd (upd H dx (.own x)) x (.ins C_Ground dx [])) x=some (.ins C_Ground dx []):=b7;generalize upd (upd H dx (.own x)) x (.ins C_Ground dx [])=H1 at *;refine⟨x,a,b,dx,us,ws,ps,qs,D,m,6,rfl,hx1,s1 _ _ ha,hP.same s1,s1 _ _ hb,hR.same s1,p1,p12,q1,q12,hD,zD,hm,hov,by lia,hLn,fun xb yb c1 c2 lx ly lo lt yo yt H2 s2 hlx hly hlo hA hlt hB G n1 n2=>⟨rfl,?_⟩⟩;have hx2:=s2 _ _ hx1;generalize eK:6*(max ps.length qs.length - 1)=KK at *;have i2:il H2 (upd H2 x (.ins C_Ground dx (ee (2^KK) lx ly lo lt))):=il.upd hx2;have s3:b9 H (upd H2 x (.ins C_Ground dx (ee (2^KK) lx ly lo lt))):=ak hx (s1.trans s2);have hx3:(upd H2 x (.ins C_Ground dx (ee (2^KK) lx ly lo lt))) x=some (.ins C_Ground dx (ee (2^KK) lx ly lo lt)):=b7;generalize upd H2 x (.ins C_Ground dx (ee (2^KK) lx ly lo lt))=H3 at *;replace hlx:=i2.1 _ _ hlx;replace hly:=i2.1 _ _ hly;replace hlo:=i2.1 _ _ hlo;replace hlt:=i2.1 _ _ hlt;replace hA:=hA.ins i2;replace hB:=hB.ins i2;have R0:(0:Int)<2^KK:=bX _;have zR:Sz 41 ((2:Int)^KK):=(bt _).mono (by lia);have zX:Sz 500 (j0 xb):=G.zx.mono (by decide);have zY:Sz 500 (j0 yb):=G.zy.mono (by decide);have X0:0<j0 xb*2^KK:=b1b G.w1 R0;have Y0:0<j0 yb*2^KK:=b1b G.w2 R0;have D1:ko (6*(ps.length - 1)) c1:=G.d1.mono (by rw[<- eK];exact b0m _ (by lia));have D2:ko (6*(qs.length - 1)) c2:=G.d2.mono (by rw[<- eK];exact b0m _ (by lia));have lv1:∀ d,d<=6->uF (j0 xb*2^KK) (j0 yb*2^KK) ps (m+(KK+1)) ((6 - d)*(ps.length - 1)) d (cL c1 d):=fun d hd=>jU p1 G.p1 G.z1 6 d hd D1;have lv2:∀ d,d<=6->uF (j0 xb*2^KK) (j0 yb*2^KK) qs (m+(KK+1)) ((6 - d)*(qs.length - 1)) d (cL c2 d):=fun d hd=>jU q1 G.p2 G.z2 6 d hd D2;have lt1:∀ d,d<=6->(cL c1 d).map (aW (j0 xb*2^KK) (j0 yb*2^KK))=aK ps d:=fun d hd=>mF p1 G.p1 G.z1 D1 d hd;have lt2:∀ d,d<=6->(cL c2 d).map (aW (j0 xb*2^KK) (j0 yb*2^KK))=aK qs d:=fun d hd=>mF q1 G.p2 G.z2 D2 d hd;have p64:∀ d,d<=6->(2:Nat)^d<=64:=fun d hd=>(a3k hd).2.1;have cOk:∀ d,d<=6->∀ c∈cL c1 d++cL c2 d,1<=c.length/\c.length<=12/\du (m+(KK+1)) c:=fun d hd c hc=>by
  rcases a9k.mp hc with hc | hc
  .exact⟨by rw[(lv1 d hd).len c hc];lia,by rw[(lv1 d hd).len c hc];lia,(lv1 d hd).sz c hc⟩
  .exact⟨by rw[(lv2 d hd).len c hc];lia,by rw[(lv2 d hd).len c hc];lia,(lv2 d hd).sz c hc⟩
 have smE:∀ d,d<=6->((∀ c∈cL c1 d++cL c2 d,a8r (j0 xb) (j0 yb) (2^KK) nu c)↔nl ps qs nu d):=fun d hd=>N7 X0 Y0 (lt1 d hd) (lt2 d hd) fun c hc=>(cOk d hd c hc).1;refine lG (fun mm σ H'=>∃ (d:Nat) (lo lt:Addr) (yo yt:List V),mm=7 - d/\d<=6/\σ=[some (.ref a),some (.ref b),some nv,some (.ref x),some (.int (d:Int)),none,none,none,none]/\b9 H H'/\H' x=some (.ins C_Ground dx (ee (2^KK) lx ly lo lt))/\H' lx=some (.lst (xb.map V.int))/\H' ly=some (.lst (yb.map V.int))/\H' lo=some (.lst yo)/\cZ H' none yo (cL c1 d)/\H' lt=some (.lst yt)/\cZ H' none yt (cL c2 d)/\∀ e,e<d->¬ nl ps qs nu e) (m0:=7) ⟨0,lo,lt,yo,yt,rfl,by lia,rfl,s3,hx3,hlx,hly,hlo,hA,hlt,hB,fun e he=>absurd he (by lia)⟩ ?_ ?_
 .rintro mm σ W0 ⟨d,lo,lt,yo,yt,rfl,hd,rfl,sG,gx,glx,gly,glo,gA,glt,gB,gN⟩;have GV:GrV W0 C_Ground x (2^KK) xb yb (cL c1 d) (cL c2 d):=⟨dx,lx,ly,lo,lt,yo,yt,gx,glx,gly,glo,gA,glt,gB⟩
  walk_at "rd";dsimp only[q9];refine⟨x,nv,nu,2^KK,xb,yb,cL c1 d,cL c2 d,m+(KK+1),rfl,GV,hnv.same sG,bnu,R0,zR,G.bx,G.bY,G.lx,G.ly,zX,zY,by rw[cc];have:=p64 d hd;lia,by rw[cc];have:=p64 d hd;lia,cOk d hd,by lia,fun z W1 w1 hz=>?_⟩;rw[smE d hd] at hz;replace sG:=sG.trans w1;replace gx:=w1 _ _ gx;replace glx:=w1 _ _ glx;replace gly:=w1 _ _ gly;replace glo:=w1 _ _ glo;replace glt:=w1 _ _ glt;replace gA:=gA.same w1;replace gB:=gB.same w1;refine⟨_,rfl,?_⟩;cases z with
  | true=>
    have hS:=hz.mp rfl;refine sy rfl ?_;subst e1;clear hz GV w1;walk_at "rd";dsimp only[q9];have hLd:d*(max ps.length qs.length - 1)<=40:=by have:=b6i (max ps.length qs.length - 1) hd;lia
    refine⟨a,b,us,ws,ps,qs,D,m,d,rfl,sG _ _ ha,hP.same sG,sG _ _ hb,hR.same sG,p1,p12,q1,q12,hD,zD,hm,hov,hd,hLd,fun c lf lh vf vh fl tt W2 w2 hc hlf hlh hf hh hne2 hF hT hTo hFw=>?_,fun e fl tt W2 he w2 hTo hbig=>kx d e fl tt W2 hd hS gN he (sG.trans w2) hTo hbig⟩;refine⟨c,_,rfl,aj.of hc,rfl,_,_,rfl,_,_,rfl,rfl,?_⟩;have fin:=hTo.ins.1;have hfl:vf.length=fl.length:=hF.len;have hf256:fl.length<=256:=by
     obtain⟨f',t',h1,h2⟩:=hFw d (a9j _);rw[aA.same hTo h1];exact h2
    replace sG:=sG.trans w2;replace gx:=w2 _ _ gx;replace glx:=w2 _ _ glx;replace gly:=w2 _ _ gly;replace glo:=w2 _ _ glo;replace glt:=w2 _ _ glt;replace gA:=gA.same w2;replace gB:=gB.same w2;clear w2 hc hh hT hlf hlh hne2;have lA:=gA.len;have lB:=gB.len;rw[cc] at lA lB;have h64:=p64 d hd;have boxOk:∀ (cs:List Pl) (st:List Pt),cs∈cL c1 d++cL c2 d->aW (j0 xb*2^KK) (j0 yb*2^KK) cs=st->∀ x0 y0 x1 y1,ii cs x0 y0 x1 y1->bZ st (a8o (j0 xb) (j0 yb) (2^KK) x0 y0 x1 y1)/\(a8o (j0 xb) (j0 yb) (2^KK) x0 y0 x1 y1).Bd 4000:=fun cs st hm he x0 y0 x1 y1 hbx=>⟨by rw[<- he];exact hbx.q X0 Y0,a5p X0 Y0 zX zY zR hbx (cOk d hd cs hm).2.2 (by lia)⟩
    walk_at "rd";refine⟨x,C_Ground,dx,_,_,rfl,gx,b56.cl,b60,dj _ lx ly lo lt,?_⟩;walk_at "rd";refine⟨⟨_,o7.of glo⟩,en (ae (o7.of glo)) (by lia) (fun i v H=>∃ q,bZ (gP (aK ps d) (i:Int)) q/\q.Bd 4000/\su H v q) (fun i v H H' t h=>by obtain⟨q,h1,h2,h3⟩:=h;exact⟨q,h1,h2,h3.tup t⟩) (fun i W3 kk hi w3 hk=>?_) (fun l1 y1 W3 hl1 w3 h1 ly1 r1=>?_)⟩
    .have e1:=a8y hi;have hi2:i<(cL c1 d).length:=by rw[cc];lia
     have e2:=a8y hi2;obtain⟨lc,uc,e3,_,hlc,hPc⟩:=(gA.same w3).get i _ _ e1 e2;have hmem:=a9n hi2;generalize (cL c1 d)[i]=cs at *;have e4:aW (j0 xb*2^KK) (j0 yb*2^KK) cs=gP (aK ps d) (i:Int):=by unfold gP;rw[<- lt1 d hd,b1o,a9h,e2];rfl
     obtain⟨z1,z2,z3⟩:=cOk d hd cs (a9k.mpr (.inl hmem));rw[e1,e3];walk_at "rd";dsimp only[q9];refine⟨x,lc,2^KK,xb,yb,cL c1 d,cL c2 d,uc,cs,rfl,⟨dx,lx,ly,lo,lt,yo,yt,w3 _ _ gx,w3 _ _ glx,w3 _ _ gly,w3 _ _ glo,gA.same w3,w3 _ _ glt,gB.same w3⟩,hlc,hPc,z1,by lia,R0,zR.mono (by decide),G.bx,G.bY,G.lx,G.ly,fun v x0 y0 x1 y1 W4 w4 hbx hv=>?_⟩;obtain⟨b1,b2⟩:=boxOk cs _ (a9k.mpr (.inl hmem)) e4 _ _ _ _ hbx;exact hk _ _ w4 ⟨_,b1,b2,hv⟩
    replace sG:=sG.trans w3;replace gx:=w3 _ _ gx;replace glx:=w3 _ _ glx;replace gly:=w3 _ _ gly;replace glo:=w3 _ _ glo;replace glt:=w3 _ _ glt;replace gA:=gA.same w3;replace gB:=gB.same w3;replace hf:=w3 _ _ hf;replace hF:=hF.same w3;clear w3 hl1;walk_at "rd";refine⟨x,C_Ground,dx,_,_,rfl,gx,b56.cl,b61,cE _ lx ly lo lt,?_⟩;walk_at "rd";refine⟨⟨_,o7.of glt⟩,en (ae (o7.of glt)) (by lia) (fun i v H=>∃ q,bZ (gP (aK qs d) (i:Int)) q/\q.Bd 4000/\su H v q) (fun i v H H' t h=>by obtain⟨q,h1,h2,h3⟩:=h;exact⟨q,h1,h2,h3.tup t⟩) (fun i W4 kk hi w4 hk=>?_) (fun l2 y2 W4 hl2 w4 h2 ly2 r2=>?_)⟩
    .have e1:=a8y hi;have hi2:i<(cL c2 d).length:=by rw[cc];lia
     have e2:=a8y hi2;obtain⟨lc,uc,e3,_,hlc,hPc⟩:=(gB.same w4).get i _ _ e1 e2;have hmem:=a9n hi2;generalize (cL c2 d)[i]=cs at *;have e4:aW (j0 xb*2^KK) (j0 yb*2^KK) cs=gP (aK qs d) (i:Int):=by unfold gP;rw[<- lt2 d hd,b1o,a9h,e2];rfl
     obtain⟨z1,z2,z3⟩:=cOk d hd cs (a9k.mpr (.inr hmem));rw[e1,e3];walk_at "rd";dsimp only[q9];refine⟨x,lc,2^KK,xb,yb,cL c1 d,cL c2 d,uc,cs,rfl,⟨dx,lx,ly,lo,lt,yo,yt,w4 _ _ gx,w4 _ _ glx,w4 _ _ gly,w4 _ _ glo,gA.same w4,w4 _ _ glt,gB.same w4⟩,hlc,hPc,z1,by lia,R0,zR.mono (by decide),G.bx,G.bY,G.lx,G.ly,fun v x0 y0 x1 y1 W5 w5 hbx hv=>?_⟩;obtain⟨b1,b2⟩:=boxOk cs _ (a9k.mpr (.inr hmem)) e4 _ _ _ _ hbx;exact hk _ _ w5 ⟨_,b1,b2,hv⟩
    replace sG:=sG.trans w4;replace hf:=w4 _ _ hf;replace hF:=hF.same w4;replace h1:=w4 _ _ h1;replace r1:∀ (i:Nat) v,y1[i]?=some v->∃ q,bZ (gP (aK ps d) (i:Int)) q/\q.Bd 4000/\su W4 v q:=fun i v e=>by obtain⟨q,q1,q2,q3⟩:=r1 i v e;exact⟨q,q1,q2,q3.same w4⟩
    clear w4 hl2 gx glx gly glo glt gA gB;have i64:((2^d:Nat):Int)=(2:Int)^d:=by simp
    walk_at "rd";refine⟨⟨_,o7.of hf⟩,mV (eN (o7.of hf) hF) (by lia) (fun i v H=>∀ p,fl[i]?=some p->∃ (t:Addr) (w:V) (q1 q2:nT),v=.ref t/\H t=some (.tup [.int p.1,.int p.2,w])/\bZ (gP (aK ps d) p.1) q1/\bZ (gP (aK qs d) p.2) q2/\su H w (cmB q1 q2)) (fun i v H H' t h p e=>by obtain⟨t1,w,b1,b2,h1,h2,h3,h4,h5⟩:=h p e;exact⟨t1,w,b1,b2,h1,t _ _ h2,h3,h4,h5.tup t⟩) (fun i W5 kk hi w5 hk=>?_) (fun l3 y3 W5 hl3 w5 h3 ly3 r3=>?_)⟩
    .have e1:=a8y hi;obtain⟨z1,z2,z3,z4⟩:=fin _ (a9n hi);rw[e1] at hk ⊢;simp only[b8e] at hk ⊢;generalize fl[i]=p at *;have u1:p.1.toNat<y1.length:=by rw[<- i64] at z2;lia
     have u2:p.2.toNat<y2.length:=by rw[<- i64] at z4;lia
     have f1:=a8y u1;have f2:=a8y u2;obtain⟨b1,c1',c2',c3'⟩:=r1 _ _ f1;obtain⟨b2,d1',d2',d3'⟩:=r2 _ _ f2;rw[show ((p.1.toNat:Nat):Int)=p.1 by lia] at c1';rw[show ((p.2.toNat:Nat):Int)=p.2 by lia] at d1';walk_at "rd";refine⟨l1,y1,_,_,rfl,rfl,o7.of (w5 _ _ h1),z7 (j:=p.1.toNat) (by lia) f1,?_⟩;walk_at "rd";refine⟨l2,y2,_,_,rfl,rfl,o7.of (w5 _ _ h2),z7 (j:=p.2.toNat) (by lia) f2,?_⟩;walk_at "rd";dsimp only[q9];refine⟨_,_,b1,b2,rfl,c3'.same w5,d3'.same w5,c2',d2',fun v W6 w6 hv=>?_⟩;walk_at "rd";intro t9 ht9;refine hk _ _ (w6.trans (b9.new ht9)) (fun p' e=>?_);cases e;exact⟨t9,v,b1,b2,rfl,b7,c1',d1',hv.same (b9.new ht9)⟩
    dsimp only[q9];refine⟨by show 2<=sizeLine;decide,fun t9 ht9=>?_⟩;have s9:=b9.new (o:=.tup [.int (d:Int),.ref l3]) ht9;refine k d t9 l3 y3 fl tt _ hd hS gN (sG.trans (w5.trans s9)) b7 (sG.free hl3) (s9 _ _ h3) ⟨by lia,fun i v p e1 e2=>?_⟩ hTo hFw;obtain⟨t1,w,b1,b2,r4,r5,r6,r7,r8⟩:=r3 i v e1 p e2;exact⟨t1,w,b1,b2,r4,s9 _ _ r5,r6,r7,r8.same s9⟩
  | false=>
    have hS:¬ nl ps qs nu d:=fun h=>by have:=hz.mpr h;cases this
    refine C7 rfl ?_;walk_at "rd";refine qq (fun hb6=>?_) (fun hb6=>?_)
    .have d6:d=6:=by have:=of_decide_eq_true hb6;simp at this;lia
     subst d6;refine⟨(by show 1<=sizeLine;decide),?_⟩;refine kn _ sG fun e he=>?_;by_cases z:e=6
     .subst z;exact hS
     .exact gN e (by lia)
    have d5:d<6:=by
     have:=of_decide_eq_false hb6;have:¬ d=6:=fun z=>this (by rw[z];rfl);lia
    have L1:=lv1 d hd;have L2':=lv2 d hd;have h64:=p64 d hd;walk_at "rd";refine⟨x,dx,_,rfl,gx,mL _ lx ly lo lt,?_⟩;dsimp only[q9];refine⟨x,dx,lx,ly,lo,lt,2^KK,yo,yt,cL c1 d,cL c2 d,rfl,gx,glo,gA,glt,gB,by rw[cc];lia,fun c hc=>by rw[L1.len c hc];lia,by rw[cc];lia,fun c hc=>by rw[L2'.len c hc];lia,fun lo' lt' yo' yt' W2 w2 fo ft hlo' hA' hlt' hB'=>?_⟩;have gx1:=w2 _ _ gx;have iW:il W2 (upd W2 x (.ins C_Ground dx (ee (2^KK) lx ly lo' lt'))):=il.upd gx1;have sW2:b9 H (upd W2 x (.ins C_Ground dx (ee (2^KK) lx ly lo' lt'))):=ak hx (sG.trans w2);have gx2:(upd W2 x (.ins C_Ground dx (ee (2^KK) lx ly lo' lt'))) x=some (.ins C_Ground dx (ee (2^KK) lx ly lo' lt')):=b7;generalize upd W2 x (.ins C_Ground dx (ee (2^KK) lx ly lo' lt'))=W3 at *;walk_at "rd";refine⟨7 - (d+1),by lia,d+1,lo',lt',yo',yt',rfl,by lia,by rw[b8u];rfl,sW2,gx2,iW.1 _ _ (w2 _ _ glx),iW.1 _ _ (w2 _ _ gly),iW.1 _ _ hlo',hA'.ins iW,iW.1 _ _ hlt',hB'.ins iW,fun e he=>?_⟩;by_cases z:e=d
    .subst z;exact hS
    .exact gN e (by lia)
 .rintro σ W Q1 Q2 hq ⟨v1,e1,v2,e2,h⟩;have h':gv K C_Ground [v1,v2] W (fun x H1=>∃ c,x=V.bl c/\Q1 (!c) H1) E0:=h;have h2:gv K C_Ground [v1,v2] W (fun x H1=>∃ c,x=V.bl c/\Q2 (!c) H1) E0:=pk h' fun v H1 hh=>by obtain⟨c,ec,hc⟩:=hh;exact⟨c,ec,hq _ _ hc⟩
  exact⟨v1,e1,v2,e2,h2⟩
theorem pP(F:j4 K mg "_law_refused" dX ["_law_one","_law_other","_law_nearness_here"])(B:nt mg){b37 b38 C_NoShare:Addr}(X:Exc K mg b37 b38 C_NoShare)(b88:i7 P w K mg base (jE P w) 8 "near" ["one","other","nearness"] (sK K b38)):i7 P w K mg base z8 9 "_law_refused" ["_law_one","_law_other","_law_nearness_here"] og:=by
 refine o5 F iV (fun vs H Q E h=>?_) (fun f cdv A outer s H vs Q E hr h=>?_)
 .obtain⟨a,b,nv,nu,us,ws,ps,qs,D,m,rfl,_⟩:=h;rfl
 obtain⟨a,b,nv,nu,us,ws,ps,qs,D,m,rfl,ha,hP,hb,hR,hnv,bnu,p1,p12,q1,q12,hD,zD,hm,hov,hLn,hF,k⟩:=h;have hu:=hr.units;refine⟨_,(b8 (yE (n:=3) X.SeatError iV.nd (fun xe pn Ex hx=>(e9 (aC (i6 b88 hr hx (a8 (f8 0) (a8 (f8 1) (a8 (f8 2) a9))))))) (fun x=>(e9 (j5 (lj (o9 (oO K) (by rfl) B.isinstance b1a (a8 (f8 3) (a8 (fT (v:=.ref b38) rfl X.TooMany rfl) a9))) (jl (o9 (oO K) (by rfl) B.isinstance b1a (a8 (f8 3) (a8 (dG (v:=.ty "ValueError") rfl B.ValueError PyProof.Rows.Boot.«ValueError» rfl) a9))))))))) (e9 (j5 iw))),?_⟩;refine⟨fun cls d H'=>cls=.ref b38/\d=none/\b9 H H',⟨_,rfl,?_⟩,?_⟩
 .walk_at "rd";dsimp only[q9];exact⟨a,b,nv,nu,us,ws,ps,qs,D,m,rfl,ha,hP,hb,hR,hnv,bnu,p1,p12,q1,q12,hD,zD,hm,hov,hLn,fun d t l ys fl tt H' hd hs hn s h1 h2 h3 h4 h5 h6=>absurd h6 (hF d hd hs hn),fun H' s _=>⟨rfl,rfl,s⟩,fun d e fl tt H' _ _ _ _ s _ _=>⟨rfl,rfl,s⟩⟩
 .rintro cls x H' σ' ⟨rfl,_,hs⟩ hx hl;obtain⟨y0,y1,y2,y3,rfl⟩:=dQ hl;refine⟨X.mTooMany,?_⟩;have sx:b9 H' (upd H' x (sk x (.ref b38))):=b9.new hx;have hx1:(upd H' x (sk x (.ref b38))) x=some (sk x (.ref b38)):=b7;generalize upd H' x (sk x (.ref b38))=H1 at *;refine⟨_,rfl,x,b38,_,_,_,rfl,hx1,rfl,X.nTooMany,C4 K _,_,rfl,xm ?_⟩;refine⟨_,rfl,x,b38,_,_,_,rfl,hx1,rfl,X.nTooMany,X.vTooMany,?_⟩;exact k _ (hs.trans sx)
theorem td(F:j4 K mg "_law_whole" gK ["_law_found"])(B:nt mg):i7 P w K mg base z8 1 "_law_whole" ["_law_found"] uR:=by
 refine o5 F sO (fun vs H Q E h=>?_) (fun f cdv A outer s H vs Q E hr h=>?_)
 .obtain⟨i,rfl,_⟩:=h;rfl
 obtain⟨i,rfl,k⟩:=h;have hu:=hr.units;refine⟨_,(e9 (j5 (lj (o9 (dr K) (by rfl) B.isinstance b1a (a8 (f8 0) (a8 (dG (v:=.ty "int") rfl B.int b9k rfl) a9))) (jl (S0 (o9 (dr K) (by rfl) B.isinstance b1a (a8 (f8 0) (a8 (dG (v:=.ty "bool") rfl B.bool PyProof.Rows.boot_bool rfl) a9)))))))),?_⟩;refine⟨_,rfl,_,"int",_,_,rfl,fD.int i,a4v K,_,rfl,xm ?_⟩;exact⟨_,rfl,_,"bool",_,_,rfl,fD.int i,a4w K,_,rfl,k⟩
theorem a4i(F:j4 K mg "law" eJ ["_law_script"])(B:nt mg){b38:Addr}(b40:i7 P w K mg base z8 1 "_law_cell_at" ["_law_script","_law_k"] (sM K))(b41:i7 P w K mg base z8 2 "_law_share" ["_law_top","_law_bottom"] eG)(b42:i7 P w K mg base z8 1 "_law_stream" ["_law_cell","_law_place"] lL)(b89:i7 P w K mg base z8 3 "_law_drawn_two" ["_law_script","_law_most_here"] (yn K))(b51:i7 P w K mg base z8 4 "_law_width" ["_law_one","_law_other","_law_level_here"] (dR K))(b90:i7 P w K mg base z8 5 "_law_level" ["_law_one","_law_other","_law_nearness_here"] (uX K))(b91:i7 P w K mg base z8 5 "_law_nearness" ["_law_one","_law_other","_law_s"] (uW K))(b92:i7 P w K mg base z8 8 "_law_places" ["_law_found","_law_one","_law_other","_law_level_here"] (qK K))(b88:i7 P w K mg base (jE P w) 8 "near" ["one","other","nearness"] (sK K b38))(b93:i7 P w K mg base z8 9 "_law_refused" ["_law_one","_law_other","_law_nearness_here"] og)(b94:i7 P w K mg base z8 1 "_law_whole" ["_law_found"] uR):i7 P w K mg base z8 10 "law" ["_law_script"] (ym K):=by
 refine o5 F ce (fun vs H Q E h=>?_) (fun f cdv A outer s H vs Q E hr h=>?_)
 .obtain⟨a,ns,rfl,_⟩:=h;rfl
 obtain⟨a,ns,rfl,hS,hlen,k⟩:=h;have hu:=hr.units;refine rX (b5b 10 (x8 eJ)) (b8 (i5 (i:=9) ce.nd rfl (Or.inl rfl) (az (z6 K) rfl B.list b0u (a8 (g6 (i4 K) (f8 8) b6 (fun _ _=>rfl)) a9))) (b8 (aw (fj (br (i6 b92 hr j7 (a8 (f8 9) (a8 (f8 1) (a8 (f8 2) (a8 (f8 7) a9))))))) (e9 (j5 iw)) w8) (b8 (aC (show ao _ _ (qp K _ _ _ _) from (bQ b0c b0p b0q aO (g6 (i4 K) (f8 8) b6 (fun _ _=>rfl)) (a8 (n4 (a8 b6 (a8 b6 a9))) a9)))) (e9 (j5 (a3t (cC kA (f8 7) b6 (v8 _)) (jl (cC (lm K hu) (i6 b88 hr sU (a8 (az (z6 K) rfl B.list b0u (a8 (f8 1) a9)) (a8 (az (z6 K) rfl B.list b0u (a8 (f8 2) a9)) (a8 (f8 4) a9)))) (n4 (a8 (f8 7) (a8 (f8 9) a9))) (v8 _))))))))) (fun R4 hc4 e4=>?_);refine rX (b5b 8 (x8 eJ)) (b8 (i5 (i:=8) ce.nd rfl (Or.inl rfl) (i6 b88 hr sU (a8 (az (z6 K) rfl B.list b0u (a8 (f8 1) a9)) (a8 (az (z6 K) rfl B.list b0u (a8 (f8 2) a9)) (a8 (f8 4) a9))))) (b8 (aw (gr (fP (fj (br (o9 (dr K) (by rfl) B.isinstance b1a (a8 (f8 8) (a8 (dG (v:=.ty "tuple") rfl B.tuple b3z rfl) a9))))) (fP (p9 zu (o9 (bz K) (by rfl) B.len PySem.boot_len (a8 (f8 8) a9)) b6 (v8 _)) (fP (fj (br (i6 b94 hr j7 (a8 (g6 (i4 K) (f8 8) b6 (fun _ _=>rfl)) a9)))) (jk (p9 zu (g6 (i4 K) (f8 8) b6 (fun _ _=>rfl)) (f8 7) (v8 _))))))) (e9 (j5 iw)) w8) hc4)) (fun R3 hc3 e3=>?_);refine rX (b5b 6 (x8 eJ)) (b8 (i5 (i:=7) ce.nd rfl (Or.inl rfl) (i6 b90 hr j7 (a8 (f8 1) (a8 (f8 2) (a8 (f8 4) a9))))) (b8 (aw (gr (fP (p9 fU (f8 7) b6 (v8 _)) (jk (gr (pG (br (f8 5)) (mn (p9 fU (f8 7) b6 (v8 _)))))))) (e9 (j5 (i6 b93 hr j7 (a8 (az (z6 K) rfl B.list b0u (a8 (f8 1) a9)) (a8 (az (z6 K) rfl B.list b0u (a8 (f8 2) a9)) (a8 (f8 4) a9)))))) w8) hc3)) (fun R2 hc2 e2=>?_);refine rX (b5b 3 (x8 eJ)) (b8 (i5 (i:=4) ce.nd rfl (Or.inl rfl) (i6 b91 hr j7 (a8 (f8 1) (a8 (f8 2) (a8 (f8 3) a9))))) (b8 (i5 (i:=5) ce.nd rfl (Or.inl rfl) (lj (cC fU (d8 aI (g6 (j3 K) (f8 3) b6 (fun _ _=>rfl)) b6) b6 (v8 _)) (jl (cC (pK K hu) (g6 (j3 K) (f8 1) b6 (fun _ _=>rfl)) (g6 (j3 K) (f8 1) (dF dw b6) (fun _ _=>rfl)) (v8 _))))) (b8 (aw (br (f8 5)) (b8 (i5 (i:=1) ce.nd rfl (Or.inl rfl) (u0 (a8 (g6 (j3 K) (f8 1) b6 (fun _ _=>rfl)) (a8 (g6 (j3 K) (f8 1) (dF dw b6) (fun _ _=>rfl)) (a8 (g6 (j3 K) (f8 1) b6 (fun _ _=>rfl)) a9))))) (b8 (i5 (i:=2) ce.nd rfl (Or.inl rfl) (az (z6 K) rfl B.list b0u (a8 (f8 1) a9))) (b8 (i5 (i:=6) ce.nd rfl (Or.inl rfl) (i6 b51 hr j7 (a8 (f8 1) (a8 (f8 2) (a8 b6 a9))))) (e9 (i5 (i:=4) ce.nd rfl (Or.inl rfl) (i6 b41 hr j7 (a8 (g6 (i4 K) (f8 6) b6 (fun _ _=>rfl)) (a8 (d8 k8 (g6 (i4 K) (f8 6) b6 (fun _ _=>rfl)) (g6 (j3 K) (u0 (a8 b6 (a8 b6 a9))) (d8 aI (g6 (j3 K) (f8 3) b6 (fun _ _=>rfl)) b6) (fun _ _=>rfl))) a9)))))))) w8) hc2))) (fun R1 hc1 e1=>?_);refine⟨_,(b8 (aX (i6 b89 hr j7 (a8 (f8 0) (a8 b6 a9))) (yR (n:=2) K rfl (g9 (g8 (i:=1) ce.nd rfl (Or.inl rfl)) (g9 (g8 (i:=2) ce.nd rfl (Or.inl rfl)) u5)))) (b8 (i5 (i:=3) ce.nd rfl (Or.inl rfl) (i6 b42 hr j7 (a8 (i6 b40 hr j7 (a8 (f8 0) (a8 b6 a9))) (a8 b6 a9)))) (b8 (aw (p9 fU (d8 aI (g6 (j3 K) (f8 3) b6 (fun _ _=>rfl)) b6) b6 (v8 _)) (b8 (i5 (i:=1) ce.nd rfl (Or.inl rfl) (u0 (a8 (g6 (j3 K) (f8 1) b6 (fun _ _=>rfl)) (a8 (g6 (j3 K) (f8 1) (dF dw b6) (fun _ _=>rfl)) a9)))) (e9 (i5 (i:=2) ce.nd rfl (Or.inl rfl) (cq (fJ K) (u0 (a8 (g6 (j3 K) (f8 2) b6 (fun _ _=>rfl)) (a8 (g6 (j3 K) (f8 2) (dF dw b6) (fun _ _=>rfl)) a9))) cY (bF (d8 z9 b6 (az xC rfl B.int b9k (a8 (cC kz (d8 aI (g6 (j3 K) (f8 3) b6 (fun _ _=>rfl)) b6) b6 (v8 _)) a9)))))))) w8) hc1))),?_⟩;walk_at "rd";dsimp only[q9];refine⟨a,ns,4,rfl,hS,by lia,by lia,fun lb l0 l1 w0 w1 p0 p1 BB H2 s2 hlb hb c0 c1 B1 B3=>?_⟩;refine⟨lb,_,rfl,o7.of hb,rfl,_,_,rfl,_,_,rfl,rfl,?_⟩;replace hS:=o7.same' hS s2;clear hb hlb s2;walk_at "rd";dsimp only[q9];refine⟨a,ns,1,rfl,hS,by lia,fun zc=>?_⟩;walk_at "rd";dsimp only[q9];refine⟨zc,4,rfl,fun ls xs H3 s3 hl hxl hx0=>?_⟩;replace c0:=c0.same s3;replace c1:=c1.same s3;have l01:=c0.l1;have l02:=c0.l2;have l11:=c1.l1;have l12:=c1.l2;have q0:=c0.lst;have q1:=c1.lst;have P0:=c0.pts;have P1:=c1.pts;have ov0:=c0.ov;have ov1:=c1.ov;clear c0 c1 s3 hS;have gx:∀ i:Nat,0<=xs.getD i 0:=fun i=>by
  rw[b0h];cases e:xs[i]? with
  | none=>exact b3u _
  | some z=>exact hx0 z (a9f e)
 have u0l:=P0.len;have u1l:=P1.len;obtain⟨x0v,x1v,A0,A1,ea0,ea1,ga0,ga1,ma0,ma1⟩:=mr P0 l01;obtain⟨y0v,y1v,C0,C1,eb0,eb1,gb0,gb1,mb0,mb1⟩:=mr P1 l11;have go:∀ (la lb:Addr) (us ws:List V) (ps qs:List Pt) H',b9 H3 H'->H' la=some (.lst us)->aa H' us ps->H' lb=some (.lst ws)->aa H' ws qs->1<=ps.length->ps.length<=4->1<=qs.length->qs.length<=4->(∀ p∈ps++qs,ki BB 110 p)->Shp ps qs (xs.getD (b0l 0) 0) (xs.getD (b0l 5) 0)->R1 { nx:=fun _ H'=>Q V.non H',rt:=Q } [some (.ref a),some (.ref la),some (.ref lb),some (.ref ls),none,none,none,none,none,none] H':=by
  intro la lb us ws ps qs H4 s4 hla hP hlb hR p1' p4 q1' q4 hov hSh;replace hl:=s4 _ _ hl;clear s4 ga0 ga1 gb0 gb1;have zB:Sz 60 BB:=kq (b:=3) (by lia) (by decide);have u4l:=hP.len;obtain⟨xa,xz,A,B9,fa0,fa1,ha0,ha1,na0,na1⟩:=mr hP p1';have go2:∀ (tab:Bool) (la lb:Addr) (us ws:List V) (ps qs:List Pt) (nv:V) (nu:Rat) (y6:Option V) H',H' la=some (.lst us)->aa H' us ps->H' lb=some (.lst ws)->aa H' ws qs->bh H' nv nu->Bd 1000 nu->1<=ps.length->ps.length<=4->1<=qs.length->qs.length<=4->(∀ p∈ps++qs,ki BB 110 p)->a2b ps qs nu tab->R2 { nx:=fun _ H'=>Q V.non H',rt:=Q } [some (.ref a),some (.ref la),some (.ref lb),some (.ref ls),some nv,some (.bl tab),y6,none,none,none] H':=by
   clear hla hP hlb hR hov hSh ha0 ha1 fa0 fa1;intro tab la lb us ws ps qs nv nu y6 H5 hla hP hlb hR hnv bnu p1 p4 q1 q4 hov hC;subst e2;walk_at "rd";dsimp only[q9];refine⟨la,lb,nv,nu,us,ws,ps,qs,BB,110,rfl,hla,hP,hlb,hR,hnv,bnu,p1,by lia,q1,by lia,by lia,zB,by decide,hov,by lia,fun d H6 s6 hd7 hN hS=>?_⟩;replace hla:=s6 _ _ hla;replace hlb:=s6 _ _ hlb;replace hP:=hP.same s6;replace hR:=hR.same s6;replace hnv:=hnv.same s6;clear s6;have go3:d<=6->(tab=true->d<=5)->R3 { nx:=fun _ H'=>Q V.non H',rt:=Q } [some (.ref a),some (.ref la),some (.ref lb),some (.ref ls),some nv,some (.bl tab),y6,some (.int (d:Int)),none,none] H6:=by
    intro hd hd5;have hSd:=hS (by lia);have hla6:=hla;have hlb6:=hlb;subst e3;walk_at "rd";intro k1 hk1;have r1:=b9.new (o:=.lst us) hk1;have g1:=b7 (H:=H6) (a:=k1) (o:=.lst us);generalize upd H6 k1 (.lst us)=H7 at *;have hlb7:=r1 _ _ hlb;walk_at "rd";intro k2 hk2;have r2:=b9.new (o:=.lst ws) hk2;have g2:=b7 (H:=H7) (a:=k2) (o:=.lst ws);generalize upd H7 k2 (.lst ws)=H8 at *;have r12:=r1.trans r2;walk_at "rd";dsimp only[q9];refine⟨k1,k2,nv,nu,us,ws,ps,qs,BB,110,rfl,r2 _ _ g1,hP.same r12,g2,hR.same r12,hnv.same r12,bnu,p1,by lia,q1,by lia,by lia,zB.mono (by decide),by decide,hov,by lia,fun d' t l ys fl tt H9 hd' hS' hN' s9 ht hl0 hl9 hNr hTo hFw=>?_,fun H9 s9 hno=>absurd hSd (hno d hd),fun d' e fl tt H9 hd' hS' hN' he s9 hTo hbig=>?_⟩
    rotate_left
    .have ed:d'=d:=by
      rcases b3n d' d with h | h | h
      .exact absurd hS' (hN d' h)
      .exact h
      .exact absurd hSd (hN' d h)
     subst ed;exact absurd (hC.few d' hd hd5 hN e fl tt he hTo) (by lia)
    have ed:d'=d:=by
     rcases b3n d' d with h | h | h
     .exact absurd hS' (hN d' h)
     .exact h
     .exact absurd hSd (hN' d h)
    subst ed;have s69:=r12.trans s9;replace hla:=s69 _ _ hla;replace hlb:=s69 _ _ hlb;replace hP:=hP.same s69;replace hR:=hR.same s69;replace hnv:=hnv.same s69;have nal:la≠l:=fun z=>by rw[<- z,r12 _ _ hla6] at hl0;cases hl0
    have nbl:lb≠l:=fun z=>by rw[<- z,r12 _ _ hlb6] at hl0;cases hl0
    clear r1 r2 r12 g1 g2 hk1 hk2 hlb7 s9 hla6 hlb6;have hyl:=hNr.len;have hf256:=tW hFw (a9j _) hTo;walk_at "rd";dsimp only;refine sy (by rw[decide_eq_true rfl];rfl) ?_;subst e4;walk_at "rd";intro lk hlk;have r3:=b9.new (o:=.lst ys) hlk;have g3:=b7 (H:=H9) (a:=lk) (o:=.lst ys);have nkl:lk≠l:=fun z=>by rw[z,hl9] at hlk;cases hlk
    generalize upd H9 lk (.lst ys)=H10 at *;walk_at "rd";dsimp only[q9];refine⟨lk,la,lb,ys,us,ws,fl,tt,ps,qs,BB,110,d',rfl,g3,hNr.same r3,hTo,hFw,r3 _ _ hla,hP.same r3,r3 _ _ hlb,hR.same r3,p1,by lia,q1,by lia,by lia,zB,by decide,hov,hd,fun H11 s11=>?_⟩;have r4:=r3.trans s11;replace hla:=r4 _ _ hla;replace hlb:=r4 _ _ hlb;replace hP:=hP.same r4;replace hR:=hR.same r4;replace hnv:=hnv.same r4;replace hl9:=r4 _ _ hl9;replace ht:=r4 _ _ ht;replace hNr:=hNr.same r4;replace g3:=s11 _ _ g3;clear r3 r4 s11 hlk;walk_at "rd";refine⟨.inl ⟨rfl,_,o7.of hl9⟩,?_⟩;walk_at "rd";intro tz htz;have r5:=b9.new (o:=.tup [.int 0,.int 0]) htz;generalize upd H11 tz (.tup [.int 0,.int 0])=H12 at *;refine⟨l,ys,.ref tz,rfl,rfl,r5 _ _ hl9,j8 (by lia),?_⟩;have tg:bR H12 (upd H12 l (.lst (ys++[.ref tz]))):=bR.lst (r5 _ _ hl9);have hla':(upd H12 l (.lst (ys++[.ref tz]))) la=some (.lst us):=by rw[i9 nal];exact r5 _ _ hla
    have hlb':(upd H12 l (.lst (ys++[.ref tz]))) lb=some (.lst ws):=by rw[i9 nbl];exact r5 _ _ hlb
    have hk':(upd H12 l (.lst (ys++[.ref tz]))) lk=some (.lst ys):=by rw[i9 nkl];exact r5 _ _ g3
    replace hP:=(hP.same r5).tup tg;replace hR:=(hR.same r5).tup tg;replace hnv:=(hnv.same r5).tup tg;replace hNr:=(hNr.same r5).tup tg;generalize upd H12 l (.lst (ys++[.ref tz]))=H13 at *;clear hla hlb r5 tg hl9 ht g3;walk_at "rd";refine qq (fun z=>?_) (fun z=>?_)
    .exact k _
    walk_at "rd";intro k1 hk1;have r1:=b9.new (o:=.lst us) hk1;have g1:=b7 (H:=H13) (a:=k1) (o:=.lst us);generalize upd H13 k1 (.lst us)=H14 at *;have hlb7:=r1 _ _ hlb';walk_at "rd";intro k2 hk2;have r2:=b9.new (o:=.lst ws) hk2;have g2:=b7 (H:=H14) (a:=k2) (o:=.lst ws);generalize upd H14 k2 (.lst ws)=H15 at *;have r12:=r1.trans r2;walk_at "rd";dsimp only[q9];refine⟨k1,k2,nv,nu,us,ws,ps,qs,BB,110,rfl,r2 _ _ g1,hP.same r12,g2,hR.same r12,hnv.same r12,bnu,p1,by lia,q1,by lia,by lia,zB.mono (by decide),by decide,hov,by lia,fun d2 t2 l2 ys2 fl2 tt2 H16 hd2 hS2 hN2 s16 ht2 hl20 hl2 hNr2 hTo2 hFw2=>?_,fun H16 s16 hno=>absurd hSd (hno d' hd),fun d2 e fl2 tt2 H16 hd2 hS2 hN2 he s16 hTo2 hbig=>?_⟩
    rotate_left
    .have ed:d2=d':=by
      rcases b3n d2 d' with h | h | h
      .exact absurd hS2 (hN d2 h)
      .exact h
      .exact absurd hSd (hN2 d' h)
     subst ed;exact absurd (hC.few d2 hd hd5 hN e fl2 tt2 he hTo2) (by lia)
    have ed:d2=d':=by
     rcases b3n d2 d' with h | h | h
     .exact absurd hS2 (hN d2 h)
     .exact h
     .exact absurd hSd (hN2 d' h)
    subst ed;have ef:=hTo2.same hTo;subst ef;have sB:=r12.trans s16;walk_at "rd";intro tc htc;have s17:=b9.new (o:=.tup [.int (d2:Int),.ref lk]) htc;obtain⟨ds,n1,n2⟩:=zP hNr;refine⟨_,_,zO (s17 _ _ ht2) (a1d (s17 _ _ hl2) (n2 (hNr2.same s17))),zO b7 (a1d (s17 _ _ (sB _ _ hk')) (n2 ((hNr.same sB).same s17))),a1c n1,a1c n1,fun b hb=>?_⟩;rw[hb.mpr rfl];exact k _
   walk_at "rd";refine a4c (x:=decide (d=7\/(tab=true/\d=6))) (N:=fun q=>a2n _ _ _ _ q) (fun hc=>decide_eq_true (.inl (by have:=V.int.inj (of_decide_eq_true hc);lia))) (fun F' f' hc=>?_) ?_
   .have h7:d≠7:=fun e=>of_decide_eq_false hc (by rw[e];rfl);walk_at "rd";cases tab with
    | false=>
      refine sy rfl ?_
      rwa [decide_eq_false (by simpa using h7)] at f'
    | true=>
      refine C7 rfl ?_;walk_at "rd"
      rwa [show decide ((d:Nat)=7\/(true=true/\d=6))=decide (V.int (d:Int)=V.int 6) from decide_eq_decide.mpr ⟨fun h=>by rcases h with h | h;exact absurd h h7;rw[h.2];rfl,fun h=>.inr ⟨rfl,by have:=V.int.inj h;lia⟩⟩] at f'
   .by_cases hRf:d=7\/(tab=true/\d=6)
    .have hbad:∀ d',d'<=6->nl ps qs nu d'->(∀ e,e<d'->¬ nl ps qs nu e)->¬ a0h ps qs d':=fun d' h1 h2 _ hf=>by
      rcases hRf with h7 | ⟨rfl,h6⟩
      .exact hN d' (by lia) h2
      .by_cases z:d'=6
       .subst z;exact hC.many rfl hf
       .exact hN d' (by lia) h2
     refine C7 (decide_eq_true hRf) ?_;walk_at "rd";intro k1 hk1;have r1:=b9.new (o:=.lst us) hk1;have g1:=b7 (H:=H6) (a:=k1) (o:=.lst us);generalize upd H6 k1 (.lst us)=H7 at *;have hlb7:=r1 _ _ hlb;walk_at "rd";intro k2 hk2;have r2:=b9.new (o:=.lst ws) hk2;have g2:=b7 (H:=H7) (a:=k2) (o:=.lst ws);generalize upd H7 k2 (.lst ws)=H8 at *;have r12:=r1.trans r2;walk_at "rd";dsimp only[q9];exact⟨k1,k2,nv,nu,us,ws,ps,qs,BB,110,rfl,r2 _ _ g1,hP.same r12,g2,hR.same r12,hnv.same r12,bnu,p1,by lia,q1,by lia,by lia,zB.mono (by decide),by decide,hov,by lia,hbad,fun H9 s9=>k _⟩
    .refine sy (decide_eq_false hRf) ?_;exact go3 (by have h7:d≠7:=fun e=>hRf (.inl e);lia) (fun h=>by
      have h7:d≠7:=fun e=>hRf (.inl e);have h6:d≠6:=fun e=>hRf (.inr ⟨h,e⟩);lia)
  subst e1;walk_at "rd";dsimp only[q9];refine⟨la,lb,ls,us,ws,xs,ps,qs,BB,110,rfl,hla,hP,hlb,hR,hl,hxl,hx0,p1',by lia,q1',by lia,by lia,zB,by decide,hov,fun nv nu H5 s5 hnv bnu hNn=>?_⟩;replace hla:=s5 _ _ hla;replace hlb:=s5 _ _ hlb;replace hP:=hP.same s5;replace hR:=hR.same s5;replace hl:=s5 _ _ hl;replace ha0:=ha0.same s5;replace ha1:=ha1.same s5;clear s5;walk_at "rd";refine qq (fun z=>?_) (fun z=>?_)
  rotate_left
  .walk_at "rd";refine sy rfl ?_;exact go2 false la lb us ws ps qs nv nu none H5 hla hP hlb hR hnv bnu p1' p4 q1' q4 hov (a2b.of hSh hNn)
  walk_at "rd";refine⟨la,us,_,_,rfl,rfl,o7.of hla,z7 (j:=0) rfl fa0,?_⟩;walk_at "rd";refine⟨la,us,_,_,rfl,rfl,o7.of hla,cQ us _ fa1 (by lia),?_⟩;walk_at "rd";refine⟨oH A,oH B9,ha0.dn,ha1.dn,rW _ 6,rW _ 6,fun bb hbb=>?_⟩;cases bb with
  | true=>
    walk_at "rd";refine sy rfl ?_;exact go2 false la lb us ws ps qs nv nu none H5 hla hP hlb hR hnv bnu p1' p4 q1' q4 hov (a2b.of hSh hNn)
  | false=>
    have hAB:A≠B9:=fun e=>by
     have:=hbb.mpr (by rw[e]);cases this
    obtain⟨W,hW,eW⟩:=G3 hAB;walk_at "rd";refine⟨la,us,_,_,rfl,rfl,o7.of hla,z7 (j:=0) rfl fa0,?_⟩;walk_at "rd";refine⟨la,us,_,_,rfl,rfl,o7.of hla,cQ us _ fa1 (by lia),?_⟩;walk_at "rd";refine⟨la,us,_,_,rfl,rfl,o7.of hla,z7 (j:=0) rfl fa0,?_⟩;walk_at "rd";intro lc hlc;have s6:=b9.new (o:=.lst [xa,xz,xa]) hlc;have f6:=b7 (H:=H5) (a:=lc) (o:=.lst [xa,xz,xa]);generalize upd H5 lc (.lst [xa,xz,xa])=H6 at *;have hl6:=s6 _ _ hl;walk_at "rd";intro le hle;have s7:=b9.new (o:=.lst [xa,xz,xa]) hle;have f7:=b7 (H:=H6) (a:=le) (o:=.lst [xa,xz,xa]);generalize upd H6 le (.lst [xa,xz,xa])=H7 at *;have s57:=s6.trans s7;have hF:aa H7 [xa,xz,xa] [A,B9,A]:=ptsT (ha0.same s57) (ha1.same s57) (ha0.same s57);have ovF:∀ p∈[A,B9,A]++[A,B9,A],ki BB 110 p:=fun p hp=>by
     simp only[b3d,b6o,a9g,a9w,or_false] at hp;have o1:=hov A (a9k.mpr (.inl na0));have o2:=hov B9 (a9k.mpr (.inl na1));rcases hp with rfl | rfl | rfl | rfl | rfl | rfl<;>assumption
    have hl7:=s7 _ _ hl6;replace f6:=s7 _ _ f6;walk_at "rd";dsimp only[q9];refine⟨lc,le,_,_,[A,B9,A],[A,B9,A],BB,110,0,rfl,f6,hF,f7,hF,by simp,by simp,by simp,by simp,by lia,zB,by decide,ovF,by lia,by lia,fun v w H8 s8 hv hw bw nw=>?_⟩;obtain⟨av,rfl,hav⟩:=hv;have hl8:=s8 _ _ hl7;have zn:=bw.num;have zd:=bw.den;walk_at "rd";intro lg hlg;have s9:=b9.new (o:=.lst [V.int 32,V.int 16]) hlg;have f9:=b7 (H:=H8) (a:=lg) (o:=.lst [V.int 32,V.int 16]);generalize upd H8 lg (.lst [V.int 32,V.int 16])=H9 at *;have hl9:=s9 _ _ hl8;replace hav:=s9 _ _ hav;obtain⟨v6,hv6,hm6⟩:=qk [V.int 32,V.int 16] (xs.getD (b0l 6) 0 % 2) (by lia) (by show _<(2:Int);lia);have hmo:∃ mo:Int,v6=V.int mo/\1<=mo/\mo<=32:=by
     simp only[a9g,a9w,or_false] at hm6;rcases hm6 with rfl | rfl
     .exact⟨32,rfl,by decide,by decide⟩
     .exact⟨16,rfl,by decide,by decide⟩
    obtain⟨mo,rfl,mo1,mo2⟩:=hmo;have zmo:Sz 6 mo:=kq (b:=32) (by lia) (by decide);have d0:(0:Int)<(w.den:Int):=by have:=w.den_pos;lia
    walk_at "rd";dsimp only[q9];refine⟨_,_,rfl,b1b d0 (by lia),(zd.mul zmo).mono (by decide),fun v2 H10 s10 hv2=>?_⟩;have sA:=s8.trans (s9.trans s10);rw[eW] at hF ovF;exact go2 true lc le _ _ _ _ v2 _ _ H10 (sA _ _ f6) (hF.same sA) (sA _ _ f7) (hF.same sA) hv2 (nc (b1b d0 (by lia)) (zn.mono (by decide)) ((zd.mul zmo).mono (by decide))) (by simp) (by simp) (by simp) (by simp) ovF (a2b.fold hW _)
 walk_at "rd";dsimp only;refine qq (fun z=>?_) (fun z=>?_)
 rotate_left
 .exact go l0 l1 w0 w1 p0 p1 H3 (L2.b9.refl _) q0 P0 q1 P1 l01 l02 l11 l12 (fun p hp=>(a9k.mp hp).elim (ov0 p) (ov1 p)) (fun e=>absurd (congrArg V.int e) (of_decide_eq_false z))
 walk_at "rd";refine⟨l0,w0,_,_,rfl,rfl,o7.of q0,z7 (j:=0) rfl ea0,?_⟩;walk_at "rd";refine⟨l0,w0,_,_,rfl,rfl,o7.of q0,cQ w0 _ ea1 (by lia),?_⟩;walk_at "rd";intro la hla;have s4:=b9.new (o:=.lst [x0v,x1v]) hla;have f4:=b7 (H:=H3) (a:=la) (o:=.lst [x0v,x1v]);generalize upd H3 la (.lst [x0v,x1v])=H4 at *;walk_at "rd";refine⟨l1,w1,_,_,rfl,rfl,o7.of (s4 _ _ q1),z7 (j:=0) rfl eb0,?_⟩;walk_at "rd";refine⟨l1,w1,_,_,rfl,rfl,o7.of (s4 _ _ q1),cQ w1 _ eb1 (by lia),?_⟩;walk_at "rd";intro lt hlt;have s5:=b9.new (o:=.lst [y0v,y1v]) hlt;have f5:=b7 (H:=H4) (a:=lt) (o:=.lst [y0v,y1v]);generalize upd H4 lt (.lst [y0v,y1v])=H5 at *;have hl5:=s5 _ _ (s4 _ _ hl);have e3:xs.getD (b0l 0) 0 % 3=1:=V.int.inj (of_decide_eq_true z);walk_at "rd";refine⟨lt,_,rfl,o7.of f5,fun lc hlc=>?_⟩;have s45:=s4.trans s5;by_cases h3:xs.getD (b0l 5) 0 % 4<3
 .have f6:(upd H5 lc (.lst (dN [y0v,y1v] none (some (1+if decide (xs.getD (b0l 5) 0 % 4<3)=true then 1 else 0))))) lc=some (.lst [y0v,y1v]):=by rw[b7,decide_eq_true h3];rfl
  have s6:=b9.new (o:=.lst (dN [y0v,y1v] none (some (1+if decide (xs.getD (b0l 5) 0 % 4<3)=true then 1 else 0)))) hlc;have s46:=s45.trans s6;exact go la lc _ _ [A0,A1] [C0,C1] _ s46 (s6 _ _ (s5 _ _ f4)) (a2y (ga0.same s46) (ga1.same s46)) f6 (a2y (gb0.same s46) (gb1.same s46)) (by simp) (by simp) (by simp) (by simp) (fun p hp=>by
   simp only[b3d,b6o,a9g,a9w,or_false] at hp;rcases hp with rfl | rfl | rfl | rfl
   .exact ov0 _ ma0
   .exact ov0 _ ma1
   .exact ov1 _ mb0
   .exact ov1 _ mb1) (fun _=>⟨⟨A0,A1,rfl⟩,.inr ⟨C0,C1,rfl,by lia⟩⟩)
 .have f6:(upd H5 lc (.lst (dN [y0v,y1v] none (some (1+if decide (xs.getD (b0l 5) 0 % 4<3)=true then 1 else 0))))) lc=some (.lst [y0v]):=by rw[b7,decide_eq_false h3];rfl
  have s6:=b9.new (o:=.lst (dN [y0v,y1v] none (some (1+if decide (xs.getD (b0l 5) 0 % 4<3)=true then 1 else 0)))) hlc;have s46:=s45.trans s6;exact go la lc _ _ [A0,A1] [C0] _ s46 (s6 _ _ (s5 _ _ f4)) (a2y (ga0.same s46) (ga1.same s46)) f6 (pts1 (gb0.same s46)) (by simp) (by simp) (by simp) (by simp) (fun p hp=>by
   simp only[b3d,b6o,a9g,a9w,or_false] at hp;rcases hp with rfl | rfl | rfl
   .exact ov0 _ ma0
   .exact ov0 _ ma1
   .exact ov1 _ mb0) (fun _=>⟨⟨A0,A1,rfl⟩,.inl ⟨C0,rfl⟩⟩)
end
theorem a5t{w:a20}{K:a8z}{h:Heap}{mg:Str->Option Value}{fa:Addr}(KX:K.In h)(GN:h.Ns a12 mg)(hfa:mg "law" = some (.ref fa)){f23 f26 f50:Addr}{od23 an23 od26 an26 od50 an50:Option Addr}{sl23 sl26 sl50:Array (Option Value)}{oc23 kV23 dc23 pm23 cd23 ct23 oc26 kV26 dc26 pm26 cd26 ct26 oc50 kV50 dc50 pm50 cd50 ct50:Value}{C_Ground:Addr}(b95:b0b K a12 "Ground" = some (some (.ref C_Ground)))(b96:b4y K C_Ground Str.empty=true)(b97:b5y K C_Ground=true)(b98:b7s K C_Ground=true)(b99:b0i K (.ref C_Ground) "__setattr__" = some (some (.builtin "object.__setattr__")))(c00:b6s K C_Ground=true)(c01:b1h K (.ref C_Ground)=true)(c02:b0i K (.ref C_Ground) "room" = some none)(c03:b0i K (.ref C_Ground) "x_bottoms" = some none)(c04:b0i K (.ref C_Ground) "y_bottoms" = some none)(c05:b0i K (.ref C_Ground) "ones" = some none)(c06:b0i K (.ref C_Ground) "others" = some none)(h0:FH K "_law_cell_at" dY)(h1:FH K "_law_part" je)(h2:FH K "_law_share" gM)(h3:FH K "_law_stream" fi)(h4:FH K "_law_drawn_two" cT)(h5:FH K "_law_less" jg)(h6:FH K "_law_least" gQ)(h7:FH K "_law_most" jf)(h8:FH K "_law_box" gR)(h9:FH K "_law_side" jd)(h10:FH K "_law_halved" dB)(h11:FH K "_law_whole_seats" bv)(h12:FH K "_law_stretches" bW)(h13:FH K "_law_width" eM)(h14:FH K "_law_level" gO)(h15:FH K "_law_nearness" cz)(h16:FH K "greatest_common" bC)(h17:FH K "common_bottoms" bN)(h18:FH K "product" gI)(h19:FH K "axis" md)(h20:FH K "axes" jL)(h21:FH K "room_for" fh)(h22:FH K "whole_curve" bU)(a23:b0i K (.ref C_Ground) "__init__" = some (some (.ref f23)))(i23:b5r K (.ref f23)=true)(l23:K.lookup f23=some ⟨oc23,od23,.func (b1n "__init__" "Ground.__init__" (bu aG) (x8 aG) (d4 aG) .none kV23 dc23 pm23 an23 cd23 ct23),sl23⟩)(c23:b2l K cd23 "Ground.__init__" = true)(k23:b1h K (.ref f23)=true)(h24:FH K "halves" fL)(h25:FH K "halved" fM)(a26:b0i K (.ref C_Ground) "go_down" = some (some (.ref f26)))(i26:b5r K (.ref f26)=true)(l26:K.lookup f26=some ⟨oc26,od26,.func (b1n "go_down" "Ground.go_down" (bu aN) (x8 aN) (d4 aN) .none kV26 dc26 pm26 an26 cd26 ct26),sl26⟩)(c26:b2l K cd26 "Ground.go_down" = true)(k26:b1h K (.ref f26)=true)(h27:FH K "pairs_below" bV)(h28:FH K "along" jh)(h29:FH K "step_across" cS)(h30:FH K "reach" li)(h31:FH K "turn_between" cy)(h32:FH K "way_amid" fe)(h33:FH K "parted" jb)(h34:FH K "share" kZ)(h35:FH K "told_line" dU)(h36:FH K "sifted" ja)(h37:FH K "meets" gJ)(h38:FH K "_law_places" bo)(h39:FH K "whole_box" cm)(h40:FH K "all_small" cn)(h41:FH K "under" kY)(h42:FH K "greater" gS)(h43:FH K "lesser" jc)(h44:FH K "common_box" di)(h45:FH K "share_over" dh)(h46:FH K "told_box" fg)(h47:FH K "near" fK)(h48:FH K "_law_refused" dX)(h49:FH K "_law_whole" gK)(a50:b0b K a12 "law" = some (some (.ref f50)))(l50:K.lookup f50=some ⟨oc50,od50,.func (b1n "law" "law" (bu eJ) (x8 eJ) (d4 eJ) .none kV50 dc50 pm50 an50 cd50 ct50),sl50⟩)(c50:b2l K cd50 "law" = true)(k50:b1h K (.ref f50)=true)(c07:b0b K a12 "len" = some none)(c08:b0b K a12 "abs" = some none)(c09:b0b K a12 "range" = some none)(c1j:b0b K a12 "max" = some none)(c1k:b0b K a12 "min" = some none)(c1l:b0b K a12 "any" = some none)(c1m:b0b K a12 "all" = some none)(c1n:b0b K a12 "sum" = some none)(c1o:b0b K a12 "isinstance" = some none)(c1p:b0b K a12 "int" = some none)(c1q:b0b K a12 "bool" = some none)(c1r:b0b K a12 "tuple" = some none)(c1s:b0b K a12 "list" = some none)(c1t:b0b K a12 "str" = some none)(c1u:b0b K a12 "ValueError" = some none)(c1v:b0b K a12 "zip" = some none)(c1w:b0b K a12 "reversed" = some none)(c1x:b0b K a12 "enumerate" = some none)(c1y:b0b K a12 "sorted" = some none)(c1z:b0b K a12 "dict" = some none){b37 b38 C_NoShare:Addr}(c10:b0b K a12 "SeatError" = some (some (.ref b37)))(c11:b0b K a12 "TooMany" = some (some (.ref b38)))(c12:b0b K a12 "NoShare" = some (some (.ref C_NoShare))){nm_TooMany q_TooMany:Str}{c13:Addr}{bs_TooMany bm_TooMany:List Value}{c14:Bool}{sn_TooMany:List Str}{sub_TooMany:List Value}{ab_TooMany:Bool}{col_TooMany:Option Bool}{dd_TooMany:Option Addr}{k0_TooMany k1_TooMany k2_TooMany k3_TooMany k5_TooMany:Option Value}(c15:K.lookup b38=some (excClassObj nm_TooMany q_TooMany b38 c13 bs_TooMany bm_TooMany c14 sn_TooMany sub_TooMany ab_TooMany col_TooMany dd_TooMany k0_TooMany k1_TooMany k2_TooMany k3_TooMany k5_TooMany "ValueError.__new__"))(c16:c1f K c13=true)(c17:b0b K c13 "__init__" = some none)(c18:c1g K U8 bm_TooMany=true)(c19:b5t K (.ref b38) (.ref b37)=some true)(c2a:b1i K (.ref b38) (.type "ValueError")=some true)(c2b:b5t K (.ref b38) (.ref b38)=some true)(c2c:b0i K (.ref b38) "__getattribute__" = some (some (.builtin "BaseException.__getattribute__")))(c2d:b0i K (.ref b38) "__getattr__" = some none)(c2e:(b5g K b38).isSome=true)(c2f:b0i K (.ref b38) "__class__" = some (some (.builtin "object.__class__")))(c2g:b7t K (.builtin "object.__class__") "__get__" = some (some (.builtin "getset_descriptor.__get__")))(c2h:b9a K (.builtin "object.__class__")=some true)(c2i:b6f K b38 (.type "object")=some true)(c2j:b6f K b38 (.type "BaseException")=some true)(c2k:b1i K (.ref b38) (.ref C_NoShare)=some false){b36:Tok}(c2l:b0b K a12 "MOST_PAIRS" = some (some (.int 256 b36))){b31 b32 b33 b34 b35:Addr}{d0_PLAIN_WAYS d1_PLAIN_WAYS d2_PLAIN_WAYS d3_PLAIN_WAYS d4_PLAIN_WAYS:Option Addr}{s0_PLAIN_WAYS s1_PLAIN_WAYS s2_PLAIN_WAYS s3_PLAIN_WAYS s4_PLAIN_WAYS:Array (Option Value)}{n0_PLAIN_WAYS n1_PLAIN_WAYS n2_PLAIN_WAYS n3_PLAIN_WAYS n4_PLAIN_WAYS:Nat}{t1_PLAIN_WAYS t2_PLAIN_WAYS t3_PLAIN_WAYS t4_PLAIN_WAYS t5_PLAIN_WAYS t6_PLAIN_WAYS t7_PLAIN_WAYS t8_PLAIN_WAYS:Tok}(c2m:b0b K a12 "PLAIN_WAYS" = some (some (.ref b31)))(c2n:K.lookup b31=some ⟨.type "tuple",d0_PLAIN_WAYS,.seq #[.ref b32,.ref b33,.ref b34,.ref b35] n0_PLAIN_WAYS,s0_PLAIN_WAYS⟩)(c2o:K.lookup b32=some ⟨.type "tuple",d1_PLAIN_WAYS,.seq #[.int (1) t1_PLAIN_WAYS,.int (0) t2_PLAIN_WAYS] n1_PLAIN_WAYS,s1_PLAIN_WAYS⟩)(c2p:K.lookup b33=some ⟨.type "tuple",d2_PLAIN_WAYS,.seq #[.int (-1) t3_PLAIN_WAYS,.int (0) t4_PLAIN_WAYS] n2_PLAIN_WAYS,s2_PLAIN_WAYS⟩)(c2q:K.lookup b34=some ⟨.type "tuple",d3_PLAIN_WAYS,.seq #[.int (0) t5_PLAIN_WAYS,.int (1) t6_PLAIN_WAYS] n3_PLAIN_WAYS,s3_PLAIN_WAYS⟩)(c2r:K.lookup b35=some ⟨.type "tuple",d4_PLAIN_WAYS,.seq #[.int (0) t7_PLAIN_WAYS,.int (-1) t8_PLAIN_WAYS] n4_PLAIN_WAYS,s4_PLAIN_WAYS⟩){t_MOST_LEVEL:Tok}(c2s:b0b K a12 "MOST_LEVEL" = some (some (.int 6 t_MOST_LEVEL)))
 : ∃ fd:a34,(∀ (s:a01) (v:Value),a93 s fd ⟨[v],[]⟩ [("_law_script",v)])/\∀ (P:a15) (base:Heap),K.In base->base.Ns a12 mg->jB P w K mg base z8 10 fa fd ["_law_script"] ((ym K)):=by
 have e:=hfa.symm.trans (b2c KX GN a50);cases e;have B:nt mg:=⟨b0g KX GN c07,b0g KX GN c08,b0g KX GN c09,b0g KX GN c1j,b0g KX GN c1k,b0g KX GN c1l,b0g KX GN c1m,b0g KX GN c1n,b0g KX GN c1o,b0g KX GN c1p,b0g KX GN c1q,b0g KX GN c1r,b0g KX GN c1s,b0g KX GN c1t,b0g KX GN c1u,b0g KX GN c1v,b0g KX GN c1w,b0g KX GN c1x,b0g KX GN c1y,b0g KX GN c1z⟩
 have X:Exc K mg b37 b38 C_NoShare:=⟨b2c KX GN c10,b2c KX GN c11,b2c KX GN c12,⟨b2c KX GN c11,_,_,_,_,_,_,_,_,_,_,_,_,_,_,_,_,c15,c16,c17,c18⟩,c19,c2a,c2b,⟨c2c,c2d,c2e,c2f,c2g,c2h,c2i,c2j⟩,c2k⟩
 have G:a8v K mg b31 b32 b33 b34 b35 b36 t_MOST_LEVEL:=⟨b2c KX GN c2l,b2c KX GN c2m,fun _=>a8e c2n,fun _=>⟨vG c2o,vG c2p,vG c2q,vG c2r⟩,b2c KX GN c2s⟩
 have b56:kW K mg "Ground" C_Ground:=⟨⟨b96,b97,b98,b99⟩,c00,c01,b2c KX GN b95⟩
 have F0:j4 K mg "_law_cell_at" dY ["_law_script","_law_k"]:=h0.fn KX GN fun _ _ _ _ _ _ us hl=>dJ (fun _ _=>rfl) us hl;have F1:j4 K mg "_law_part" je ["_law_one","_law_other"]:=h1.fn KX GN fun _ _ _ _ _ _ us hl=>dJ (fun _ _=>rfl) us hl;have F2:j4 K mg "_law_share" gM ["_law_top","_law_bottom"]:=h2.fn KX GN fun _ _ _ _ _ _ us hl=>dJ (fun _ _=>rfl) us hl;have F3:j4 K mg "_law_stream" fi ["_law_cell","_law_place"]:=h3.fn KX GN fun _ _ _ _ _ _ us hl=>dJ (fun _ _=>rfl) us hl;have F4:j4 K mg "_law_drawn_two" cT ["_law_script","_law_most_here"]:=h4.fn KX GN fun _ _ _ _ _ _ us hl=>dJ (fun _ _=>rfl) us hl;have F5:j4 K mg "_law_less" jg ["_law_one","_law_other"]:=h5.fn KX GN fun _ _ _ _ _ _ us hl=>dJ (fun _ _=>rfl) us hl;have F6:j4 K mg "_law_least" gQ ["_law_some"]:=h6.fn KX GN fun _ _ _ _ _ _ us hl=>fH (fun _=>rfl) us hl;have F7:j4 K mg "_law_most" jf ["_law_some"]:=h7.fn KX GN fun _ _ _ _ _ _ us hl=>fH (fun _=>rfl) us hl;have F8:j4 K mg "_law_box" gR ["_law_seats"]:=h8.fn KX GN fun _ _ _ _ _ _ us hl=>fH (fun _=>rfl) us hl;have F9:j4 K mg "_law_side" jd ["_law_frame"]:=h9.fn KX GN fun _ _ _ _ _ _ us hl=>fH (fun _=>rfl) us hl;have F10:j4 K mg "_law_halved" dB ["_law_some"]:=h10.fn KX GN fun _ _ _ _ _ _ us hl=>fH (fun _=>rfl) us hl;have F11:j4 K mg "_law_whole_seats" bv ["_law_curve"]:=h11.fn KX GN fun _ _ _ _ _ _ us hl=>fH (fun _=>rfl) us hl;have F12:j4 K mg "_law_stretches" bW ["_law_curve","_law_level_here"]:=h12.fn KX GN fun _ _ _ _ _ _ us hl=>dJ (fun _ _=>rfl) us hl;have F13:j4 K mg "_law_width" eM ["_law_one","_law_other","_law_level_here"]:=h13.fn KX GN fun _ _ _ _ _ _ us hl=>qD (fun _ _ _=>rfl) us hl;have F14:j4 K mg "_law_level" gO ["_law_one","_law_other","_law_nearness_here"]:=h14.fn KX GN fun _ _ _ _ _ _ us hl=>qD (fun _ _ _=>rfl) us hl;have F15:j4 K mg "_law_nearness" cz ["_law_one","_law_other","_law_s"]:=h15.fn KX GN fun _ _ _ _ _ _ us hl=>qD (fun _ _ _=>rfl) us hl;have F16:j4 K mg "greatest_common" bC ["one","other"]:=h16.fn KX GN fun _ _ _ _ _ _ us hl=>dJ (fun _ _=>rfl) us hl;have F17:j4 K mg "common_bottoms" bN ["shares"]:=h17.fn KX GN fun _ _ _ _ _ _ us hl=>fH (fun _=>rfl) us hl;have F18:j4 K mg "product" gI ["numbers"]:=h18.fn KX GN fun _ _ _ _ _ _ us hl=>fH (fun _=>rfl) us hl;have F19:j4 K mg "axis" md ["shares"]:=h19.fn KX GN fun _ _ _ _ _ _ us hl=>fH (fun _=>rfl) us hl;have F20:j4 K mg "axes" jL ["points"]:=h20.fn KX GN fun _ _ _ _ _ _ us hl=>fH (fun _=>rfl) us hl;have F21:j4 K mg "room_for" fh ["seats","level"]:=h21.fn KX GN fun _ _ _ _ _ _ us hl=>dJ (fun _ _=>rfl) us hl;have F22:j4 K mg "whole_curve" bU ["xs","ys","room"]:=h22.fn KX GN fun _ _ _ _ _ _ us hl=>qD (fun _ _ _=>rfl) us hl;have F23:jz K C_Ground "__init__" "Ground.__init__" aG ["self","one","other","level"]:=jz.mk' a23 i23 l23 c23 k23 fun _ _ _ _ _ _ us hl=>N3 (fun _ _ _ _=>rfl) us hl;have F24:j4 K mg "halves" fL ["curve"]:=h24.fn KX GN fun _ _ _ _ _ _ us hl=>fH (fun _=>rfl) us hl;have F25:j4 K mg "halved" fM ["curves"]:=h25.fn KX GN fun _ _ _ _ _ _ us hl=>fH (fun _=>rfl) us hl;have F26:jz K C_Ground "go_down" "Ground.go_down" aN ["self"]:=jz.mk' a26 i26 l26 c26 k26 fun _ _ _ _ _ _ us hl=>fH (fun _=>rfl) us hl;have F27:j4 K mg "pairs_below" bV ["pairs"]:=h27.fn KX GN fun _ _ _ _ _ _ us hl=>fH (fun _=>rfl) us hl;have F28:j4 K mg "along" jh ["places","way"]:=h28.fn KX GN fun _ _ _ _ _ _ us hl=>dJ (fun _ _=>rfl) us hl;have F29:j4 K mg "step_across" cS ["ones","others","i","j"]:=h29.fn KX GN fun _ _ _ _ _ _ us hl=>N3 (fun _ _ _ _=>rfl) us hl;have F30:j4 K mg "reach" li ["ones","others","way"]:=h30.fn KX GN fun _ _ _ _ _ _ us hl=>qD (fun _ _ _=>rfl) us hl;have F31:j4 K mg "turn_between" cy ["one","other"]:=h31.fn KX GN fun _ _ _ _ _ _ us hl=>dJ (fun _ _=>rfl) us hl;have F32:j4 K mg "way_amid" fe ["right","left"]:=h32.fn KX GN fun _ _ _ _ _ _ us hl=>dJ (fun _ _=>rfl) us hl;have F33:j4 K mg "parted" jb ["ones","others"]:=h33.fn KX GN fun _ _ _ _ _ _ us hl=>dJ (fun _ _=>rfl) us hl;have F34:j4 K mg "share" kZ ["top","bottom"]:=h34.fn KX GN fun _ _ _ _ _ _ us hl=>dJ (fun _ _=>rfl) us hl;have F35:j4 K mg "told_line" dU ["line","x_bottom","y_bottom","room"]:=h35.fn KX GN fun _ _ _ _ _ _ us hl=>N3 (fun _ _ _ _=>rfl) us hl;have F36:j4 K mg "sifted" ja ["ground","pairs"]:=h36.fn KX GN fun _ _ _ _ _ _ us hl=>dJ (fun _ _=>rfl) us hl;have F37:j4 K mg "meets" gJ ["one","other","level"]:=h37.fn KX GN fun _ _ _ _ _ _ us hl=>qD (fun _ _ _=>rfl) us hl;have F38:j4 K mg "_law_places" bo ["_law_found","_law_one","_law_other","_law_level_here"]:=h38.fn KX GN fun _ _ _ _ _ _ us hl=>N3 (fun _ _ _ _=>rfl) us hl;have F39:j4 K mg "whole_box" cm ["part"]:=h39.fn KX GN fun _ _ _ _ _ _ us hl=>fH (fun _=>rfl) us hl;have F40:j4 K mg "all_small" cn ["ground","nearness"]:=h40.fn KX GN fun _ _ _ _ _ _ us hl=>dJ (fun _ _=>rfl) us hl;have F41:j4 K mg "under" kY ["one","other"]:=h41.fn KX GN fun _ _ _ _ _ _ us hl=>dJ (fun _ _=>rfl) us hl;have F42:j4 K mg "greater" gS ["one","other"]:=h42.fn KX GN fun _ _ _ _ _ _ us hl=>dJ (fun _ _=>rfl) us hl;have F43:j4 K mg "lesser" jc ["one","other"]:=h43.fn KX GN fun _ _ _ _ _ _ us hl=>dJ (fun _ _=>rfl) us hl;have F44:j4 K mg "common_box" di ["one","other"]:=h44.fn KX GN fun _ _ _ _ _ _ us hl=>dJ (fun _ _=>rfl) us hl;have F45:j4 K mg "share_over" dh ["top","bottoms"]:=h45.fn KX GN fun _ _ _ _ _ _ us hl=>dJ (fun _ _=>rfl) us hl;have F46:j4 K mg "told_box" fg ["ground","part"]:=h46.fn KX GN fun _ _ _ _ _ _ us hl=>dJ (fun _ _=>rfl) us hl;have F47:j4 K mg "near" fK ["one","other","nearness"]:=h47.fn KX GN fun _ _ _ _ _ _ us hl=>qD (fun _ _ _=>rfl) us hl;have F48:j4 K mg "_law_refused" dX ["_law_one","_law_other","_law_nearness_here"]:=h48.fn KX GN fun _ _ _ _ _ _ us hl=>qD (fun _ _ _=>rfl) us hl;have F49:j4 K mg "_law_whole" gK ["_law_found"]:=h49.fn KX GN fun _ _ _ _ _ _ us hl=>fH (fun _=>rfl) us hl;have F50:j4 K mg "law" eJ ["_law_script"]:=j4.mk' (b2c KX GN a50) l50 c50 k50 fun _ _ _ _ _ _ us hl=>fH (fun _=>rfl) us hl;refine⟨b1n "law" "law" (bu eJ) (x8 eJ) (d4 eJ) .none kV50 dc50 pm50 an50 cd50 ct50,fun s v=>.of_eq rfl,fun P base _ _=>?_⟩;have D0:=pQ (P:=P) (w:=w) (base:=base) F0 B;have D1:=wV (P:=P) (w:=w) (base:=base) F1;have D2:=tf (P:=P) (w:=w) (base:=base) F2 B D1;have D3:=rl (P:=P) (w:=w) (base:=base) F3 B;have D4:=mE (P:=P) (w:=w) (base:=base) F4 B D0 D2 D3;have D5:=wX (P:=P) (w:=w) (base:=base) F5;have D6:=tm (P:=P) (w:=w) (base:=base) F6 D5;have D7:=wW (P:=P) (w:=w) (base:=base) F7 D5;have D8:=zI (P:=P) (w:=w) (base:=base) F8 D6 D7;have D9:=wU (P:=P) (w:=w) (base:=base) F9 B D2 D7;have D10:=rz (P:=P) (w:=w) (base:=base) F10 B;have D11:=jS (P:=P) (w:=w) (base:=base) F11 D1;have D12:=mD (P:=P) (w:=w) (base:=base) F12 B D2 D10 D11;have D13:=sZ (P:=P) (w:=w) (base:=base) F13 D7 D8 D9 D12;have D14:=tj (P:=P) (w:=w) (base:=base) F14 D5 D13;have D15:=nG (P:=P) (w:=w) (base:=base) F15 D2 D13;have D16:=iz (P:=P) (w:=w) (base:=base) F16 B;have D17:=jn (P:=P) (w:=w) (base:=base) F17 D16;have D18:=sV (P:=P) (w:=w) (base:=base) F18;have D19:=T9 (P:=P) (w:=w) (base:=base) F19 D17 D18;have D20:=U0 (P:=P) (w:=w) (base:=base) F20 D19;have D21:=rk (P:=P) (w:=w) (base:=base) F21;have D22:=mz (P:=P) (w:=w) (base:=base) F22 B;have D23:=iB (P:=P) (w:=w) (base:=base) b56 c02 c03 c04 c05 c06 F23 B D20 D21 D22;have D24:=wY (P:=P) (w:=w) (base:=base) F24 B;have D25:=wZ (P:=P) (w:=w) (base:=base) F25 D24;have D26:=jo (P:=P) (w:=w) (base:=base) b56 c02 c03 c04 c05 c06 F26 D25;have D27:=mC (P:=P) (w:=w) (base:=base) F27 B;have D28:=zJ (P:=P) (w:=w) (base:=base) F28;have D29:=mB (P:=P) (w:=w) (base:=base) F29;have D30:=zG (P:=P) (w:=w) (base:=base) F30 B D28 D29;have D31:=kJ (P:=P) (w:=w) (base:=base) F31;have D32:=rh (P:=P) (w:=w) (base:=base) F32;have D33:=wS (P:=P) (w:=w) (base:=base) F33 G D29 D30 D31 D32;have D34:=zF (P:=P) (w:=w) (base:=base) F34 D16;have D35:=pO (P:=P) (w:=w) (base:=base) F35 D34;have D36:=wR (P:=P) (w:=w) (base:=base) b56 c02 c03 c04 c05 c06 F36 B X G D18 D33 D35;have D37:=zH (P:=P) (w:=w) (base:=base) b56 c02 c03 c04 c05 c06 F37 B G D23 D26 D27 D36;have D38:=rq (P:=P) (w:=w) (base:=base) F38 B D6 D7 D8 D12 D37;have D39:=pN (P:=P) (w:=w) (base:=base) F39 B;have D40:=pR (P:=P) (w:=w) (base:=base) b56 c02 c03 c04 c05 c06 F40 B D18 D39;have D41:=zE (P:=P) (w:=w) (base:=base) F41;have D42:=tu (P:=P) (w:=w) (base:=base) F42 D41;have D43:=wT (P:=P) (w:=w) (base:=base) F43 D41;have D44:=nH (P:=P) (w:=w) (base:=base) F44 D42 D43;have D45:=nF (P:=P) (w:=w) (base:=base) F45 D16;have D46:=rj (P:=P) (w:=w) (base:=base) b56 c02 c03 c04 c05 c06 F46 D39 D45;have D47:=T8 (P:=P) (w:=w) (base:=base) b56 c02 c03 c04 c05 c06 F47 X G D23 D26 D37 D40 D44 D46;have D48:=pP (P:=P) (w:=w) (base:=base) F48 B X D47;have D49:=td (P:=P) (w:=w) (base:=base) F49 B;have D50:=a4i (P:=P) (w:=w) (base:=base) F50 B D0 D2 D3 D4 D13 D14 D15 D38 D47 D48 D49;exact D50.law l50 (b2c KX GN a50)
end Cv
open PySem PySem.W PyProof.Rows
set_option maxHeartbeats 0 in
theorem PySem.Challenge.cw_curveseat_k65_near_holds : PySem.Challenge.rw_curveseat_k65_near.Holds := by
 w_on;o_law;k_head;(case hw=>w_witness2)
 k_fill
 refine Cv.walk (l:=PySem.Challenge.rw_curveseat_k65_near) (k:=10) (x := "_law_script") (CX:=L2.z8) (sp:=fun K=>(Cv.ym K)) rfl rfl ⟨rfl,by decide,by decide⟩ (fun w h Y=>PySem.W.kIn_of Y) ?F (fun K H a ns h1 h2 h3=>⟨a,ns,rfl,h3,h1,fun _=>rfl⟩) (fun _ _ _ _ z=>z)
 case F=>
  intro w mg fa h KX G hmg;refine' Cv.a5t KX G hmg ?b95 ?b96 ?b97 ?b98 ?b99 ?c00 ?c01 ?c02 ?c03 ?c04 ?c05 ?c06 ?h0 ?h1 ?h2 ?h3 ?h4 ?h5 ?h6 ?h7 ?h8 ?h9 ?h10 ?h11 ?h12 ?h13 ?h14 ?h15 ?h16 ?h17 ?h18 ?h19 ?h20 ?h21 ?h22 ?a23 ?i23 ?l23 ?c23 ?k23 ?h24 ?h25 ?a26 ?i26 ?l26 ?c26 ?k26 ?h27 ?h28 ?h29 ?h30 ?h31 ?h32 ?h33 ?h34 ?h35 ?h36 ?h37 ?h38 ?h39 ?h40 ?h41 ?h42 ?h43 ?h44 ?h45 ?h46 ?h47 ?h48 ?h49 ?a50 ?l50 ?c50 ?k50 ?c07 ?c08 ?c09 ?c1j ?c1k ?c1l ?c1m ?c1n ?c1o ?c1p ?c1q ?c1r ?c1s ?c1t ?c1u ?c1v ?c1w ?c1x ?c1y ?c1z ?c10 ?c11 ?c12 ?c15 ?c16 ?c17 ?c18 ?c19 ?c2a ?c2b ?c2c ?c2d ?c2e ?c2f ?c2g ?c2h ?c2i ?c2j ?c2k ?c2l ?c2m ?c2n ?c2o ?c2p ?c2q ?c2r ?c2s
  case b95 | b96 | b97 | b98 | b99 | c00 | c01 | c02 | c03 | c04 | c05 | c06=>k_is
  case h0 | h1 | h2 | h3 | h4 | h5 | h6 | h7 | h8 | h9 | h10 | h11 | h12 | h13 | h14 | h15 | h16 | h17 | h18 | h19 | h20 | h21 | h22=>exact Cv.FH.mk (by k_is) (by k_is) (by k_is) (by k_is)
  case a23 | i23 | l23 | c23 | k23=>k_is
  case h24 | h25=>exact Cv.FH.mk (by k_is) (by k_is) (by k_is) (by k_is)
  case a26 | i26 | l26 | c26 | k26=>k_is
  case h27 | h28 | h29 | h30 | h31 | h32 | h33 | h34 | h35 | h36 | h37 | h38 | h39 | h40 | h41 | h42 | h43 | h44 | h45 | h46 | h47 | h48 | h49=>exact Cv.FH.mk (by k_is) (by k_is) (by k_is) (by k_is)
  case a50 | l50 | c50 | k50 | c07 | c08 | c09 | c1j | c1k | c1l | c1m | c1n | c1o | c1p | c1q | c1r | c1s | c1t | c1u | c1v | c1w | c1x | c1y | c1z | c10 | c11 | c12 | c15=>k_is
  case c16=>kernel_rfl
  case c17=>k_is
  case c18=>kernel_rfl
  case c19=>kts_exm
  case c2a=>kit_is
  case c2b=>kts_exm
  case c2c | c2d=>k_is
  case c2e=>kernel_rfl
  case c2f | c2g | c2h | c2i | c2j=>k_is
  case c2k=>kit_is
  case c2l | c2m | c2n | c2o | c2p | c2q | c2r | c2s=>k_is
#print axioms PySem.Challenge.cw_curveseat_k65_near_holds