import PyProof.Rows.All
import Wide.All
import OpenK.AllK
import Wide.FinOn
import Lean
import PyProof.EqAt
import PyProof.EqKinds
import PyProof.TupleCall
import PySem.Challenge.RW_curveseat_k81_no_text
set_option compiler.extract_closed false
set_option genSizeOfSpec false
noncomputable def PySem.W.Fast.tw12565272939787902038 : Unit := ()
noncomputable def PySem.W.Fast.tw14009846594369648068 : Unit := ()
noncomputable def PySem.W.Fast.tw15211052247370552695 : Unit := ()
noncomputable def PySem.W.Fast.tw11554579360891252320 : Unit := ()
noncomputable def PySem.W.Fast.tw1282411500157291123 : Unit := ()
noncomputable def PySem.W.Fast.tw10252918555864930925 : Unit := ()
noncomputable def PySem.W.Fast.tw16046489664426775049 : Unit := ()
noncomputable def PySem.W.Fast.tw2166058126073464089 : Unit := ()
noncomputable def PySem.W.Fast.tw15823187228094884311 : Unit := ()
noncomputable def PySem.W.Fast.tw7013989760667596713 : Unit := ()
noncomputable def PySem.W.Fast.tw17618101674949428105 : Unit := ()
noncomputable def PySem.W.Fast.tw15548805370154064 : Unit := ()
noncomputable def PySem.W.Fast.tw7335854033921949017 : Unit := ()
noncomputable def PySem.W.Fast.tw511489736447998410 : Unit := ()
noncomputable def PySem.W.Fast.tw15996099220910928494 : Unit := ()
noncomputable def PySem.W.Fast.tw6634077958467317649 : Unit := ()
noncomputable def PySem.W.Fast.tw12745056723962865732 : Unit := ()
noncomputable def PySem.W.Fast.tw9867404402520181189 : Unit := ()
noncomputable def PySem.W.Fast.tw4012261918161964416 : Unit := ()
noncomputable def PySem.W.Fast.tw5109210372626924229 : Unit := ()
noncomputable def PySem.W.Fast.tw18309954404147244972 : Unit := ()
noncomputable def PySem.W.Fast.tw2465568734483245735 : Unit := ()
noncomputable def PySem.W.Fast.tw5902733460000326435 : Unit := ()
noncomputable def PySem.W.Fast.tw15617118251402444608 : Unit := ()
noncomputable def PySem.W.Fast.tw6426432447221405853 : Unit := ()
noncomputable def PySem.W.Fast.tw7966670327680865332 : Unit := ()
noncomputable def PySem.W.Fast.tw11156822512695220039 : Unit := ()
noncomputable def PySem.W.Fast.tw8829339699404761125 : Unit := ()
noncomputable def PySem.W.Fast.tw17078721050434643383 : Unit := ()
noncomputable def PySem.W.Fast.tw3718051905887149985 : Unit := ()
noncomputable def PySem.W.Fast.tw18123048315908783156 : Unit := ()
noncomputable def PySem.W.Fast.tw13457338100056330329 : Unit := ()
noncomputable def PySem.W.Fast.tw8739498069493847017 : Unit := ()
noncomputable def PySem.W.Fast.tw9514528811456804722 : Unit := ()
noncomputable def PySem.W.Fast.tw15747282534259555822 : Unit := ()
noncomputable def PySem.W.Fast.tw17446927910666613144 : Unit := ()
noncomputable def PySem.W.Fast.tw4803038689189858089 : Unit := ()
noncomputable def PySem.W.Fast.tw7175453015020820376 : Unit := ()
noncomputable def PySem.W.Fast.tw12598748418677758818 : Unit := ()
noncomputable def PySem.W.Fast.tw2909798909384499358 : Unit := ()
noncomputable def PySem.W.Fast.tw7504941605892643169 : Unit := ()
noncomputable def PySem.W.Fast.tw5548958857023166381 : Unit := ()
noncomputable def PySem.W.Fast.tw2391059785176993208 : Unit := ()
noncomputable def PySem.W.Fast.tw15474505021025882528 : Unit := ()
noncomputable def PySem.W.Fast.tw90663161060811215 : Unit := ()
noncomputable def PySem.W.Fast.tw5098253727201057248 : Unit := ()
noncomputable def PySem.W.Fast.tw15248448396732825873 : Unit := ()
noncomputable def PySem.W.Fast.tw12395326412390731168 : Unit := ()
noncomputable def PySem.W.Fast.tw17662890485514542796 : Unit := ()
noncomputable def PySem.W.Fast.tw16929965867005059178 : Unit := ()
noncomputable def PySem.W.Fast.tw13070190142285295053 : Unit := ()
noncomputable def PySem.W.Fast.tw14159269520163083183 : Unit := ()
noncomputable def PySem.W.Fast.tw1051484521119381510 : Unit := ()
noncomputable def PySem.W.Fast.tw1637905750590413577 : Unit := ()
noncomputable def PySem.W.Fast.tw3153570749356506707 : Unit := ()
noncomputable def PySem.W.Fast.tw1519898780678958137 : Unit := ()
noncomputable def PySem.W.Fast.tw17551346333764196469 : Unit := ()
noncomputable def PySem.W.Fast.tw10410159045835186076 : Unit := ()
noncomputable def PySem.W.Fast.tw3219507995963707403 : Unit := ()
noncomputable def PySem.W.Fast.tw3478325130959726306 : Unit := ()
noncomputable def PySem.W.Fast.tw7187704983534279400 : Unit := ()
noncomputable def PySem.W.Fast.tw3141406363108133357 : Unit := ()
noncomputable def PySem.W.Fast.tw337914372318797477 : Unit := ()
noncomputable def PySem.W.Fast.tw17598336863922165601 : Unit := ()
noncomputable def PySem.W.Fast.tw13772375130547714041 : Unit := ()
noncomputable def PySem.W.Fast.tw7849078298510835012 : Unit := ()
noncomputable def PySem.W.Fast.tw6934154571109054945 : Unit := ()
noncomputable def PySem.W.Fast.tw545685942764482606 : Unit := ()
noncomputable def PySem.W.Fast.tw16736433791349405275 : Unit := ()
noncomputable def PySem.W.Fast.tw11430695830958503315 : Unit := ()
noncomputable def PySem.W.Fast.tw3226071386011260875 : Unit := ()
noncomputable def PySem.W.Fast.tw3598379554218346422 : Unit := ()
noncomputable def PySem.W.Fast.tw1094124950516453637 : Unit := ()
noncomputable def PySem.W.Fast.tw7559558583845247920 : Unit := ()
noncomputable def PySem.W.Fast.tw1760820629008481534 : Unit := ()
noncomputable def PySem.W.Fast.tw7296623702636866073 : Unit := ()
noncomputable def PySem.W.Fast.tw892983001706357971 : Unit := ()
noncomputable def PySem.W.Fast.tw13652000582339579197 : Unit := ()
noncomputable def PySem.W.Fast.tw17031279017121312030 : Unit := ()
noncomputable def PySem.W.Fast.tw3749746469454252822 : Unit := ()
noncomputable def PySem.W.Fast.tw9609574958892502997 : Unit := ()
noncomputable def PySem.W.Fast.tw16539241121511800515 : Unit := ()
noncomputable def PySem.W.Fast.tw14358892671808327918 : Unit := ()
noncomputable def PySem.W.Fast.tw9747897562387586028 : Unit := ()
noncomputable def PySem.W.Fast.tw17896469753597142977 : Unit := ()
noncomputable def PySem.W.Fast.tw16100662642170480776 : Unit := ()
noncomputable def PySem.W.Fast.tw1930645114891282412 : Unit := ()
noncomputable def PySem.W.Fast.tw4577664693585256082 : Unit := ()
noncomputable def PySem.W.Fast.tw8091787603609356718 : Unit := ()
noncomputable def PySem.W.Fast.tw1996814191120883431 : Unit := ()
noncomputable def PySem.W.Fast.tw7936467524397547773 : Unit := ()
noncomputable def PySem.W.Fast.tw11080057487004886318 : Unit := ()
noncomputable def PySem.W.Fast.tw14746845267413982705 : Unit := ()
noncomputable def PySem.W.Fast.tw13453201220116115113 : Unit := ()
noncomputable def PySem.W.Fast.tw13516481462557513116 : Unit := ()
noncomputable def PySem.W.Fast.tw13304871828094214971 : Unit := ()
noncomputable def PySem.W.Fast.tw771614472917912903 : Unit := ()
noncomputable def PySem.W.Fast.tw6675531454741865111 : Unit := ()
noncomputable def PySem.W.Fast.tw3020716800389482629 : Unit := ()
noncomputable def PySem.W.Fast.tw17937647875502372845 : Unit := ()
noncomputable def PySem.W.Fast.tw4119347857400133423 : Unit := ()
noncomputable def PySem.W.Fast.tw17706681460453227816 : Unit := ()
noncomputable def PySem.W.Fast.tw3908527978191724187 : Unit := ()
noncomputable def PySem.W.Fast.tw5856816053651426817 : Unit := ()
noncomputable def PySem.W.Fast.tw2955642785273764402 : Unit := ()
noncomputable def PySem.W.Fast.tw9592619080447963377 : Unit := ()
noncomputable def PySem.W.Fast.tw8043079232764151724 : Unit := ()
noncomputable def PySem.W.Fast.tw8308500152954741192 : Unit := ()
noncomputable def PySem.W.Fast.tw3301839808002648213 : Unit := ()
noncomputable def PySem.W.Fast.tw11358282239420820744 : Unit := ()
noncomputable def PySem.W.Fast.tw15676179280248315642 : Unit := ()
noncomputable def PySem.W.Fast.tw5520606587657849656 : Unit := ()
noncomputable def PySem.W.Fast.tw8759391366869096096 : Unit := ()
noncomputable def PySem.W.Fast.tw10004538851742668340 : Unit := ()
noncomputable def PySem.W.Fast.tw17973115583679516735 : Unit := ()
noncomputable def PySem.W.Fast.tw3196746650126916353 : Unit := ()
noncomputable def PySem.W.Fast.tw8729640410667498501 : Unit := ()
noncomputable def PySem.W.Fast.tw1944744173237138871 : Unit := ()
noncomputable def PySem.W.Fast.tw14692901906300322523 : Unit := ()
noncomputable def PySem.W.Fast.tw3012824315563270312 : Unit := ()
noncomputable def PySem.W.Fast.tw14402022333002929329 : Unit := ()
noncomputable def PySem.W.Fast.tw2503276680893073675 : Unit := ()
noncomputable def PySem.W.Fast.tw2507260856633246858 : Unit := ()
noncomputable def PySem.W.Fast.tw11702099632576092521 : Unit := ()
noncomputable def PySem.W.Fast.tw12081462514197089944 : Unit := ()
noncomputable def PySem.W.Fast.tw10743236398459441875 : Unit := ()
noncomputable def PySem.W.Fast.tw3489560326278394867 : Unit := ()
noncomputable def PySem.W.Fast.tw9775236880683999757 : Unit := ()
noncomputable def PySem.W.Fast.tw429336699289382995 : Unit := ()
noncomputable def PySem.W.Fast.tw12008231262405067840 : Unit := ()
noncomputable def PySem.W.Fast.tw6664537561931603074 : Unit := ()
noncomputable def PySem.W.Fast.tw16832289909678238862 : Unit := ()
noncomputable def PySem.W.Fast.tw5793762440013788385 : Unit := ()
noncomputable def PySem.W.Fast.tw11520210558067066331 : Unit := ()
noncomputable def PySem.W.Fast.tw2724217539397539060 : Unit := ()
noncomputable def PySem.W.Fast.tw1269330758231839015 : Unit := ()
noncomputable def PySem.W.Fast.tw8359007718279830558 : Unit := ()
noncomputable def PySem.W.Fast.tw3079397424635682890 : Unit := ()
noncomputable def PySem.W.Fast.tw7576537446795757208 : Unit := ()
noncomputable def PySem.W.Fast.tw7768270054232021254 : Unit := ()
noncomputable def PySem.W.Fast.tw2987445250901992607 : Unit := ()
noncomputable def PySem.W.Fast.tw1465540368377998883 : Unit := ()
noncomputable def PySem.W.Fast.tw9573870804630957373 : Unit := ()
noncomputable def PySem.W.Fast.tw11079271302120224026 : Unit := ()
noncomputable def PySem.W.Fast.tw3441935899724191607 : Unit := ()
noncomputable def PySem.W.Fast.tw4045671772917610965 : Unit := ()
noncomputable def PySem.W.Fast.tw6908609434258249111 : Unit := ()
noncomputable def PySem.W.Fast.tw7506489290608052276 : Unit := ()
noncomputable def PySem.W.Fast.tw10455405580577424341 : Unit := ()
noncomputable def PySem.W.Fast.tw9961865613483456952 : Unit := ()
noncomputable def PySem.W.Fast.tw17230188119323038391 : Unit := ()
noncomputable def PySem.W.Fast.tw13900066885685925699 : Unit := ()
noncomputable def PySem.W.Fast.tw14326473567674102074 : Unit := ()
noncomputable def PySem.W.Fast.tw3231266310809218618 : Unit := ()
noncomputable def PySem.W.Fast.tw5345428367861364402 : Unit := ()
noncomputable def PySem.W.Fast.tw4361396155365085819 : Unit := ()
noncomputable def PySem.W.Fast.tw17932695196107039264 : Unit := ()
noncomputable def PySem.W.Fast.tw14844578898642057720 : Unit := ()
noncomputable def PySem.W.Fast.tw17659864020681345205 : Unit := ()
noncomputable def PySem.W.Fast.tw267306699609901991 : Unit := ()
noncomputable def PySem.W.Fast.tw17681381596113850483 : Unit := ()
noncomputable def PySem.W.Fast.tw445221971407500832 : Unit := ()
noncomputable def PySem.W.Fast.tw512207380301644164 : Unit := ()
noncomputable def PySem.W.Fast.tw17727707163880937743 : Unit := ()
noncomputable def PySem.W.Fast.tw10224539462797727936 : Unit := ()
noncomputable def PySem.W.Fast.tw6321495742414394924 : Unit := ()
noncomputable def PySem.W.Fast.tw12402812185074825646 : Unit := ()
noncomputable def PySem.W.Fast.tw1958994451105048854 : Unit := ()
noncomputable def PySem.W.Fast.tw6088547396453476758 : Unit := ()
noncomputable def PySem.W.Fast.tw3327279214294983557 : Unit := ()
noncomputable def PySem.W.Fast.tw3950198946038122240 : Unit := ()
noncomputable def PySem.W.Fast.tw9913825943972007584 : Unit := ()
noncomputable def PySem.W.Fast.tw10549091960528289014 : Unit := ()
noncomputable def PySem.W.Fast.tw2052453302258481392 : Unit := ()
noncomputable def PySem.W.Fast.tw8262016582794336913 : Unit := ()
noncomputable def PySem.W.Fast.tw17512271768250323632 : Unit := ()
noncomputable def PySem.W.Fast.tw14122667635051107034 : Unit := ()
noncomputable def PySem.W.Fast.tw11732997117650106528 : Unit := ()
noncomputable def PySem.W.Fast.tw4408374252385901737 : Unit := ()
noncomputable def PySem.W.Fast.tw17601165595200352755 : Unit := ()
noncomputable def PySem.W.Fast.tw4165273449180670044 : Unit := ()
noncomputable def PySem.W.Fast.tw12574103922362129419 : Unit := ()
noncomputable def PySem.W.Fast.tw7377869872469654483 : Unit := ()
noncomputable def PySem.W.Fast.tw8498596015597827288 : Unit := ()
noncomputable def PySem.W.Fast.tw2602716100163067969 : Unit := ()
noncomputable def PySem.W.Fast.tw1428230894309649460 : Unit := ()
noncomputable def PySem.W.Fast.tw18101072238118100804 : Unit := ()
noncomputable def PySem.W.Fast.tw8113968191610579127 : Unit := ()
noncomputable def PySem.W.Fast.tw3501779097846851483 : Unit := ()
noncomputable def PySem.W.Fast.tw15814868938955274848 : Unit := ()
noncomputable def PySem.W.Fast.tw10010644636605083699 : Unit := ()
noncomputable def PySem.W.Fast.tw4854425310206380198 : Unit := ()
noncomputable def PySem.W.Fast.tw17060121152241197617 : Unit := ()
noncomputable def PySem.W.Fast.tw12980515523256608168 : Unit := ()
noncomputable def PySem.W.Fast.tw10497650210102216235 : Unit := ()
noncomputable def PySem.W.Fast.tw15930776312586963663 : Unit := ()
noncomputable def PySem.W.Fast.tw4793227813608819235 : Unit := ()
noncomputable def PySem.W.Fast.tw18354994951734438580 : Unit := ()
noncomputable def PySem.W.Fast.tw524001264319883503 : Unit := ()
noncomputable def PySem.W.Fast.tw2298795900739192607 : Unit := ()
noncomputable def PySem.W.Fast.tw3822429321080866727 : Unit := ()
noncomputable def PySem.W.Fast.tw13053170856244992429 : Unit := ()
noncomputable def PySem.W.Fast.tw10415631890847087799 : Unit := ()
noncomputable def PySem.W.Fast.tw17619045295490285397 : Unit := ()
noncomputable def PySem.W.Fast.tw2896149072695865957 : Unit := ()
noncomputable def PySem.W.Fast.tw14379072740106686014 : Unit := ()
noncomputable def PySem.W.Fast.tw15258475363700688838 : Unit := ()
noncomputable def PySem.W.Fast.tw17803686873477910652 : Unit := ()
noncomputable def PySem.W.Fast.tw13044239434364768754 : Unit := ()
noncomputable def PySem.W.Fast.tw1979478962648749391 : Unit := ()
noncomputable def PySem.W.Fast.tw15745910066610583861 : Unit := ()
noncomputable def PySem.W.Fast.tw17226053700467475751 : Unit := ()
noncomputable def PySem.W.Fast.tw6410954966353129057 : Unit := ()
noncomputable def PySem.W.Fast.tw3743608128327179522 : Unit := ()
noncomputable def PySem.W.Fast.tw8307373139940082861 : Unit := ()
noncomputable def PySem.W.Fast.tw15744335467432480526 : Unit := ()
noncomputable def PySem.W.Fast.tw4226057143121724844 : Unit := ()
noncomputable def PySem.W.Fast.tw2542475964944683089 : Unit := ()
noncomputable def PySem.W.Fast.tw15121950422943378704 : Unit := ()
noncomputable def PySem.W.Fast.tw13268525406969185642 : Unit := ()
noncomputable def PySem.W.Fast.tw14334981620864396476 : Unit := ()
noncomputable def PySem.W.Fast.tw5242565880005977164 : Unit := ()
noncomputable def PySem.W.Fast.tw4313673822475838319 : Unit := ()
noncomputable def PySem.W.Fast.tw5260243821197971999 : Unit := ()
noncomputable def PySem.W.Fast.tw5428359186017471732 : Unit := ()
noncomputable def PySem.W.Fast.tw7889533136662675166 : Unit := ()
noncomputable def PySem.W.Fast.tw9633254352119334130 : Unit := ()
noncomputable def PySem.W.Fast.tw15218787779789229953 : Unit := ()
noncomputable def PySem.W.Fast.tw8921184708325176103 : Unit := ()
noncomputable def PySem.W.Fast.tw12035735931355065872 : Unit := ()
noncomputable def PySem.W.Fast.tw2617177294642818224 : Unit := ()
noncomputable def PySem.W.Fast.tw11611852997382529520 : Unit := ()
noncomputable def PySem.W.Fast.tw17516285728889027804 : Unit := ()
noncomputable def PySem.W.Fast.tw433607944397540346 : Unit := ()
noncomputable def PySem.W.Fast.tw10982399320773128677 : Unit := ()
noncomputable def PySem.W.Fast.tw15390573328115992660 : Unit := ()
noncomputable def PySem.W.Fast.tw10988009704722734256 : Unit := ()
noncomputable def PySem.W.Fast.tw13078935529321201341 : Unit := ()
noncomputable def PySem.W.Fast.tw644462256035903028 : Unit := ()
noncomputable def PySem.W.Fast.tw2873097451308374954 : Unit := ()
noncomputable def PySem.W.Fast.tw9207337248118648424 : Unit := ()
noncomputable def PySem.W.Fast.tw2042257608384951689 : Unit := ()
noncomputable def PySem.W.Fast.tw5827262457965067233 : Unit := ()
noncomputable def PySem.W.Fast.tw15140121556264296003 : Unit := ()
noncomputable def PySem.W.Fast.tw4632986078273167281 : Unit := ()
noncomputable def PySem.W.Fast.tw804371944405380293 : Unit := ()
noncomputable def PySem.W.Fast.tw18051269690166316389 : Unit := ()
noncomputable def PySem.W.Fast.tw6094560385593392408 : Unit := ()
noncomputable def PySem.W.Fast.tw3028988964261614272 : Unit := ()
noncomputable def PySem.W.Fast.tw5614491288042386101 : Unit := ()
noncomputable def PySem.W.Fast.tw17735101656337556241 : Unit := ()
noncomputable def PySem.W.Fast.tw10703236085307156192 : Unit := ()
noncomputable def PySem.W.Fast.tw13967160674492034760 : Unit := ()
noncomputable def PySem.W.Fast.tw1047742279560589109 : Unit := ()
noncomputable def PySem.W.Fast.tw5771921378097570223 : Unit := ()
noncomputable def PySem.W.Fast.tw10989095528162529926 : Unit := ()
noncomputable def PySem.W.Fast.tw11724445117759317792 : Unit := ()
noncomputable def PySem.W.Fast.tw6141864009315649843 : Unit := ()
noncomputable def PySem.W.Fast.tw4517706395292180807 : Unit := ()
noncomputable def PySem.W.Fast.tw16754513766919262214 : Unit := ()
noncomputable def PySem.W.Fast.tw10514960563255250274 : Unit := ()
noncomputable def PySem.W.Fast.tw18022533652956909142 : Unit := ()
noncomputable def PySem.W.Fast.tw5250458641200877409 : Unit := ()
noncomputable def PySem.W.Fast.tw10047917847476451532 : Unit := ()
noncomputable def PySem.W.Fast.tw14470695263671904230 : Unit := ()
noncomputable def PySem.W.Fast.tw14366171920324800101 : Unit := ()
noncomputable def PySem.W.Fast.tw4002822741775115650 : Unit := ()
noncomputable def PySem.W.Fast.tw15759115282966899732 : Unit := ()
noncomputable def PySem.W.Fast.tw13000279759134204075 : Unit := ()
noncomputable def PySem.W.Fast.tw4455124902298041424 : Unit := ()
noncomputable def PySem.W.Fast.tw8466488037207080379 : Unit := ()
noncomputable def PySem.W.Fast.tw8078834380660407235 : Unit := ()
noncomputable def PySem.W.Fast.tw10499879997266324512 : Unit := ()
noncomputable def PySem.W.Fast.tw1957906455023368890 : Unit := ()
noncomputable def PySem.W.Fast.tw5893901372259533530 : Unit := ()
noncomputable def PySem.W.Fast.tw12774000292707629870 : Unit := ()
noncomputable def PySem.W.Fast.tw6262226370760849397 : Unit := ()
noncomputable def PySem.W.Fast.tw4535595032967371121 : Unit := ()
noncomputable def PySem.W.Fast.tw15208730755846401588 : Unit := ()
noncomputable def PySem.W.Fast.tw17513871361950115348 : Unit := ()
noncomputable def PySem.W.Fast.tw2617679924427611262 : Unit := ()
noncomputable def PySem.W.Fast.tw4290181091429044844 : Unit := ()
noncomputable def PySem.W.Fast.tw9924366231792638065 : Unit := ()
noncomputable def PySem.W.Fast.tw8685789592840403384 : Unit := ()
noncomputable def PySem.W.Fast.tw13018333389530220990 : Unit := ()
noncomputable def PySem.W.Fast.tw4622730753587224307 : Unit := ()
noncomputable def PySem.W.Fast.tw10486854435301608831 : Unit := ()
noncomputable def PySem.W.Fast.tw10306457011889330701 : Unit := ()
noncomputable def PySem.W.Fast.tw2443924733260683269 : Unit := ()
noncomputable def PySem.W.Fast.tw9702051992089427784 : Unit := ()
noncomputable def PySem.W.Fast.tw5445199433225564505 : Unit := ()
noncomputable def PySem.W.Fast.tw11467329858548273905 : Unit := ()
noncomputable def PySem.W.Fast.tw8325956016793172709 : Unit := ()
noncomputable def PySem.W.Fast.tw2101858468810947320 : Unit := ()
noncomputable def PySem.W.Fast.tw13643172481908360419 : Unit := ()
noncomputable def PySem.W.Fast.tw3770538236651606001 : Unit := ()
noncomputable def PySem.W.Fast.tw15295523578821217496 : Unit := ()
noncomputable def PySem.W.Fast.tw13346087622475026882 : Unit := ()
noncomputable def PySem.W.Fast.tw6535693062088189252 : Unit := ()
noncomputable def PySem.W.Fast.tw9880601429571580057 : Unit := ()
noncomputable def PySem.W.Fast.tw5521932517894212952 : Unit := ()
noncomputable def PySem.W.Fast.tw807641006768155285 : Unit := ()
noncomputable def PySem.W.Fast.tw5847895843852032226 : Unit := ()
noncomputable def PySem.W.Fast.tw17301250109049691784 : Unit := ()
noncomputable def PySem.W.Fast.tw12074766686291208906 : Unit := ()
noncomputable def PySem.W.Fast.tw16351824312666343236 : Unit := ()
noncomputable def PySem.W.Fast.tw14488725511306874428 : Unit := ()
noncomputable def PySem.W.Fast.tw4404460578153481907 : Unit := ()
noncomputable def PySem.W.Fast.tw10830188911918259275 : Unit := ()
noncomputable def PySem.W.Fast.tw7430123767034723194 : Unit := ()
noncomputable def PySem.W.Fast.tw5749073642645527995 : Unit := ()
noncomputable def PySem.W.Fast.tw5588143835305883250 : Unit := ()
noncomputable def PySem.W.Fast.tw9076096848820476822 : Unit := ()
noncomputable def PySem.W.Fast.tw14856446420880242014 : Unit := ()
noncomputable def PySem.W.Fast.tw10578187088963912659 : Unit := ()
noncomputable def PySem.W.Fast.tw7200025224957843118 : Unit := ()
noncomputable def PySem.W.Fast.tw13768669822600994688 : Unit := ()
noncomputable def PySem.W.Fast.tw14814146644388618516 : Unit := ()
noncomputable def PySem.W.Fast.tw13430238998713170612 : Unit := ()
noncomputable def PySem.W.Fast.tw15110727332744320526 : Unit := ()
noncomputable def PySem.W.Fast.tw7238415654534296545 : Unit := ()
noncomputable def PySem.W.Fast.tw5608284516888859252 : Unit := ()
noncomputable def PySem.W.Fast.tw13788320493375118672 : Unit := ()
noncomputable def PySem.W.Fast.tw15611258074449277554 : Unit := ()
noncomputable def PySem.W.Fast.tw2014056891015968671 : Unit := ()
noncomputable def PySem.W.Fast.tw16677696277740211553 : Unit := ()
noncomputable def PySem.W.Fast.tw5449108630370213693 : Unit := ()
noncomputable def PySem.W.Fast.tw3833606649724861145 : Unit := ()
noncomputable def PySem.W.Fast.tw12742452859318541270 : Unit := ()
noncomputable def PySem.W.Fast.tw13963446919788436214 : Unit := ()
noncomputable def PySem.W.Fast.tw10700532154274081237 : Unit := ()
noncomputable def PySem.W.Fast.tw10973041498591440960 : Unit := ()
noncomputable def PySem.W.Fast.tw9478858506259995496 : Unit := ()
noncomputable def PySem.W.Fast.tw12264638983383448400 : Unit := ()
noncomputable def PySem.W.Fast.tw5751890055905750295 : Unit := ()
noncomputable def PySem.W.Fast.tw8437009979968335901 : Unit := ()
noncomputable def PySem.W.Fast.tw2748115537039693662 : Unit := ()
noncomputable def PySem.W.Fast.tw17519685190705524558 : Unit := ()
noncomputable def PySem.W.Fast.tw2350035095947253391 : Unit := ()
noncomputable def PySem.W.Fast.tw6064416823822349205 : Unit := ()
noncomputable def PySem.W.Fast.tw1546327138931814946 : Unit := ()
noncomputable def PySem.W.Fast.tw1620398370232411465 : Unit := ()
noncomputable def PySem.W.Fast.tw15840162399188918191 : Unit := ()
noncomputable def PySem.W.Fast.tw9944576319416756610 : Unit := ()
noncomputable def PySem.W.Fast.tw1148695946424847522 : Unit := ()
noncomputable def PySem.W.Fast.tw15879992906161881081 : Unit := ()
noncomputable def PySem.W.Fast.tw15619315536309032277 : Unit := ()
noncomputable def PySem.W.Fast.tw10876141171877430737 : Unit := ()
noncomputable def PySem.W.Fast.tw13707510419453650575 : Unit := ()
noncomputable def PySem.W.Fast.tw9270059945107662450 : Unit := ()
noncomputable def PySem.W.Fast.tw10950379165728478561 : Unit := ()
noncomputable def PySem.W.Fast.tw14577288021870932441 : Unit := ()
noncomputable def PySem.W.Fast.tw6679209350536295434 : Unit := ()
noncomputable def PySem.W.Fast.tw2343345803159608029 : Unit := ()
noncomputable def PySem.W.Fast.tw4548520705565223811 : Unit := ()
noncomputable def PySem.W.Fast.tw12902179345250297600 : Unit := ()
noncomputable def PySem.W.Fast.tw9837725759095998741 : Unit := ()
noncomputable def PySem.W.Fast.tw13335763691922197509 : Unit := ()
noncomputable def PySem.W.Fast.tw10612691530901311579 : Unit := ()
noncomputable def PySem.W.Fast.tw16416119292110587817 : Unit := ()
noncomputable def PySem.W.Fast.tw3351098383555822818 : Unit := ()
noncomputable def PySem.W.Fast.tw2883491623211248573 : Unit := ()
noncomputable def PySem.W.Fast.tw16128008362996575318 : Unit := ()
noncomputable def PySem.W.Fast.tw12574114605831420752 : Unit := ()
noncomputable def PySem.W.Fast.tw11811321014111854903 : Unit := ()
noncomputable def PySem.W.Fast.tw882980829879664542 : Unit := ()
noncomputable def PySem.W.Fast.tw13341120649355619849 : Unit := ()
noncomputable def PySem.W.Fast.tw15384150228070368174 : Unit := ()
noncomputable def PySem.W.Fast.tw4150203236562474933 : Unit := ()
noncomputable def PySem.W.Fast.tw11064599579679906076 : Unit := ()
noncomputable def PySem.W.Fast.tw9987188180818063682 : Unit := ()
noncomputable def PySem.W.Fast.tw7551952810604777591 : Unit := ()
noncomputable def PySem.W.Fast.tw1272430387157983776 : Unit := ()
noncomputable def PySem.W.Fast.tw11468861163820687634 : Unit := ()
noncomputable def PySem.W.Fast.tw13847619978237901930 : Unit := ()
noncomputable def PySem.W.Fast.tw12197057343420058196 : Unit := ()
noncomputable def PySem.W.Fast.tw5343035623651020802 : Unit := ()
noncomputable def PySem.W.Fast.tw18063391753473733683 : Unit := ()
noncomputable def PySem.W.Fast.tw2949037568897867365 : Unit := ()
noncomputable def PySem.W.Fast.tw6293903767382906035 : Unit := ()
noncomputable def PySem.W.Fast.tw12677048089704952702 : Unit := ()
noncomputable def PySem.W.Fast.tw14476101372381775123 : Unit := ()
noncomputable def PySem.W.Fast.tw928297606439076801 : Unit := ()
noncomputable def PySem.W.Fast.tw6152612135271999727 : Unit := ()
noncomputable def PySem.W.Fast.tw9103882010849044675 : Unit := ()
noncomputable def PySem.W.Fast.tw1968717740718592375 : Unit := ()
noncomputable def PySem.W.Fast.tw7952715881397423645 : Unit := ()
noncomputable def PySem.W.Fast.tw4808191112581670774 : Unit := ()
noncomputable def PySem.W.Fast.tw17639782529872453494 : Unit := ()
noncomputable def PySem.W.Fast.tw13498896188107559513 : Unit := ()
noncomputable def PySem.W.Fast.tw14473018185969276526 : Unit := ()
noncomputable def PySem.W.Fast.tw4166866792509423721 : Unit := ()
noncomputable def PySem.W.Fast.tw3637028783761948104 : Unit := ()
noncomputable def PySem.W.Fast.tw9085322568364241498 : Unit := ()
noncomputable def PySem.W.Fast.tw12580981607153467083 : Unit := ()
noncomputable def PySem.W.Fast.tw11117428274879226018 : Unit := ()
noncomputable def PySem.W.Fast.tw12674284169098772242 : Unit := ()
noncomputable def PySem.W.Fast.tw3740666565203659505 : Unit := ()
noncomputable def PySem.W.Fast.tw6475169729473804187 : Unit := ()
noncomputable def PySem.W.Fast.tw15878029339695677625 : Unit := ()
noncomputable def PySem.W.Fast.tw8623320933970732910 : Unit := ()
noncomputable def PySem.W.Fast.tw8793323662682413753 : Unit := ()
noncomputable def PySem.W.Fast.tw2370563838621697251 : Unit := ()
noncomputable def PySem.W.Fast.tw15822947507253634414 : Unit := ()
noncomputable def PySem.W.Fast.tw15853585759577338534 : Unit := ()
noncomputable def PySem.W.Fast.tw6853238324385342952 : Unit := ()
noncomputable def PySem.W.Fast.tw9134169343593013131 : Unit := ()
noncomputable def PySem.W.Fast.tw12169590694985308409 : Unit := ()
noncomputable def PySem.W.Fast.tw384263382221449461 : Unit := ()
noncomputable def PySem.W.Fast.tw9147575743186407672 : Unit := ()
noncomputable def PySem.W.Fast.tw16843665893012455270 : Unit := ()
noncomputable def PySem.W.Fast.tw8250480809427038308 : Unit := ()
noncomputable def PySem.W.Fast.tw13026294603832154317 : Unit := ()
noncomputable def PySem.W.Fast.tw11473949781523847958 : Unit := ()
noncomputable def PySem.W.Fast.tw16211871401418165680 : Unit := ()
noncomputable def PySem.W.Fast.tw9409155655502665792 : Unit := ()
noncomputable def PySem.W.Fast.tw8598804345239010451 : Unit := ()
noncomputable def PySem.W.Fast.tw8467734457238908139 : Unit := ()
noncomputable def PySem.W.Fast.tw14243073244561500246 : Unit := ()
noncomputable def PySem.W.Fast.tw3714128619252310765 : Unit := ()
noncomputable def PySem.W.Fast.tw8631149455431344640 : Unit := ()
noncomputable def PySem.W.Fast.tw8983918937669631481 : Unit := ()
set_option Elab.async false
set_option linter.all false
set_option maxRecDepth 100000
/-! THE HAND LAYER, for ints, bools, texts, own classes, LISTS and tuples (index, slices, in, append, pop ..), calls, loops. Paste it whole ahead of your own text; what your proof does not reach may be deleted. -/
namespace L2
open PySem PySem.Spec PyProof.Rows

/-- a key: an int or a str -/
noncomputable abbrev Key := Sum Int Str
noncomputable def keyIs : Key → Value → Bool
  | .inl k, v => Value.isInt k v
  | .inr x, v => Value.isStrOf x v
noncomputable def keyH (w : World) : Key → Int
  | .inl k => hashInt k
  | .inr x => hashStr w x
theorem keyIs_shape : ∀ {k : Key} {v : Value}, keyIs k v = true → (∃ i t, k = Sum.inl i ∧ v = Value.int i t) ∨ (∃ x t, k = Sum.inr x ∧ v = Value.str x t)
  | .inl i, v, h => by
    obtain ⟨t, e⟩ := Value.isInt_shape (k := i) (v := v) h
    exact .inl ⟨i, t, rfl, e⟩
  | .inr x, v, h => by
    obtain ⟨t, e⟩ := Value.isStrOf_shape (x := x) (v := v) h
    exact .inr ⟨x, t, rfl, e⟩
theorem key_ll (a b : Int) : decide ((Sum.inl a : Key) = Sum.inl b) = (a == b) := by
  by_cases e : a = b
  · subst e; simp
  · have h : ¬ (Sum.inl a : Key) = Sum.inl b := fun q => e (Sum.inl.inj q)
    rw [decide_eq_false h]
    exact (beq_eq_false_iff_ne.mpr e).symm
theorem key_rr (a b : Str) : decide ((Sum.inr a : Key) = Sum.inr b) = decide (a = b) := by
  by_cases e : a = b
  · subst e; simp
  · have h : ¬ (Sum.inr a : Key) = Sum.inr b := fun q => e (Sum.inr.inj q)
    rw [decide_eq_false h, decide_eq_false e]
theorem key_lr (a : Int) (b : Str) : decide ((Sum.inl a : Key) = Sum.inr b) = false := decide_eq_false (fun q => nomatch q)
theorem key_rl (a : Str) (b : Int) : decide ((Sum.inr a : Key) = Sum.inl b) = false := decide_eq_false (fun q => nomatch q)

noncomputable def mixKind (prog : Program) (w : World) : PySem.KeyKind prog w Key where
  is := keyIs
  hash := keyH w
  inj := fun v a b ha hb => by
    rcases keyIs_shape ha with ⟨i, t, rfl, rfl⟩ | ⟨x, t, rfl, rfl⟩
    · rcases keyIs_shape hb with ⟨j, u, rfl, e⟩ | ⟨y, u, rfl, e⟩
      · injection e with e1 _; rw [e1]
      · exact nomatch e
    · rcases keyIs_shape hb with ⟨j, u, rfl, e⟩ | ⟨y, u, rfl, e⟩
      · exact nomatch e
      · injection e with e1 _; rw [e1]
  byValue := fun k v h => by
    rcases keyIs_shape h with ⟨i, t, rfl, rfl⟩ | ⟨x, t, rfl, rfl⟩ <;> rfl
  pyHash := fun hv h => by
    rcases keyIs_shape hv with ⟨i, t, rfl, rfl⟩ | ⟨x, t, rfl, rfl⟩
    · exact wpAny_pyHash_int h
    · exact wpAny_pyHash_str h
  eqBool := fun hu hv h => by
    rcases keyIs_shape hu with ⟨i, t, rfl, rfl⟩ | ⟨x, t, rfl, rfl⟩
    · rcases keyIs_shape hv with ⟨j, u, rfl, rfl⟩ | ⟨y, u, rfl, rfl⟩
      · rw [key_ll] at h; exact wpAny_eqBool_int h
      · rw [key_lr] at h; exact SeqAt.EqAt.int_str i t y u _ _ _ _ h
    · rcases keyIs_shape hv with ⟨j, u, rfl, rfl⟩ | ⟨y, u, rfl, rfl⟩
      · rw [key_rl] at h; exact SeqAt.EqAt.str_int x t j u _ _ _ _ h
      · rw [key_rr] at h; exact wpAny_eqBool_str h
  «strs» := fun k x t v h => by
    rcases keyIs_shape h with ⟨i, u, rfl, e⟩ | ⟨y, u, rfl, e⟩
    · exact nomatch e
    · injection e with e1 _
      subst e1
      cases v <;> rfl

end L2

namespace L2
open PySem PySem.Spec PyProof.Rows

/-- a value, without the heap -/
inductive V where
  | non | bl (b : Bool) | int (i : Int) | str (x : Str) | byt (b : Array UInt8) | flt (b : UInt64) | ref (a : Addr) | ty (n : String)
  deriving DecidableEq

noncomputable def RelV : V → Value → Prop
  | .non, u => u = Value.none
  | .bl b, u => u = Value.bool b
  | .int i, u => ∃ t, u = Value.int i t
  | .str x, u => ∃ t, u = Value.str x t
  | .byt b, u => ∃ t, u = Value.bytes b t
  | .flt b, u => ∃ t, u = Value.float b t
  | .ref a, u => u = Value.ref a
  | .ty n, u => u = Value.type n

noncomputable abbrev Vals : List V → List Value → Prop := Paired RelV
theorem Vals.length {xs : List V} {us : List Value} (r : Vals xs us) : xs.length = us.length := Paired.length r
theorem Vals.get : ∀ {xs : List V} {us : List Value} {i : Nat} {x : V}, Vals xs us → xs[i]? = some x → ∃ u, us[i]? = some u ∧ RelV x u
  | _, _, _, _, .nil, e => by simp at e
  | _, _, 0, _, .cons r _, e => by simp at e; subst e; exact ⟨_, rfl, r⟩
  | _, _, i + 1, x, .cons _ t, e => by
    obtain ⟨u, h1, h2⟩ := Vals.get (i := i) (x := x) t (by simpa using e)
    exact ⟨u, by simpa using h1, h2⟩
theorem Vals.append : ∀ {xs ys : List V} {us ws : List Value}, Vals xs us → Vals ys ws → Vals (xs ++ ys) (us ++ ws)
  | _, _, _, _, .nil, s => s
  | _, _, _, _, .cons r t, s => .cons r (Vals.append t s)
theorem Vals.take : ∀ {xs : List V} {us : List Value} (n : Nat), Vals xs us → Vals (xs.take n) (us.take n)
  | _, _, 0, _ => .nil
  | _, _, _ + 1, .nil => .nil
  | _, _, n + 1, .cons r t => .cons r (Vals.take n t)
theorem Vals.drop : ∀ {xs : List V} {us : List Value} (n : Nat), Vals xs us → Vals (xs.drop n) (us.drop n)
  | _, _, 0, r => r
  | _, _, _ + 1, .nil => .nil
  | _, _, n + 1, .cons _ t => Vals.drop n t
theorem Vals.none_of : ∀ {xs : List V} {us : List Value} {i : Nat}, Vals xs us → xs[i]? = none → us[i]? = none := fun {xs us i} r e => by
  have h1 := r.length
  have h2 : xs.length ≤ i := List.getElem?_eq_none_iff.mp e
  exact List.getElem?_eq_none_iff.mpr (by omega)

noncomputable def RelO : Option V → Option Value → Prop
  | some v, some u => RelV v u
  | none, none => True
  | _, _ => False
noncomputable def KV {κ : Type} : List (κ × V) → List (κ × Value) → Prop := Paired fun (p : κ × V) (q : κ × Value) => p.1 = q.1 ∧ RelV p.2 q.2

/-- a key of a dict (00_mix): an int or a text -/
noncomputable def kV : Key → V
  | .inl i => .int i
  | .inr x => .str x

/-- what stands at a tracked address -/
inductive HO where
  /-- a list -/
  | lst (xs : List V)
  /-- a tuple (never changes) -/
  | tup (xs : List V)
  /-- a dict whose keys are ints and texts; one whose keys are tuples of ints and texts (the empty one is both) -/
  | dK (kvs : List (Key × V)) | dT (kvs : List (List Key × V))
  /-- a set of ints: its members, its size -/
  | set (S : Int → Bool) (n : Nat)
  /-- an instance of the class at C, its dict at dx, its attributes -/
  | ins (C dx : Addr) (fs : List (Str × V))
  /-- the dict of the instance at x -/
  | own (x : Addr)
  /-- the dict of an exception -/
  | xd (fs : List (Str × V))
  /-- a bound method, f of x -/
  | met (f x : Addr)
  /-- a range object lo, lo + 1, .. below hi -/
  | rng (lo hi : Int)
  /-- a thing that is known to the object (the script; a dict while a loop walks it): read, never written while it is so -/
  | frz (o : Obj) (u : HO)
  /-- a code object's table -/
  | tbl (ps : Array Value)
  /-- any other thing, by what is true of its one object (a def of one's own: SetO a S n := HO.ext fun h => ..) -/
  | ext (φ : Heap → Prop)

noncomputable abbrev Hp := Addr → Option HO
noncomputable def upd (H : Hp) (a : Addr) (o : HO) : Hp := fun b => if b = a then some o else H b
theorem upd_same {H : Hp} {a : Addr} {o : HO} : upd H a o a = some o := by unfold upd; rw [if_pos rfl]
theorem upd_ne {H : Hp} {a b : Addr} {o : HO} (h : b ≠ a) : upd H a o b = H b := by unfold upd; rw [if_neg h]
/-- two objects of different content stand apart -/
theorem ne_of_none {H : Hp} {a b : Addr} {o : HO} (h : H a = some o) (h' : H b = none) : a ≠ b := by
  intro e; subst e; rw [h] at h'; cases h'

section
variable (P : Program) (w : World)
noncomputable def ObjOk (H : Hp) (h : Heap) (a : Addr) : HO → Prop
  | .lst xs => xs.length ≤ sizeLine ∧ ∃ (its : List Value) (n : Nat), Vals xs its ∧ h.get? a = some { cls := .type "list", data := .seq its.toArray n }
  | .tup xs => xs.length ≤ sizeLine ∧ ∃ its : List Value, Vals xs its ∧ IsTup h a its.toArray
  | .dK kvs => kvs.length ≤ sizeLine ∧ (a == sysModules) = false ∧ ∃ vs, KV kvs vs ∧ h.DictOf (mixKind P w) a vs
  | .dT kvs => kvs.length ≤ sizeLine ∧ (a == sysModules) = false ∧ ∃ xs : List (List Key × Addr × Value),
      Paired (fun (p : List Key × V) (q : List Key × Addr × Value) => p.1 = q.1 ∧ H q.2.1 = some (.tup (p.1.map kV)) ∧ RelV p.2 q.2.2) kvs xs ∧
      ∃ o es ep, h.get? a = some o ∧ o.ExactDict ∧ o.data = .dict es ep ∧ es.toList = xs.map (entryOfKey (tupleKind (mixKind P w))) ∧ (xs.map (·.1)).Nodup
  | .set S n => h.SetOf (intKind P w) a S n
  | .ins C dx fs => H dx = some (.own a) ∧ fs.length ≤ 1000 ∧ dx ≠ a ∧ h.get? a = some (PySem.W.instObj C dx) ∧
      ∃ mA, h.Ns1 dx mA ∧ (∀ f, RelO (fs.lookup f) (mA f)) ∧ PySem.Within mA (fs.map (·.1))
  | .own _ => ∃ o, h.get? a = some o
  | .xd fs => ∃ mA, h.Ns1 a mA ∧ ∀ f, RelO (fs.lookup f) (mA f)
  | .rng lo hi => ∃ t u v, h.get? a = some { cls := .type "range", data := .fields #[.int lo t, .int hi u, .int 1 v] }
  | .frz o u => h.get? a = some o ∧ ObjOk H h a u
  | .tbl ps => h.get? a = some { cls := .none, data := .fields ps }
  | .met f x => h.get? a = some (PySem.W.methodObj (.ref f) (.ref x))
  | .ext φ => φ h ∧ (∃ o, h.get? a = some o) ∧ ∀ h1 h2 : Heap, φ h1 → (∀ o, h1.get? a = some o → h2.get? a = some o) → φ h2
/-- the abstract heap is held -/
noncomputable def HOk (H : Hp) (h : Heap) : Prop := ∀ a o, H a = some o → ObjOk P w H h a o
end

section
variable {P : Program} {w : World} {H H' : Hp} {h h' : Heap} {a : Addr} {o : HO}
theorem ObjOk.lt (x : ObjOk P w H h a o) : a < h.objs.size := by
  cases o with
  | lst xs => obtain ⟨_, _, _, _, e⟩ := x; exact Heap.lt_size e
  | tup xs => obtain ⟨_, _, _, p⟩ := x; exact p.lt
  | dK kvs => obtain ⟨_, _, _, _, o, _, _, e, _⟩ := x; exact Heap.lt_size e
  | dT kvs => obtain ⟨_, _, _, _, o, _, _, e, _⟩ := x; exact Heap.lt_size e
  | set S n => obtain ⟨o, _, _, _, e, _⟩ := x; exact Heap.lt_size e
  | ins C dx fs => obtain ⟨_, _, _, e, _⟩ := x; exact Heap.lt_size e
  | own y => obtain ⟨_, e⟩ := x; exact Heap.lt_size e
  | xd fs => obtain ⟨_, ⟨_, _, _, e, _⟩, _⟩ := x; exact Heap.lt_size e
  | rng lo hi => obtain ⟨_, _, _, e⟩ := x; exact Heap.lt_size e
  | frz ob u => obtain ⟨e, _⟩ := x; exact Heap.lt_size e
  | tbl ps => exact Heap.lt_size (show h.get? a = some _ from x)
  | met f y => exact Heap.lt_size (show h.get? a = some _ from x)
  | ext φ => obtain ⟨_, ⟨_, e⟩, _⟩ := x; exact Heap.lt_size e
theorem Paired.mapP {α β : Type} {F G : α → β → Prop} : ∀ {l₁ : List α} {l₂ : List β}, Paired F l₁ l₂ → (∀ a b, F a b → G a b) → Paired G l₁ l₂
  | _, _, .nil, _ => .nil
  | _, _, .cons r t, f => .cons (f _ _ r) (Paired.mapP t f)
/-- what an object's description leans on: its own object, its own dict, the tuples -/
theorem ObjOk.stay (x : ObjOk P w H h a o) (k : ∀ b u, (b = a ∨ H b = some (.own a)) → h.get? b = some u → h'.get? b = some u)
    (ho : ∀ b, H b = some (.own a) → H' b = some (.own a)) (ht : ∀ b xs, H b = some (.tup xs) → H' b = some (.tup xs)) : ObjOk P w H' h' a o := by
  induction o with
  | lst xs => obtain ⟨z, its, n, r, e⟩ := x; exact ⟨z, its, n, r, k _ _ (.inl rfl) e⟩
  | tup xs => obtain ⟨z, its, r, ob, e, c⟩ := x; exact ⟨z, its, r, ob, k _ _ (.inl rfl) e, c⟩
  | dK kvs => obtain ⟨z, y, vs, r, ob, es, ep, e, c⟩ := x; exact ⟨z, y, vs, r, ob, es, ep, k _ _ (.inl rfl) e, c⟩
  | dT kvs =>
    obtain ⟨z, y, xs, r, ob, es, ep, e, c⟩ := x
    exact ⟨z, y, xs, Paired.mapP r fun p q z => ⟨z.1, ht _ _ z.2.1, z.2.2⟩, ob, es, ep, k _ _ (.inl rfl) e, c⟩
  | set S n => obtain ⟨ob, es, ep, t, e, c⟩ := x; exact ⟨ob, es, ep, t, k _ _ (.inl rfl) e, c⟩
  | ins C dx fs =>
    obtain ⟨d, z, ne, e, mA, ⟨od, es, ep, e2, c⟩, r⟩ := x
    exact ⟨ho _ d, z, ne, k _ _ (.inl rfl) e, mA, ⟨od, es, ep, k _ _ (.inr d) e2, c⟩, r⟩
  | own y => obtain ⟨ob, e⟩ := x; exact ⟨ob, k _ _ (.inl rfl) e⟩
  | xd fs => obtain ⟨mA, ⟨od, es, ep, e, c⟩, r⟩ := x; exact ⟨mA, ⟨od, es, ep, k _ _ (.inl rfl) e, c⟩, r⟩
  | rng lo hi => obtain ⟨t, u, v, e⟩ := x; exact ⟨t, u, v, k _ _ (.inl rfl) e⟩
  | frz ob u ih => obtain ⟨e, q⟩ := x; exact ⟨k _ _ (.inl rfl) e, ih q⟩
  | tbl ps =>
    have e : h.get? a = some { cls := .none, data := .fields ps } := x
    show h'.get? a = some { cls := .none, data := .fields ps }
    exact k a _ (.inl rfl) e
  | met f y =>
    have e : h.get? a = some (PySem.W.methodObj (.ref f) (.ref y)) := x
    show h'.get? a = some (PySem.W.methodObj (.ref f) (.ref y))
    exact k a _ (.inl rfl) e
  | ext φ => obtain ⟨p, ⟨o, e⟩, st⟩ := x; exact ⟨st _ _ p fun o q => k _ _ (.inl rfl) q, ⟨o, k _ _ (.inl rfl) e⟩, st⟩
theorem HOk.lt (x : HOk P w H h) (e : H a = some o) : a < h.objs.size := (x a o e).lt
theorem HOk.fresh (x : HOk P w H h) (e : h.objs.size ≤ a) : H a = none := by
  cases q : H a with
  | none => rfl
  | some u => exact absurd (Nat.lt_of_lt_of_le (x.lt q) e) (Nat.lt_irrefl _)
/-- every object of the heap is kept -/
theorem HOk.kept (x : HOk P w H h) (k : ∀ b u, h.get? b = some u → h'.get? b = some u) : HOk P w H h' := fun a o e =>
  (x a o e).stay (fun b u _ q => k b u q) (fun _ q => q) fun _ _ q => q
/-- a new object is laid and tracked -/
theorem HOk.laid (x : HOk P w H h) (k : ∀ b u, h.get? b = some u → h'.get? b = some u) (hp : h.objs.size ≤ a) (new : ObjOk P w (upd H a o) h' a o) : HOk P w (upd H a o) h' := fun b u e => by
  have hn := x.fresh hp
  by_cases hb : b = a
  · subst hb; rw [upd_same] at e; cases e; exact new
  · rw [upd_ne hb] at e
    exact (x b u e).stay (fun c v _ q => k c v q) (fun c q => by rw [upd_ne (ne_of_none q hn)]; exact q) fun c xs q => by rw [upd_ne (ne_of_none q hn)]; exact q
end

/-- what may be read as u: it is u, or a known u -/
noncomputable def Rd (H : Hp) (a : Addr) (u : HO) : Prop := H a = some u ∨ ∃ o, H a = some (.frz o u)
theorem Rd.of {H : Hp} {a : Addr} {u : HO} (h : H a = some u) : Rd H a u := .inl h
theorem Rd.ok {P : Program} {w : World} {H : Hp} {h : Heap} {a : Addr} {u : HO} (r : Rd H a u) (x : HOk P w H h) : ObjOk P w H h a u := by
  rcases r with r | ⟨o, r⟩
  · exact x a u r
  · obtain ⟨_, q⟩ := x a _ r
    exact q
/-- what may be written -/
noncomputable def Mut : Option HO → Prop
  | some (.lst _) => True
  | some (.dK _) => True
  | some (.dT _) => True
  | some (.set _ _) => True
  | some (.ins _ _ _) => True
  | some (.ext _) => True
  | _ => False
section
variable {P : Program} {w : World} {H : Hp} {h h' : Heap} {x e : Addr} {o' : HO}
/-- the object at e is changed: x itself, or the dict of the instance x -/
theorem HOk.write (ok : HOk P w H h) (mu : Mut (H x)) (he : e = x ∨ H e = some (.own x)) (k : ∀ b u, b ≠ e → h.get? b = some u → h'.get? b = some u) (heo : ∃ u, h'.get? e = some u)
    (new : ObjOk P w (upd H x o') h' x o') : HOk P w (upd H x o') h' := fun b u q => by
  have nown : ∀ c y, H c = some (.own y) → c ≠ x := fun c y r z => by subst z; rw [r] at mu; exact mu
  have ntup : ∀ c xs, H c = some (.tup xs) → c ≠ x := fun c xs r z => by subst z; rw [r] at mu; exact mu
  by_cases hb : b = x
  · subst hb; rw [upd_same] at q; cases q; exact new
  · rw [upd_ne hb] at q
    by_cases hbe : b = e
    · have q' : H b = some (.own x) := by
        rcases he with z | z
        · exact absurd (hbe.trans z) hb
        · rw [hbe]; exact z
      rw [q] at q'; cases q'
      obtain ⟨v, hv⟩ := heo
      exact ⟨v, by rw [hbe]; exact hv⟩
    · refine (ok b u q).stay (fun c v hc r => k c v ?_ r) (fun c r => by rw [upd_ne (nown c b r)]; exact r) fun c xs r => by rw [upd_ne (ntup c xs r)]; exact r
      rcases hc with rfl | hc
      · exact hbe
      · rintro rfl
        rcases he with z | z
        · exact nown c b hc z
        · rw [hc] at z; cases z; exact hb rfl
end

/-! ### kept unless tracked; of the frames at fs (the callers') the slots may change (an exception that passes writes there); of the records at ex (iterators) nothing is said -/
structure Un (fs ex : List Addr) (H H' : Hp) (h h' : Heap) : Prop where
  keep : ∀ b o, h.get? b = some o → H b = none → b ∉ fs → b ∉ ex → h'.get? b = some o
  slot : ∀ b o, h.get? b = some o → H b = none → b ∈ fs → b ∉ ex → ∃ sl, h'.get? b = some { o with slots := sl }
  free : ∀ b o, h.get? b = some o → H b = none → b ∉ ex → H' b = none
  there : ∀ b o, h.get? b = some o → b ∉ ex → ∃ o', h'.get? b = some o'
  tups : ∀ b xs, H b = some (.tup xs) → H' b = some (.tup xs)
  frzs : ∀ b o u, H b = some (.frz o u) → H' b = some (.frz o u)
  tbls : ∀ b ps, H b = some (.tbl ps) → ∃ more, H' b = some (.tbl (ps ++ more))
section
variable {fs fs' ex ex' : List Addr} {H H1 H2 : Hp} {h h1 h2 h' : Heap} {a x e : Addr} {o : HO}
theorem Un.any (u : Un fs ex H H1 h h1) {b : Addr} {ob : Obj} (q : h.get? b = some ob) (n : H b = none) (hx : b ∉ ex) : ∃ sl, h1.get? b = some { ob with slots := sl } := by
  by_cases hb : b ∈ fs
  · exact u.slot b ob q n hb hx
  · exact ⟨ob.slots, u.keep b ob q n hb hx⟩
theorem Un.trans (a : Un fs ex H H1 h h1) (b : Un fs ex H1 H2 h1 h2) : Un fs ex H H2 h h2 where
  keep := fun c ob q n hc hx => b.keep c ob (a.keep c ob q n hc hx) (a.free c ob q n hx) hc hx
  slot := fun c ob q n hc hx => by
    obtain ⟨sl, e1⟩ := a.slot c ob q n hc hx
    obtain ⟨sl', e2⟩ := b.slot c _ e1 (a.free c ob q n hx) hc hx
    exact ⟨sl', e2⟩
  free := fun c ob q n hx => by
    obtain ⟨o', e1⟩ := a.there c ob q hx
    exact b.free c o' e1 (a.free c ob q n hx) hx
  there := fun c ob q hx => by
    obtain ⟨o', e1⟩ := a.there c ob q hx
    exact b.there c o' e1 hx
  tups := fun c xs q => b.tups c xs (a.tups c xs q)
  frzs := fun c ob xs q => b.frzs c ob xs (a.frzs c ob xs q)
  tbls := fun c ps q => by
    obtain ⟨m1, e1⟩ := a.tbls c ps q
    obtain ⟨m2, e2⟩ := b.tbls c _ e1
    exact ⟨m1 ++ m2, by rw [e2, Array.append_assoc]⟩
theorem Un.kept (k : ∀ b u, h.get? b = some u → h'.get? b = some u) : Un fs ex H H h h' :=
  ⟨fun b ob q _ _ _ => k b ob q, fun b ob q _ _ _ => ⟨ob.slots, k b ob q⟩, fun _ _ _ n _ => n, fun b ob q _ => ⟨ob, k b ob q⟩, fun _ _ q => q, fun _ _ _ q => q, fun _ ps q => ⟨#[], by rw [q]; simp⟩⟩
theorem Un.refl : Un fs ex H H h h := Un.kept fun _ _ q => q
theorem Un.laid (k : ∀ b u, h.get? b = some u → h'.get? b = some u) (hp : h.objs.size ≤ a) (hn : H a = none) : Un fs ex H (upd H a o) h h' where
  keep := fun b u q _ _ _ => k b u q
  slot := fun b u q _ _ _ => ⟨u.slots, k b u q⟩
  free := fun b u q n _ => by rw [upd_ne (Nat.ne_of_lt (Nat.lt_of_lt_of_le (Heap.lt_size q) hp))]; exact n
  there := fun b u q _ => ⟨u, k b u q⟩
  tups := fun b xs q => by rw [upd_ne (ne_of_none q hn)]; exact q
  frzs := fun b u xs q => by rw [upd_ne (ne_of_none q hn)]; exact q
  tbls := fun b ps q => ⟨#[], by rw [upd_ne (ne_of_none q hn), q]; simp⟩
theorem Un.write (mu : Mut (H x)) (he : e = x ∨ H e = some (.own x)) (k : ∀ b u, b ≠ e → h.get? b = some u → h'.get? b = some u) (heo : ∃ u, h'.get? e = some u) : Un fs ex H (upd H x o) h h' := by
  have hx : ∀ b, H b = none → b ≠ x := fun b n z => by subst z; rw [n] at mu; exact mu
  have hb : ∀ b, H b = none → b ≠ e := fun b n z => by
    subst z
    rcases he with r | r
    · exact hx b n r
    · rw [n] at r; cases r
  have hm : ∀ b u, H b = some u → ¬ Mut (some u) → b ≠ x := fun b u q nm z => by subst z; rw [q] at mu; exact nm mu
  refine ⟨fun b u q n _ _ => k b u (hb b n) q, fun b u q n _ _ => ⟨u.slots, k b u (hb b n) q⟩, fun b u q n _ => by rw [upd_ne (hx b n)]; exact n, fun b u q _ => ?_,
    fun b xs q => by rw [upd_ne (hm b _ q fun z => z)]; exact q, fun b u xs q => by rw [upd_ne (hm b _ q fun z => z)]; exact q, fun b ps q => ⟨#[], by rw [upd_ne (hm b _ q fun z => z), q]; simp⟩⟩
  by_cases hbe : b = e
  · subst hbe; exact heo
  · exact ⟨u, k b u hbe q⟩
theorem Un.mono (u : Un fs ex H H1 h h1) (hs : ∀ b ∈ fs, b ∈ fs') (hx : ∀ b ∈ ex, b ∈ ex') : Un fs' ex' H H1 h h1 :=
  ⟨fun b ob q n hb he => u.keep b ob q n (fun z => hb (hs b z)) fun z => he (hx b z), fun _ _ q n _ he => u.any q n fun z => he (hx _ z), fun b ob q n he => u.free b ob q n fun z => he (hx b z), fun b ob q he => u.there b ob q fun z => he (hx b z), u.tups, u.frzs, u.tbls⟩
end

/-! ### the heap without what is tracked -/
noncomputable def trk (h : Heap) (H : Hp) : List Addr := (List.range h.objs.size).filter fun a => (H a).isSome
noncomputable def hidT (h : Heap) (H : Hp) : Heap := PySem.W.hideAll h (trk h H)
theorem hidT_size (h : Heap) (H : Hp) : (hidT h H).objs.size = h.objs.size := PySem.W.hideAll_size _ _
theorem hidT_get {h : Heap} {H : Hp} {b : Addr} {o : Obj} (e : h.get? b = some o) (n : H b = none) : (hidT h H).get? b = some o :=
  PySem.W.hideAll_get _ e fun hm => by
    have q : (H b).isSome = true := (List.mem_filter.mp hm).2
    rw [n] at q; simp at q
theorem of_hidT {h : Heap} {H : Hp} {b : Addr} {o : Obj} (e : (hidT h H).get? b = some o) : h.get? b = some o ∧ H b = none := by
  have e' : h.get? b = some o := PySem.W.of_hideAll (trk h H) e
  refine ⟨e', ?_⟩
  cases q : H b with
  | none => rfl
  | some x =>
    have hm : b ∈ trk h H := List.mem_filter.mpr ⟨List.mem_range.mpr (Heap.lt_size e'), by simp [q]⟩
    have z : (hidT h H).get? b = none := PySem.W.hideAll_none (trk h H) hm
    rw [z] at e; cases e

/-! ### OpenK's ledger, filled with every new object but one -/
noncomputable def allNews (g h : Heap) (L : Addr) : List (Addr × Obj) := (List.range h.objs.size).filterMap fun a => if a = L ∨ (g.get? a).isSome = true then none else (h.get? a).map fun o => (a, o)
noncomputable def rest (g h : Heap) (L d : Addr) : List (Addr × Obj) := (allNews g h L).filter fun p => decide (p.1 ≠ d)
end L2

namespace L2
open PySem PySem.Spec PyProof.Rows

/-- the module's facts, over the base: the heap at the law's entry without what is tracked there -/
structure Mod (K : PySem.W.Frag) (mg : Str → Option Value) (base : Heap) : Prop where
  kin : K.In base
  glob : base.Ns mainGlobals mg
  blt : ∃ mb, base.Ns builtinsNs mb ∧ ∀ x : Str, x ≠ "__name__" → mb x = bootBuiltins x
  nolimit : base.NoLimit

/-- the context: a def's body (or a comprehension's block) running. base: fixed through the whole law; s₀, H₀: the entry; outer: the frames whose slots others may change (a def's callers); stack: all frames that run;
   ex: iterators that were made ahead of the entry and are walked here (a comprehension's); fn: the names whose cells were made at the entry (a def: all; a comprehension's block: its own); calm: not within an except suite; pn: pins that every state bears; xe: what is wanted of an exception that leaves the code -/
structure Cx where
  prog : Program
  w : World
  K : PySem.W.Frag
  mg : Str → Option Value
  base : Heap
  A : Around
  N : List Str
  s₀ : Shared
  H₀ : Hp
  env : Env
  outer : List Env
  stack : List Env
  ex : List Addr
  fn : Str → Bool
  calm : Bool
  pn : List (Addr × Obj)
  xe : Value → Shared → Prop
/-- the callers' frames -/
noncomputable def frs (l : List Env) : List Addr := l.filterMap (·.frame)
noncomputable abbrev Cx.fs (X : Cx) : List Addr := frs X.outer

noncomputable def Vis (sc : Scope) (x : Str) : Prop := sc.names.lookup x = some .local ∨ sc.names.lookup x = some .cell ∨ sc.names.lookup x = some .free
noncomputable def Loc (sc : Scope) (x : Str) : Prop := sc.names.lookup x = some .local ∨ sc.names.lookup x = some .cell
noncomputable def Look (env : Env) (h : Heap) (m : Str → Option Value) (x : Str) (u : Value) : Prop :=
  (env.kindOf x = some .local ∧ m x = some u) ∨ ((env.kindOf x = some .cell ∨ env.kindOf x = some .free) ∧ ∃ c, env.cells.lookup x = some c ∧ h.IsCell c (some u))

structure Cx.Ok (X : Cx) : Prop where
  mod : Mod X.K X.mg X.base
  kind : X.env.scope.kind = .function
  glob : X.env.globals = mainGlobals
  blt : X.env.builtins = builtinsNs
  above : X.s₀.heap.objs.size ≤ X.env.locals
  inj : ∀ x y c, X.env.cells.lookup x = some c → X.env.cells.lookup y = some c → x = y
  has : ∀ x, (X.env.kindOf x = some .cell ∨ X.env.kindOf x = some .free) → ∃ c, X.env.cells.lookup x = some c
  cab : ∀ x c, X.fn x = true → X.env.cells.lookup x = some c → X.s₀.heap.objs.size ≤ c
  hd : X.calm = true → X.A.handled = none
  frames : X.A.frames = some X.stack
  stk : X.stack = X.outer ∨ (X.stack = X.env :: X.outer ∧ X.env.frame = some X.env.locals)
  exf : ∀ b ∈ X.ex, b ≠ X.env.locals ∧ ∀ x c, X.env.cells.lookup x = some c → c ≠ b
  bs : ∀ b o, X.base.get? b = some o → X.s₀.heap.get? b = some o ∧ X.H₀ b = none
  bsz : X.base.objs.size ≤ X.s₀.heap.objs.size
  noex : ∀ b o, X.base.get? b = some o → b ∉ X.ex
  exfs : ∀ b ∈ X.ex, b ∉ X.fs
  funs : X.s₀.heap.FunFrames X.base X.outer
  frf : ∀ b ∈ X.fs, X.H₀ b = none

structure Inv (X : Cx) (pins : List (Addr × Obj)) (σ : List (Option V)) (H : Hp) (s : Shared) : Prop where
  ok : X.Ok
  os : s.os = X.s₀.os
  bare : AllBare s.gens
  base : Un X.fs X.ex X.H₀ H X.s₀.heap s.heap
  loc : ∃ m, s.heap.Ns X.env.locals m ∧ ∀ (i : Nat) (x : Str) (v : V), X.N[i]? = some x → σ[i]? = some (some v) → Vis X.env.scope x → ∃ u, RelV v u ∧ Look X.env s.heap m x u
  cell : ∀ x c, X.env.cells.lookup x = some c → ∃ v, s.heap.IsCell c v
  free : H X.env.locals = none
  freeC : ∀ x c, X.env.cells.lookup x = some c → H c = none
  pin : ∀ p ∈ X.pn ++ pins, s.heap.get? p.1 = some p.2 ∧ H p.1 = none ∧ p.1 ≠ X.env.locals ∧ p.1 ∉ X.fs ∧ ∀ v, p.2.data ≠ .cell v
  hok : HOk X.prog X.w H s.heap
  len : σ.length = X.N.length

section
variable {X : Cx} {pins : List (Addr × Obj)} {σ : List (Option V)} {H H' : Hp} {s : Shared} {h' : Heap}

theorem Cx.Ok.nofr (ok : X.Ok) {b : Addr} {o : Obj} (e : X.base.get? b = some o) : b ∉ X.fs := fun hb => by
  have := (ok.funs.mem hb).1
  rw [e] at this; cases this
theorem Inv.bs (I : Inv X pins σ H s) : ∀ b o, X.base.get? b = some o → s.heap.get? b = some o ∧ H b = none := fun b o e =>
  ⟨I.base.keep b o (I.ok.bs b o e).1 (I.ok.bs b o e).2 (I.ok.nofr e) (I.ok.noex b o e), I.base.free b o (I.ok.bs b o e).1 (I.ok.bs b o e).2 (I.ok.noex b o e)⟩
theorem Inv.bk (I : Inv X pins σ H s) : ∀ b o, X.base.get? b = some o → s.heap.get? b = some o := fun b o e => (I.bs b o e).1
theorem Inv.mod (I : Inv X pins σ H s) : Mod X.K X.mg X.base := I.ok.mod
theorem Inv.kIn (I : Inv X pins σ H s) : X.K.In s.heap := I.ok.mod.kin.keeps I.bk
/-- the frame over the base: for OpenK's rules (K.In X.base is I.mod.kin) -/
theorem Inv.lt (I : Inv X pins σ H s) : X.env.locals < s.heap.objs.size := let ⟨_, hn, _⟩ := I.loc; hn.lt
theorem Inv.sz (I : Inv X pins σ H s) : X.s₀.heap.objs.size ≤ s.heap.objs.size := Nat.le_trans I.ok.above (Nat.le_of_lt I.lt)
theorem Inv.nofs (I : Inv X pins σ H s) {a : Addr} (h : s.heap.objs.size ≤ a) : a ∉ X.fs := fun hb => by
  obtain ⟨_, o, ho, _⟩ := I.ok.funs.mem hb
  exact absurd (Nat.lt_of_lt_of_le (Heap.lt_size ho) (Nat.le_trans I.sz h)) (Nat.lt_irrefl _)
theorem Inv.cne (I : Inv X pins σ H s) : ∀ x c, X.env.cells.lookup x = some c → c ≠ X.env.locals := fun x c e z => by
  obtain ⟨v, o, ho, hd⟩ := I.cell x c e
  obtain ⟨m, ⟨o', es, ep, ho', hd', _⟩, _⟩ := I.loc
  rw [z, ho'] at ho; cases ho; rw [hd'] at hd; cases hd
theorem Inv.funs (I : Inv X pins σ H s) : s.heap.FunFrames X.base X.outer := by
  have all : ∀ (l : List Env), (∀ b ∈ frs l, b ∈ X.fs) → X.s₀.heap.FunFrames X.base l → s.heap.FunFrames X.base l := by
    intro l
    induction l with
    | nil => intro _ _; trivial
    | cons env r ih =>
      intro hs hl
      obtain ⟨hk, ⟨L, o, hf, hn, ho, hd⟩, hr⟩ := hl
      have hL : L ∈ X.fs := hs L (by unfold frs; rw [List.filterMap_cons, hf]; exact List.mem_cons_self)
      obtain ⟨sl, e⟩ := I.base.slot L o ho (I.ok.frf L hL) hL fun z => I.ok.exfs L z hL
      exact ⟨hk, ⟨L, _, hf, hn, e, hd⟩, ih (fun b hb => hs b (by unfold frs; rw [List.filterMap_cons, hf]; exact List.mem_cons_of_mem _ hb)) hr⟩
  exact all X.outer (fun _ hb => hb) I.ok.funs

/-- the frames that run, for a call -/
theorem Inv.stack (I : Inv X pins σ H s) : s.heap.FunFrames X.base X.stack := by
  rcases I.ok.stk with e | ⟨e, hf⟩
  · rw [e]; exact I.funs
  · rw [e]
    obtain ⟨m, hn, _⟩ := I.loc
    refine .cons (by rw [I.ok.kind]; decide) hf hn ?_ I.funs
    exact Heap.get?_none_of_le (Nat.le_trans I.ok.bsz I.ok.above)
theorem Inv.stkSub (I : Inv X pins σ H s) : ∀ b ∈ frs X.stack, b ∈ X.env.locals :: X.fs := fun b hb => by
  rcases I.ok.stk with e | ⟨e, hf⟩
  · rw [e] at hb; exact List.mem_cons_of_mem _ hb
  · rw [e] at hb
    unfold frs at hb
    rw [List.filterMap_cons, hf] at hb
    exact hb
theorem Inv.stkFree (I : Inv X pins σ H s) : ∀ b ∈ frs X.stack, H b = none := fun b hb => by
  rcases List.mem_cons.mp (I.stkSub b hb) with e | hb
  · rw [e]; exact I.free
  · obtain ⟨_, o, ho, _⟩ := I.ok.funs.mem hb
    exact I.base.free b o ho (I.ok.frf b hb) fun z => I.ok.exfs b z hb

/-- THE STEP: the untracked objects but the frame and the records at ch are kept (the callers' frames up to slots), the frame's map is kept, the new abstract heap is held -/
theorem Inv.step {g' : Array GenState} {t' : Nat} {d' : Drawn} {ch : List Addr} (I : Inv X pins σ H s)
    (hch : ∀ b ∈ ch, (b ∈ X.ex ∨ X.s₀.heap.objs.size ≤ b) ∧ b ≠ X.env.locals ∧ (∀ x c, X.env.cells.lookup x = some c → c ≠ b) ∧ ∀ p ∈ X.pn ++ pins, p.1 ≠ b)
    (keep : ∀ b o, b ≠ X.env.locals → b ∉ X.fs → b ∉ ch → s.heap.get? b = some o → H b = none → h'.get? b = some o)
    (slot : ∀ b o, b ≠ X.env.locals → b ∈ X.fs → b ∉ ch → s.heap.get? b = some o → H b = none → ∃ sl, h'.get? b = some { o with slots := sl }) (free : ∀ b o, b ∉ ch → s.heap.get? b = some o → H b = none → H' b = none)
    (there : ∀ b o, b ∉ ch → s.heap.get? b = some o → ∃ o', h'.get? b = some o')
    (tups : ∀ b xs, H b = some (.tup xs) → H' b = some (.tup xs)) (frzs : ∀ b o u, H b = some (.frz o u) → H' b = some (.frz o u)) (tbls : ∀ b ps, H b = some (.tbl ps) → ∃ more, H' b = some (.tbl (ps ++ more)))
    (ns : ∀ m, s.heap.Ns X.env.locals m → h'.Ns X.env.locals m) (hok : HOk X.prog X.w H' h') (hg : AllBare g') :
    Inv X pins σ H' { s with heap := h', gens := g', drawn := d', toks := t' } := by
  have neL : ∀ b o, X.s₀.heap.get? b = some o → b ≠ X.env.locals := fun b o e => Nat.ne_of_lt (Nat.lt_of_lt_of_le (Heap.lt_size e) I.ok.above)
  have neC : ∀ b o, X.s₀.heap.get? b = some o → b ∉ X.ex → b ∉ ch := fun b o e hx hb => by
    rcases (hch b hb).1 with z | z
    · exact hx z
    · exact absurd (Nat.lt_of_lt_of_le (Heap.lt_size e) z) (Nat.lt_irrefl _)
  have cellK : ∀ x c, X.env.cells.lookup x = some c → ∀ v, s.heap.IsCell c v → h'.IsCell c v := fun x c e v ⟨o, ho, hd⟩ => by
    have nch : c ∉ ch := fun z => (hch c z).2.2.1 x c e rfl
    by_cases hc : c ∈ X.fs
    · obtain ⟨sl, q⟩ := slot c o (I.cne x c e) hc nch ho (I.freeC x c e)
      exact ⟨_, q, hd⟩
    · exact ⟨o, keep c o (I.cne x c e) hc nch ho (I.freeC x c e), hd⟩
  refine ⟨I.ok, I.os, hg, ⟨fun b o e n hb hx => ?_, fun b o e n hb hx => ?_, fun b o e n hx => ?_, fun b o e hx => ?_, fun b xs e => tups b xs (I.base.tups b xs e), fun b o xs e => frzs b o xs (I.base.frzs b o xs e), fun b ps e => ?_⟩, ?_, fun x c e => ?_, ?_, fun x c e => ?_, fun p hp => ?_, hok, I.len⟩
  · exact keep b o (neL b o e) hb (neC b o e hx) (I.base.keep b o e n hb hx) (I.base.free b o e n hx)
  · obtain ⟨sl, e1⟩ := I.base.slot b o e n hb hx
    obtain ⟨sl', e2⟩ := slot b _ (neL b o e) hb (neC b o e hx) e1 (I.base.free b o e n hx)
    exact ⟨sl', e2⟩
  · obtain ⟨o', e1⟩ := I.base.there b o e hx
    exact free b o' (neC b o e hx) e1 (I.base.free b o e n hx)
  · obtain ⟨o', e1⟩ := I.base.there b o e hx
    exact there b o' (neC b o e hx) e1
  · obtain ⟨m1, e1⟩ := I.base.tbls b ps e
    obtain ⟨m2, e2⟩ := tbls b _ e1
    exact ⟨m1 ++ m2, by rw [e2, Array.append_assoc]⟩
  · obtain ⟨m, hn, hl⟩ := I.loc
    refine ⟨m, ns m hn, fun i x v e1 e2 e3 => ?_⟩
    obtain ⟨u, r, l⟩ := hl i x v e1 e2 e3
    refine ⟨u, r, ?_⟩
    rcases l with l | ⟨k, c, e, z⟩
    · exact .inl l
    · exact .inr ⟨k, c, e, cellK x c e _ z⟩
  · obtain ⟨v, z⟩ := I.cell x c e
    exact ⟨v, cellK x c e v z⟩
  · obtain ⟨m, ⟨o, _, _, ho, _⟩, _⟩ := I.loc
    exact free _ o (fun z => (hch _ z).2.1 rfl) ho I.free
  · obtain ⟨v, o, ho, hd⟩ := I.cell x c e
    exact free c o (fun z => (hch c z).2.2.1 x c e rfl) ho (I.freeC x c e)
  · obtain ⟨e, n, ne, nf, d⟩ := I.pin p hp
    have nch : p.1 ∉ ch := fun z => (hch p.1 z).2.2.2 p hp rfl
    exact ⟨keep p.1 p.2 ne nf nch e n, free p.1 p.2 nch e n, ne, nf, d⟩
/-- .. where the frame's own object is kept too -/
theorem Inv.un {t' : Nat} (I : Inv X pins σ H s) (u : Un X.fs [] H H' s.heap h') (hok : HOk X.prog X.w H' h') : Inv X pins σ H' { s with heap := h', toks := t' } := by
  obtain ⟨m, ⟨o, es, ep, ho, r⟩, _⟩ := id I.loc
  obtain ⟨sl, hL⟩ := u.any ho I.free (by simp)
  exact I.step (g' := s.gens) (d' := s.drawn) (ch := []) (fun _ z => nomatch z) (fun b o _ hb _ e n => u.keep b o e n hb (by simp)) (fun b o _ hb _ e n => u.slot b o e n hb (by simp)) (fun b o _ e n => u.free b o e n (by simp)) (fun b o _ e => u.there b o e (by simp)) u.tups u.frzs u.tbls (fun m' hm => by
    obtain ⟨o', es', ep', ho', r'⟩ := hm
    rw [ho] at ho'; cases ho'
    exact ⟨_, es', ep', hL, r'⟩) hok I.bare
/-- behind a call (or a comprehension's block): the slots of this frame may have changed too, the records at ch may have turned -/
theorem Inv.call {g' : Array GenState} {t' : Nat} {d' : Drawn} {ch : List Addr} (I : Inv X pins σ H s) (u : Un (frs X.stack) ch H H' s.heap h') (hok : HOk X.prog X.w H' h') (hg : AllBare g')
    (hch : ∀ b ∈ ch, (b ∈ X.ex ∨ X.s₀.heap.objs.size ≤ b) ∧ b ≠ X.env.locals ∧ (∀ x c, X.env.cells.lookup x = some c → c ≠ b) ∧ ∀ p ∈ X.pn ++ pins, p.1 ≠ b) :
    Inv X pins σ H' { s with heap := h', gens := g', drawn := d', toks := t' } := by
  obtain ⟨m, ⟨o, es, ep, ho, r⟩, _⟩ := id I.loc
  obtain ⟨sl, hL⟩ := u.any ho I.free fun z => (hch _ z).2.1 rfl
  exact I.step (ch := ch) hch (fun b o hL hb hc e n => u.keep b o e n (fun z => (List.mem_cons.mp (I.stkSub b z)).elim hL hb) hc) (fun b o _ _ hc e n => u.any e n hc) (fun b o hc e n => u.free b o e n hc) (fun b o hc e => u.there b o e hc) u.tups u.frzs u.tbls (fun m' hm => by
    obtain ⟨o', es', ep', ho', r'⟩ := hm
    rw [ho] at ho'; cases ho'
    exact ⟨_, es', ep', hL, r'⟩) hok hg
/-- an untracked record of ours (an iterator) has turned -/
theorem Inv.turned {t' : Nat} {it : Addr} (I : Inv X pins σ H s) (k : ∀ b o, b ≠ it → s.heap.get? b = some o → h'.get? b = some o) (hn : H it = none) (hL : it ≠ X.env.locals)
    (h1 : it ∈ X.ex ∨ X.s₀.heap.objs.size ≤ it) (h2 : ∀ x c, X.env.cells.lookup x = some c → c ≠ it) (h3 : ∀ p ∈ X.pn ++ pins, p.1 ≠ it) : Inv X pins σ H { s with heap := h', toks := t' } := by
  have nit : ∀ b u, H b = some u → b ≠ it := fun b u e z => by rw [z, hn] at e; cases e
  refine I.step (g' := s.gens) (d' := s.drawn) (ch := [it]) (fun b hb => ?_) (fun b o _ _ hc e _ => k b o (fun z => hc (by simp [z])) e) (fun b o _ _ hc e _ => ⟨o.slots, k b o (fun z => hc (by simp [z])) e⟩) (fun _ _ _ _ n => n)
    (fun b o hc e => ⟨o, k b o (fun z => hc (by simp [z])) e⟩) (fun _ _ e => e) (fun _ _ _ e => e) (fun b ps e => ⟨#[], by rw [e]; simp⟩) (fun m hm => ?_) (fun b u e => ?_) I.bare
  · have e : b = it := by simpa using hb
    subst e
    exact ⟨h1, hL, h2, h3⟩
  · obtain ⟨o, es, ep, ho, r⟩ := hm
    exact ⟨o, es, ep, k _ o (Ne.symm hL) ho, r⟩
  · refine (I.hok b u e).stay (fun c v hc q => k c v ?_ q) (fun _ q => q) fun _ _ q => q
    rcases hc with z | z
    · rw [z]; exact nit b u e
    · exact nit c _ z
theorem Inv.tok (I : Inv X pins σ H s) (t : Nat) : Inv X pins σ H { s with toks := t } := I.un (h' := s.heap) (t' := t) Un.refl I.hok
/-- all objects kept -/
theorem Inv.kept {t' : Nat} (I : Inv X pins σ H s) (k : ∀ b u, s.heap.get? b = some u → h'.get? b = some u) : Inv X pins σ H { s with heap := h', toks := t' } := I.un (Un.kept k) (I.hok.kept k)
/-- a new object laid and tracked -/
theorem Inv.laid {a : Addr} {o : HO} {t' : Nat} (I : Inv X pins σ H s) (k : ∀ b u, s.heap.get? b = some u → h'.get? b = some u) (hp : s.heap.objs.size ≤ a) (new : ObjOk X.prog X.w (upd H a o) h' a o) :
    Inv X pins σ (upd H a o) { s with heap := h', toks := t' } := I.un (Un.laid k hp (I.hok.fresh hp)) (I.hok.laid k hp new)
/-- an object written -/
theorem Inv.write {x e : Addr} {o : HO} {t' : Nat} (I : Inv X pins σ H s) (mu : Mut (H x)) (he : e = x ∨ H e = some (.own x)) (k : ∀ b u, b ≠ e → s.heap.get? b = some u → h'.get? b = some u) (heo : ∃ u, h'.get? e = some u)
    (new : ObjOk X.prog X.w (upd H x o) h' x o) : Inv X pins σ (upd H x o) { s with heap := h', toks := t' } := I.un (Un.write mu he k heo) (I.hok.write mu he k heo new)
/-- forgetting slots, pins -/
theorem Inv.pins_of {pins' : List (Addr × Obj)} (I : Inv X pins σ H s) (h : ∀ p ∈ pins', s.heap.get? p.1 = some p.2 ∧ H p.1 = none ∧ p.1 ≠ X.env.locals ∧ p.1 ∉ X.fs ∧ ∀ v, p.2.data ≠ .cell v) : Inv X pins' σ H s :=
  ⟨I.ok, I.os, I.bare, I.base, I.loc, I.cell, I.free, I.freeC, fun p hp => (List.mem_append.mp hp).elim (fun z => I.pin p (List.mem_append_left _ z)) (h p), I.hok, I.len⟩

theorem nodup_ix {N : List Str} (hN : N.Nodup) {i j : Nat} {x : Str} (a : N[i]? = some x) (b : N[j]? = some x) : i = j := by
  obtain ⟨h1, e1⟩ := List.getElem?_eq_some_iff.mp a
  obtain ⟨h2, e2⟩ := List.getElem?_eq_some_iff.mp b
  exact (List.getElem_inj hN).mp (e1.trans e2.symm)

/-- a name is stored; what changed -/
theorem store_ok2 {M : Model} {A : Around} {E : Value → Shared → Prop} {i : Nat} {x : Str} {v : V} {u : Value} {Q : Unit → Shared → Prop} (I : Inv X pins σ H s) (hN : X.N.Nodup) (hi : X.N[i]? = some x) (hx : Loc X.env.scope x) (r : RelV v u)
    (h : ∀ s', Inv X pins (σ.set i (some v)) H s' → (∃ a, Heap.SameBut a s.heap s'.heap ∧ (a = X.env.locals ∨ X.env.cells.lookup x = some a)) → Q () s') (hf : X.fn x = true ∨ X.env.scope.names.lookup x = some .local := by first | exact .inl rfl | exact .inr rfl | assumption) : wpAny M A (storeName X.env x u) Q E s := by
  obtain ⟨m, hn, hl⟩ := id I.loc
  have hcls : (X.env.scope.kind == .class || (X.env.scope.kind == .module && X.env.locals != X.env.globals)) = false := by rw [I.ok.kind]; rfl
  have hiσ : i < σ.length := by rw [I.len]; exact (List.getElem?_eq_some_iff.mp hi).1
  have cne := I.cne
  have tracked : ∀ {a : Addr} {h' : Heap}, (∃ o, s.heap.get? a = some o ∧ H a = none) → Heap.SameBut a s.heap h' → HOk X.prog X.w H h' := fun {a h'} ha hs b ob e => by
    obtain ⟨_, _, hfree⟩ := ha
    refine (I.hok b ob e).stay (fun c w' hc q => (hs.2 c ?_).trans q) (fun _ q => q) fun _ _ q => q
    rintro rfl
    rcases hc with rfl | hc
    · rw [hfree] at e; cases e
    · rw [hfree] at hc; cases hc
  rcases hx with hk | hk
  · refine wpAny_storeName_local hk hn (fun h' hn' hs => ?_) hcls
    obtain ⟨oL, _, _, hoL, _⟩ := id hn
    refine h _ ⟨I.ok, I.os, I.bare, ⟨fun b o e n hb hx => ?_, fun b o e n hb hx => ?_, I.base.free, fun b o e hx => ?_, I.base.tups, I.base.frzs, I.base.tbls⟩, ⟨_, hn', fun j y v' e1 e2 e3 => ?_⟩, fun y c e => ?_, I.free, I.freeC, fun p hp => ?_, tracked ⟨oL, hoL, I.free⟩ hs, by simpa using I.len⟩ ⟨_, hs, .inl rfl⟩
    · exact (hs.2 b (Nat.ne_of_lt (Nat.lt_of_lt_of_le (Heap.lt_size e) I.ok.above))).trans (I.base.keep b o e n hb hx)
    · obtain ⟨sl, e1⟩ := I.base.slot b o e n hb hx
      exact ⟨sl, (hs.2 b (Nat.ne_of_lt (Nat.lt_of_lt_of_le (Heap.lt_size e) I.ok.above))).trans e1⟩
    · obtain ⟨o', e1⟩ := I.base.there b o e hx
      exact ⟨o', (hs.2 b (Nat.ne_of_lt (Nat.lt_of_lt_of_le (Heap.lt_size e) I.ok.above))).trans e1⟩
    · by_cases hj : j = i
      · subst hj
        rw [hi] at e1; cases e1
        rw [List.getElem?_set_self hiσ] at e2
        cases e2
        exact ⟨u, r, .inl ⟨hk, by simp⟩⟩
      · rw [List.getElem?_set_ne (Ne.symm hj)] at e2
        obtain ⟨u', r', q⟩ := hl j y v' e1 e2 e3
        refine ⟨u', r', ?_⟩
        rcases q with ⟨k, e⟩ | ⟨k, c, e, z⟩
        · refine .inl ⟨k, ?_⟩
          have : y ≠ x := fun e => hj (nodup_ix hN e1 (e ▸ hi))
          simp [this, e]
        · exact .inr ⟨k, c, e, z.sameBut hs (cne y c e)⟩
    · obtain ⟨w', z⟩ := I.cell y c e
      exact ⟨w', z.sameBut hs (cne y c e)⟩
    · obtain ⟨e, n, ne, nf, d⟩ := I.pin p hp
      exact ⟨(hs.2 p.1 ne).trans e, n, ne, nf, d⟩
  · have hfn : X.fn x = true := by
      rcases hf with z | z
      · exact z
      · rw [z] at hk; cases hk
    obtain ⟨c, hc⟩ := I.ok.has x (.inl hk)
    obtain ⟨w', z⟩ := I.cell x c hc
    refine wpAny_storeName_cell I.ok.kind hk hc z (fun h' hc' hs => ?_)
    obtain ⟨oc, hoc, hocd⟩ := id z
    refine h { s with heap := h' } ⟨I.ok, I.os, I.bare, ⟨fun b o e n hb hx => ?_, fun b o e n hb hx => ?_, I.base.free, fun b o e hx => ?_, I.base.tups, I.base.frzs, I.base.tbls⟩, ⟨m, hn.sameBut hs (Ne.symm (cne x c hc)), fun j y v' e1 e2 e3 => ?_⟩, fun y c' e => ?_, I.free, I.freeC, fun p hp => ?_, tracked ⟨oc, hoc, I.freeC x c hc⟩ hs, by simpa using I.len⟩ ⟨c, hs, .inr hc⟩
    · exact (hs.2 b (Nat.ne_of_lt (Nat.lt_of_lt_of_le (Heap.lt_size e) (I.ok.cab x c hfn hc)))).trans (I.base.keep b o e n hb hx)
    · obtain ⟨sl, e1⟩ := I.base.slot b o e n hb hx
      exact ⟨sl, (hs.2 b (Nat.ne_of_lt (Nat.lt_of_lt_of_le (Heap.lt_size e) (I.ok.cab x c hfn hc)))).trans e1⟩
    · obtain ⟨o', e1⟩ := I.base.there b o e hx
      exact ⟨o', (hs.2 b (Nat.ne_of_lt (Nat.lt_of_lt_of_le (Heap.lt_size e) (I.ok.cab x c hfn hc)))).trans e1⟩
    · by_cases hj : j = i
      · subst hj
        rw [hi] at e1; cases e1
        rw [List.getElem?_set_self hiσ] at e2
        cases e2
        exact ⟨u, r, .inr ⟨.inl hk, c, hc, hc'⟩⟩
      · rw [List.getElem?_set_ne (Ne.symm hj)] at e2
        obtain ⟨u', r', q⟩ := hl j y v' e1 e2 e3
        refine ⟨u', r', ?_⟩
        rcases q with q | ⟨k, c', e, z'⟩
        · exact .inl q
        · refine .inr ⟨k, c', e, z'.sameBut hs ?_⟩
          rintro rfl
          exact hj (nodup_ix hN e1 (I.ok.inj _ _ _ e hc ▸ hi))
    · by_cases hcc : c' = c
      · subst hcc; exact ⟨_, hc'⟩
      · obtain ⟨w2, z2⟩ := I.cell y c' e
        exact ⟨w2, z2.sameBut hs hcc⟩
    · obtain ⟨e, n, ne, nf, d⟩ := I.pin p hp
      refine ⟨(hs.2 p.1 ?_).trans e, n, ne, nf, d⟩
      intro q
      rw [q, hoc] at e
      have q' : oc = p.2 := Option.some.inj e
      exact d w' (by rw [← q']; exact hocd)
theorem store_ok {M : Model} {A : Around} {E : Value → Shared → Prop} {i : Nat} {x : Str} {v : V} {u : Value} {Q : Unit → Shared → Prop} (I : Inv X pins σ H s) (hN : X.N.Nodup) (hi : X.N[i]? = some x) (hx : Loc X.env.scope x) (r : RelV v u)
    (h : ∀ s', Inv X pins (σ.set i (some v)) H s' → Q () s') (hf : X.fn x = true ∨ X.env.scope.names.lookup x = some .local := by first | exact .inl rfl | exact .inr rfl | assumption) : wpAny M A (storeName X.env x u) Q E s :=
  store_ok2 I hN hi hx r (fun s' I' _ => h s' I') hf
/-- behind a call or a block, the state as it is -/
theorem Inv.call' {s' : Shared} {ch : List Addr} (I : Inv X pins σ H s) (ho : s'.os = s.os) (u : Un (frs X.stack) ch H H' s.heap s'.heap) (hok : HOk X.prog X.w H' s'.heap) (hg : AllBare s'.gens)
    (hch : ∀ b ∈ ch, (b ∈ X.ex ∨ X.s₀.heap.objs.size ≤ b) ∧ b ≠ X.env.locals ∧ (∀ x c, X.env.cells.lookup x = some c → c ≠ b) ∧ ∀ p ∈ X.pn ++ pins, p.1 ≠ b) : Inv X pins σ H' s' := by
  obtain ⟨h', g', d', t', o'⟩ := s'
  have e : o' = s.os := ho
  subst e
  exact I.call (g' := g') (t' := t') (d' := d') u hok hg hch
end

/-! ### the judgements -/
/-- an exception: its class, its own dict's address (where it has one), the abstract heap behind it -/
noncomputable abbrev XK := Value → Option Addr → Hp → Prop
noncomputable abbrev St := List (Option V)
noncomputable abbrev VK := V → Hp → Prop
/-- an expression's reading; a test's; an argument list's -/
noncomputable abbrev TE := St → Hp → VK → Prop
noncomputable abbrev TT := St → Hp → (Bool → Hp → Prop) → Prop
noncomputable abbrev TA := St → Hp → (List V → Hp → Prop) → Prop
/-- what is wanted behind a statement -/
structure Ends where
  nx : St → Hp → Prop
  rt : VK
  bk : St → Hp → Prop := fun _ _ => False
  ct : St → Hp → Prop := fun _ _ => False
noncomputable abbrev TS := Ends → St → Hp → Prop

noncomputable def EP (X : Cx) (pins : List (Addr × Obj)) (σ : St) (Q : VK) (u : Value) (s' : Shared) : Prop := ∃ v H', Inv X pins σ H' s' ∧ RelV v u ∧ Q v H'
noncomputable def TP (X : Cx) (pins : List (Addr × Obj)) (σ : St) (Q : Bool → Hp → Prop) (b : Bool) (s' : Shared) : Prop := ∃ H', Inv X pins σ H' s' ∧ Q b H'
noncomputable def AP (X : Cx) (pins : List (Addr × Obj)) (σ : St) (Q : List V → Hp → Prop) (us : List Value) (s' : Shared) : Prop := ∃ vs H', Inv X pins σ H' s' ∧ Vals vs us ∧ Q vs H'
noncomputable def SP (X : Cx) (pins : List (Addr × Obj)) (D : Ends) (f : Flow) (s' : Shared) : Prop :=
  match f with
  | .next => ∃ σ' H', Inv X pins σ' H' s' ∧ D.nx σ' H'
  | .brk => ∃ σ' H', Inv X pins σ' H' s' ∧ D.bk σ' H'
  | .cont => ∃ σ' H', Inv X pins σ' H' s' ∧ D.ct σ' H'
  | .ret u => ∃ v σ' H', Inv X pins σ' H' s' ∧ RelV v u ∧ D.rt v H'

noncomputable def PE (X : Cx) (e : Expr) (t : TE) : Prop :=
  ∀ (pins : List (Addr × Obj)) (s : Shared) (σ : St) (H : Hp) (Q : VK), Inv X pins σ H s → t σ H Q → wpAny (model X.prog X.w) X.A (eval e X.env) (EP X pins σ Q) X.xe s
noncomputable def PT (X : Cx) (e : Expr) (t : TT) : Prop :=
  ∀ (pins : List (Addr × Obj)) (s : Shared) (σ : St) (H : Hp) (Q : Bool → Hp → Prop), Inv X pins σ H s → t σ H Q → wpAny (model X.prog X.w) X.A (isTrue e X.env (eval e X.env)) (TP X pins σ Q) X.xe s
/-- a test whatever its 'whole' is (and, or) -/
noncomputable def PW (X : Cx) (e : Expr) (t : TT) : Prop :=
  ∀ (whole : Sem Value) (pins : List (Addr × Obj)) (s : Shared) (σ : St) (H : Hp) (Q : Bool → Hp → Prop), Inv X pins σ H s → t σ H Q → wpAny (model X.prog X.w) X.A (isTrue e X.env whole) (TP X pins σ Q) X.xe s
theorem PW.pt {X : Cx} {e : Expr} {t : TT} (h : PW X e t) : PT X e t := h _
/-- an argument list (no star), from the left -/
noncomputable def PA (X : Cx) (es : List Expr) (t : TA) : Prop :=
  ∀ (pos : Pos) (pins : List (Addr × Obj)) (s : Shared) (σ : St) (H : Hp) (Q : List V → Hp → Prop), Inv X pins σ H s → t σ H Q → wpAny (model X.prog X.w) X.A (spliced (backTo pos (starEach es X.env))) (AP X pins σ Q) X.xe s
noncomputable def PS (X : Cx) (st : Stmt) (t : TS) : Prop :=
  ∀ (pins : List (Addr × Obj)) (s : Shared) (σ : St) (H : Hp) (D : Ends), Inv X pins σ H s → t D σ H → wpAny (model X.prog X.w) X.A (exec st X.env) (SP X pins D) X.xe s
noncomputable def PSs (X : Cx) (st : List Stmt) (t : TS) : Prop :=
  ∀ (pins : List (Addr × Obj)) (s : Shared) (σ : St) (H : Hp) (D : Ends), Inv X pins σ H s → t D σ H → wpAny (model X.prog X.w) X.A (execs st X.env) (SP X pins D) X.xe s
/-- weaken the end -/
theorem thn {α : Type} {t : Sem α} {Q Q' : α → Shared → Prop} {M : Model} {A : Around} {E : Value → Shared → Prop} {s : Shared} (h : wpAny M A t Q E s) (hQ : ∀ a s, Q a s → Q' a s) : wpAny M A t Q' E s := wpAny_mono h hQ fun _ _ x => x
end L2

namespace L2
open PySem PySem.Spec PyProof.Rows
section
variable {X : Cx}

/-! ### names and constants -/
noncomputable def tVar (i : Nat) : TE := fun σ H Q => ∃ v, σ[i]? = some (some v) ∧ Q v H
noncomputable def tC (v : V) : TE := fun _ H Q => Q v H
theorem pe_var {i : Nat} {x : Str} {pos : Pos} (hN : X.N[i]? = some x) (hv : Vis X.env.scope x) (hd : (x == ("__debug__" : Str)) = false := by decide) (hcd : (x == ("__classdict__" : Str)) = false := by decide) : PE X (.Name x pos) (tVar i) := by
  intro pins s σ H Q I h
  obtain ⟨v, e, h⟩ := h
  obtain ⟨m, hn, hl⟩ := I.loc
  obtain ⟨u, r, l⟩ := hl i x v hN e hv
  have fin : EP X pins σ Q u s := ⟨v, H, I, r, h⟩
  rcases l with ⟨hk, hm⟩ | ⟨hk, c, hc, hcell⟩
  · exact wpAny_Name (wpAny_loadName_local I.ok.kind hk hn hm fin) hd
  · rcases hk with hk | hk
    · exact wpAny_Name (wpAny_loadName_cell I.ok.kind hk hc hcell fin) hd
    · exact wpAny_Name (wpAny_loadName_free I.ok.kind hk hc hcell fin hcd) hd
theorem pe_int {i j pos} : PE X (.Constant (.int i) j pos) (tC (.int i)) := fun _ _ _ H _ I h => wpAny_Constant_int ⟨.int i, H, I.tok _, ⟨_, rfl⟩, h⟩
theorem pe_bl {b j pos} : PE X (.Constant (.bool b) j pos) (tC (.bl b)) := fun _ _ _ H _ I h => Constant_bool ⟨.bl b, H, I, rfl, h⟩
theorem pe_non {j pos} : PE X (.Constant .none j pos) (tC .non) := fun _ _ _ H _ I h => Constant_none ⟨.non, H, I, rfl, h⟩
theorem pe_str {x j pos} : PE X (.Constant (.str x) j pos) (tC (.str x)) := fun _ _ _ H _ I h => Calls.Constant_str ⟨.str x, H, I.tok _, ⟨_, rfl⟩, h⟩

/-- a global name of the def -/
noncomputable def Gl (X : Cx) (x : Str) : Prop := X.env.kindOf x = some .globalImplicit
theorem ld_glob {E : Value → Shared → Prop} {pins : List (Addr × Obj)} {s : Shared} {σ : St} {H : Hp} {x : Str} {u : Value} {pos : Pos} {Q : Value → Shared → Prop} (I : Inv X pins σ H s) (hg : Gl X x) (hm : X.mg x = some u) (h : Q u s)
    (hd : (x == ("__debug__" : Str)) = false := by decide) : wpAny (model X.prog X.w) X.A (eval (.Name x pos) X.env) Q E s :=
  Calls.Name_function_global I.ok.kind hg (Calls.loadGlobal_global (by rw [I.ok.glob]; exact I.mod.glob.keeps I.bk) hm h) hd
theorem ld_blt {E : Value → Shared → Prop} {pins : List (Addr × Obj)} {s : Shared} {σ : St} {H : Hp} {x : Str} {u : Value} {pos : Pos} {Q : Value → Shared → Prop} (I : Inv X pins σ H s) (hg : Gl X x) (hm : X.mg x = none) (hv : bootBuiltins x = some u) (h : Q u s)
    (hn : x ≠ "__name__" := by decide) (hd : (x == ("__debug__" : Str)) = false := by decide) : wpAny (model X.prog X.w) X.A (eval (.Name x pos) X.env) Q E s := by
  obtain ⟨mb, h1, h2⟩ := I.mod.blt
  exact Calls.Name_function_global I.ok.kind hg (Calls.loadGlobal_builtin (by rw [I.ok.glob]; exact I.mod.glob.keeps I.bk) hm (by rw [I.ok.blt]; exact h1.keeps I.bk) ((h2 x hn).trans hv) h) hd
/-- a module's constant, a class, a function, as a value -/
theorem pe_glob {x : Str} {v : V} {u : Value} {pos : Pos} (hg : Gl X x) (hm : X.mg x = some u) (r : RelV v u) (hd : (x == ("__debug__" : Str)) = false := by decide) : PE X (.Name x pos) (tC v) :=
  fun _ _ _ H _ I h => ld_glob I hg hm ⟨v, H, I, r, h⟩ hd
theorem pe_bltn {x : Str} {v : V} {u : Value} {pos : Pos} (hg : Gl X x) (hm : X.mg x = none) (hv : bootBuiltins x = some u) (r : RelV v u) (hn : x ≠ "__name__" := by decide) (hd : (x == ("__debug__" : Str)) = false := by decide) : PE X (.Name x pos) (tC v) :=
  fun _ _ _ H _ I h => ld_blt I hg hm hv ⟨v, H, I, r, h⟩ hn hd

/-! ### arithmetic -/
variable {a b : Expr} {ta tb : TE} {pos : Pos}
/-! ### comparisons -/
/-- a comparison as a value, as a test -/
noncomputable def tB (t : TE) : TT := fun σ H Q => t σ H fun x H1 => ∃ c, x = .bl c ∧ Q c H1
/-- an expression whose value is a bool, as a test -/
theorem pt_val {e : Expr} {t : TE} (h : PE X e t) (he : ∀ whole, isTrue e X.env whole = (do let v ← whole; standAt e.pos; holding [v] (truthy v)) := by intro _; rfl) : PT X e (tB t) := by
  intro pins s σ H Q I hw
  refine isTrue_plain (thn (h pins s σ H _ I hw) fun v s1 ⟨x, H1, I1, r1, q1⟩ => ?_) (he _)
  obtain ⟨d, rfl, q⟩ := q1
  cases r1
  exact wpAny_truthy_bool ⟨H1, I1, q⟩

/-! ### and, or, not -/
variable {tA tB' : TT} {rest : List Expr}
noncomputable def tAnd (t u : TT) : TT := fun σ H Q => t σ H fun c H1 => if c = true then u σ H1 Q else Q false H1
noncomputable def tOr (t u : TT) : TT := fun σ H Q => t σ H fun c H1 => if c = true then Q true H1 else u σ H1 Q
noncomputable def tNot (t : TT) : TT := fun σ H Q => t σ H fun c H1 => Q (!c) H1
theorem pw_and1 (ha : PT X a tA) : PW X (.BoolOp .And [a] pos) tA := by
  intro wh pins s σ H Q I h
  refine isTrue_and (thn (ha pins s σ H Q I h) fun c s1 e => ?_)
  cases c with
  | true => exact isTrue_and_nil e
  | false => exact e
theorem pw_or1 (ha : PT X a tA) : PW X (.BoolOp .Or [a] pos) tA := by
  intro wh pins s σ H Q I h
  refine isTrue_or (thn (ha pins s σ H Q I h) fun c s1 e => ?_)
  cases c with
  | false => exact isTrue_or_nil e
  | true => exact e
theorem pw_and (ha : PT X a tA) (hb : PW X (.BoolOp .And (b :: rest) pos) tB') : PW X (.BoolOp .And (a :: b :: rest) pos) (tAnd tA tB') := by
  intro wh pins s σ H Q I h
  refine isTrue_and (thn (ha pins s σ H _ I h) fun c s1 ⟨H1, I1, q1⟩ => ?_)
  cases c with
  | true => exact hb wh pins s1 σ H1 Q I1 q1
  | false => exact ⟨H1, I1, q1⟩
theorem pw_or (ha : PT X a tA) (hb : PW X (.BoolOp .Or (b :: rest) pos) tB') : PW X (.BoolOp .Or (a :: b :: rest) pos) (tOr tA tB') := by
  intro wh pins s σ H Q I h
  refine isTrue_or (thn (ha pins s σ H _ I h) fun c s1 ⟨H1, I1, q1⟩ => ?_)
  cases c with
  | true => exact ⟨H1, I1, q1⟩
  | false => exact hb wh pins s1 σ H1 Q I1 q1
theorem pt_not (ha : PT X a tA) : PT X (.UnaryOp .Not a pos) (tNot tA) := by
  intro pins s σ H Q I h
  exact isTrue_not (ha pins s σ H (fun c H1 => Q (!c) H1) I h)
/-- .. as values (bools) -/
noncomputable def tAndV (ta tb : TE) : TE := fun σ H Q => ta σ H fun x H1 => ∃ c, x = .bl c ∧ if c = true then tb σ H1 Q else Q (.bl false) H1
noncomputable def tNotV (ta : TE) : TE := fun σ H Q => ta σ H fun x H1 => ∃ c, x = .bl c ∧ Q (.bl (!c)) H1
theorem pe_one {op} {t : TE} (h : PE X a t) : PE X (.BoolOp op [a] pos) t := fun pins s σ H Q I hw => BoolOp_one (h pins s σ H Q I hw)
theorem pe_and (ha : PE X a ta) (hb : PE X (.BoolOp .And (b :: rest) pos) tb) : PE X (.BoolOp .And (a :: b :: rest) pos) (tAndV ta tb) := by
  intro pins s σ H Q I h
  refine BoolOp_and (thn (ha pins s σ H _ I h) fun v s1 ⟨x, H1, I1, r1, q1⟩ => ?_)
  obtain ⟨c, rfl, q1⟩ := q1
  cases r1
  refine wpAny_truthy_bool ?_
  cases c with
  | true => exact hb pins s1 σ H1 Q I1 q1
  | false => exact ⟨.bl false, H1, I1, rfl, q1⟩
theorem pe_not (ha : PE X a ta) : PE X (.UnaryOp .Not a pos) (tNotV ta) := by
  intro pins s σ H Q I h
  refine UnaryOp_ (thn (ha pins s σ H _ I h) fun v s1 ⟨x, H1, I1, r1, q1⟩ => ?_)
  obtain ⟨c, rfl, q1⟩ := q1
  cases r1
  exact not_of (wpAny_truthy_bool ⟨.bl (!c), H1, I1, rfl, q1⟩)
end
end L2

namespace L2
open PySem PySem.Spec PyProof.Rows

/-! ### a list, a tuple that is read: tracked, frozen, or an object of the module -/
noncomputable def SqL (K : PySem.W.Frag) (H : Hp) (a : Addr) (xs : List V) : Prop :=
  Rd H a (.lst xs) ∨
    ∃ (o : Obj) (its : Array Value) (n : Nat), K.lookup a = some o ∧ o.cls = .type "list" ∧ o.dict = none ∧ o.data = .seq its n ∧ its.size ≤ sizeLine ∧ Vals xs its.toList
noncomputable def SqT (K : PySem.W.Frag) (H : Hp) (a : Addr) (xs : List V) : Prop :=
  Rd H a (.tup xs) ∨
    ∃ (o : Obj) (its : Array Value) (n : Nat), K.lookup a = some o ∧ o.cls = .type "tuple" ∧ o.data = .seq its n ∧ its.size ≤ sizeLine ∧ Vals xs its.toList
noncomputable def absV : Value → Option V
  | .none => some .non
  | .bool b => some (.bl b)
  | .int i _ => some (.int i)
  | .str x _ => some (.str x)
  | .bytes b _ => some (.byt b)
  | .float b _ => some (.flt b)
  | .ref a => some (.ref a)
  | .type n => some (.ty n)
  | _ => none
theorem RelV.abs {x : V} {u : Value} (r : RelV x u) : absV u = some x := by
  cases x with
  | non => cases r; rfl
  | bl _ => cases r; rfl
  | int _ => obtain ⟨t, rfl⟩ := r; rfl
  | str _ => obtain ⟨t, rfl⟩ := r; rfl
  | byt _ => obtain ⟨t, rfl⟩ := r; rfl
  | flt _ => obtain ⟨t, rfl⟩ := r; rfl
  | ref _ => cases r; rfl
  | ty _ => cases r; rfl
theorem RelV.inj {x y : V} {u : Value} (r : RelV x u) (q : RelV y u) : x = y := Option.some.inj (r.abs.symm.trans q.abs)
theorem Vals.inj : ∀ {xs ys : List V} {us : List Value}, Vals xs us → Vals ys us → xs = ys
  | _, _, _, .nil, .nil => rfl
  | _, _, _, .cons r t, .cons r' t' => by rw [r.inj r', Vals.inj t t']
section
variable {X : Cx} {pins : List (Addr × Obj)} {σ : St} {H : Hp} {s : Shared} {a : Addr} {xs ys : List V}
theorem SqL.of {K : PySem.W.Frag} (h : H a = some (.lst xs)) : SqL K H a xs := .inl (.inl h)
theorem SqT.of {K : PySem.W.Frag} (h : H a = some (.tup xs)) : SqT K H a xs := .inl (.inl h)
theorem Inv.list (I : Inv X pins σ H s) (h : SqL X.K H a xs) : ∃ its : List Value, Vals xs its ∧ PlainL s.heap a its.toArray ∧ xs.length ≤ sizeLine := by
  rcases h with h | ⟨o, its, n, hk, hc, hd, hs, hz, r⟩
  · obtain ⟨z, its, n, r, e⟩ := h.ok I.hok
    exact ⟨its, r, ⟨_, n, e, rfl, rfl, rfl⟩, z⟩
  · refine ⟨its.toList, r, ⟨o, n, I.kIn a o hk, hc, hd, by simpa using hs⟩, ?_⟩
    have e := r.length
    simp only [Array.length_toList] at e
    omega
theorem Inv.tuple (I : Inv X pins σ H s) (h : SqT X.K H a xs) : ∃ its : List Value, Vals xs its ∧ IsTup s.heap a its.toArray ∧ xs.length ≤ sizeLine := by
  rcases h with h | ⟨o, its, n, hk, hc, hs, hz, r⟩
  · obtain ⟨z, its, r, p⟩ := h.ok I.hok
    exact ⟨its, r, p, z⟩
  · refine ⟨its.toList, r, ⟨o, I.kIn a o hk, hc, n, by simpa using hs⟩, ?_⟩
    have e := r.length
    simp only [Array.length_toList] at e
    omega
theorem Inv.list_inj (I : Inv X pins σ H s) (h : SqL X.K H a xs) (h' : SqL X.K H a ys) : xs = ys := by
  obtain ⟨its, r, ⟨o, n, e, _, _, d⟩, _⟩ := I.list h
  obtain ⟨its', r', ⟨o', n', e', _, _, d'⟩, _⟩ := I.list h'
  rw [e] at e'; cases e'
  rw [d] at d'
  injection d' with d1 _
  have : its = its' := by simpa using congrArg Array.toList d1
  subst this
  exact r.inj r'
end

/-! ### another wish about exceptions -/
noncomputable abbrev Cx.wish (X : Cx) (E : Value → Shared → Prop) : Cx := { X with xe := E }
/-- no exception leaves -/
noncomputable abbrev Cx.nox (X : Cx) : Cx := X.wish fun _ _ => False
theorem Cx.Ok.wish {X : Cx} (ok : X.Ok) (E : Value → Shared → Prop) : (X.wish E).Ok :=
  ⟨ok.mod, ok.kind, ok.glob, ok.blt, ok.above, ok.inj, ok.has, ok.cab, ok.hd, ok.frames, ok.stk, ok.exf, ok.bs, ok.bsz, ok.noex, ok.exfs, ok.funs, ok.frf⟩
theorem Cx.Ok.unwish {X : Cx} {E : Value → Shared → Prop} (ok : (X.wish E).Ok) : X.Ok :=
  ⟨ok.mod, ok.kind, ok.glob, ok.blt, ok.above, ok.inj, ok.has, ok.cab, ok.hd, ok.frames, ok.stk, ok.exf, ok.bs, ok.bsz, ok.noex, ok.exfs, ok.funs, ok.frf⟩
section
variable {X : Cx} {pins : List (Addr × Obj)} {σ : St} {H : Hp} {s : Shared} {E : Value → Shared → Prop}
theorem Inv.wish (I : Inv X pins σ H s) (E : Value → Shared → Prop) : Inv (X.wish E) pins σ H s := ⟨I.ok.wish E, I.os, I.bare, I.base, I.loc, I.cell, I.free, I.freeC, I.pin, I.hok, I.len⟩
theorem Inv.unwish (I : Inv (X.wish E) pins σ H s) : Inv X pins σ H s := ⟨I.ok.unwish, I.os, I.bare, I.base, I.loc, I.cell, I.free, I.freeC, I.pin, I.hok, I.len⟩
theorem SP.unwish {D : Ends} {f : Flow} {s' : Shared} (h : SP (X.wish E) pins D f s') : SP X pins D f s' := by
  cases f with
  | next => obtain ⟨σ', H', I, q⟩ := h; exact ⟨σ', H', I.unwish, q⟩
  | brk => obtain ⟨σ', H', I, q⟩ := h; exact ⟨σ', H', I.unwish, q⟩
  | cont => obtain ⟨σ', H', I, q⟩ := h; exact ⟨σ', H', I.unwish, q⟩
  | ret u => obtain ⟨v, σ', H', I, r, q⟩ := h; exact ⟨v, σ', H', I.unwish, r, q⟩
theorem PSs.nox {st : List Stmt} {t : TS} (h : PSs X.nox st t) : PSs X st t := fun pins s σ H D I hw =>
  wpAny_mono (h pins s σ H D (I.wish _) hw) (fun _ _ q => q.unwish) fun _ _ z => False.elim z
end

/-! ### blocks and small statements -/
section
variable {X : Cx} {st : Stmt} {rest : List Stmt} {t u : TS} {e : Expr} {te : TE} {pos : Pos}
noncomputable def tNext : TS := fun D σ H => D.nx σ H
noncomputable def tSeq (t u : TS) : TS := fun D σ H => t { D with nx := u D } σ H
theorem pss_nil : PSs X [] tNext := fun _ _ σ H _ I h => wpAny_execs_nil ⟨σ, H, I, h⟩
theorem pss_cons (h1 : PS X st t) (h2 : PSs X rest u) : PSs X (st :: rest) (tSeq t u) := by
  intro pins s σ H D I h
  refine wpAny_execs_cons (thn (h1 pins s σ H { D with nx := u D } I h) fun f s1 q => ?_)
  cases f with
  | next =>
    obtain ⟨σ', H', I', q⟩ := q
    exact h2 pins s1 σ' H' D I' q
  | ret v => exact q
  | brk => exact q
  | cont => exact q
theorem pss_one (h1 : PS X st t) : PSs X [st] t := by
  intro pins s σ H D I h
  refine wpAny_execs_cons (thn (h1 pins s σ H D I h) fun f s1 q => ?_)
  cases f with
  | next => exact wpAny_execs_nil q
  | ret v => exact q
  | brk => exact q
  | cont => exact q
/-- in a def's body nothing is shown -/
theorem Inv.quiet {pins : List (Addr × Obj)} {σ : St} {H : Hp} {s : Shared} (I : Inv X pins σ H s) : interactive X.env = false := by simp [interactive, I.ok.kind]
/-- an expression whose value is dropped -/
noncomputable def tDrop (te : TE) : TS := fun D σ H => te σ H fun _ H1 => D.nx σ H1
theorem ps_expr (he : PE X e te) (hs : swapsWith e none pos.line X.env = pure false := by rfl) : PS X (.Expr e pos) (tDrop te) := by
  intro pins s σ H D I h
  exact wpAny_Expr_any (thn (he pins s σ H _ I h) fun v s1 ⟨x, H1, I1, r1, q1⟩ => ⟨σ, H1, I1, q1⟩) I.quiet hs
noncomputable def tRet (te : TE) : TS := fun D σ H => te σ H D.rt
theorem ps_ret (he : PE X e te) : PS X (.Return (some e) pos) (tRet te) := by
  intro pins s σ H D I h
  exact wpAny_Return_some (thn (he pins s σ H _ I h) fun v s1 ⟨x, H1, I1, r1, q1⟩ => ⟨x, σ, H1, I1, r1, q1⟩)
noncomputable def tIfS (c : TT) (t u : TS) : TS := fun D σ H => c σ H fun b H1 => if b = true then t D σ H1 else u D σ H1
theorem ps_if {c : Expr} {a b : List Stmt} {tc : TT} (hc : PT X c tc) (ha : PSs X a t) (hb : PSs X b u) : PS X (.If c a b pos) (tIfS tc t u) := by
  intro pins s σ H D I h
  refine wpAny_If (thn (hc pins s σ H _ I h) fun d s1 ⟨H1, I1, q1⟩ => ?_)
  cases d with
  | true => exact ha pins s1 σ H1 D I1 q1
  | false => exact hb pins s1 σ H1 D I1 q1
/-- code that the proof never comes to -/
noncomputable def tNever : TS := fun _ _ _ => False
theorem ps_never : PS X st tNever := fun _ _ _ _ _ _ h => h.elim
end

/-! ### targets -/
noncomputable abbrev TG := V → St → Hp → (St → Hp → Prop) → Prop
noncomputable abbrev TGs := List V → St → Hp → (St → Hp → Prop) → Prop
noncomputable def PG (X : Cx) (target : Expr) (t : TG) : Prop :=
  ∀ (pins : List (Addr × Obj)) (s : Shared) (σ : St) (H : Hp) (v : V) (u : Value) (Q : St → Hp → Prop), Inv X pins σ H s → RelV v u → t v σ H Q →
    wpAny (model X.prog X.w) X.A (assign target X.env u) (fun _ s' => ∃ σ' H', Inv X pins σ' H' s' ∧ Q σ' H') X.xe s
/-- several targets, one after another -/
noncomputable def PGs (X : Cx) (ts : List Expr) (t : TGs) : Prop :=
  ∀ (pins : List (Addr × Obj)) (s : Shared) (σ : St) (H : Hp) (vs : List V) (us : List Value) (Q : St → Hp → Prop), Inv X pins σ H s → Vals vs us → t vs σ H Q →
    wpAny (model X.prog X.w) X.A (assignInOrder ((assignEach ts X.env).map (·.2)) us) (fun _ s' => ∃ σ' H', Inv X pins σ' H' s' ∧ Q σ' H') X.xe s
section
variable {X : Cx} {pos : Pos}
noncomputable def gName (i : Nat) : TG := fun v σ H Q => Q (σ.set i (some v)) H
theorem pg_name {i : Nat} {x : Str} (hN : X.N.Nodup) (hi : X.N[i]? = some x) (hx : Loc X.env.scope x) (hf : X.fn x = true ∨ X.env.scope.names.lookup x = some .local := by first | exact .inl rfl | exact .inr rfl | assumption) : PG X (.Name x pos) (gName i) := by
  intro pins s σ H v u Q I r h
  exact wpAny_assign_Name (store_ok I hN hi hx r (fun s' I' => ⟨_, H, I', h⟩) hf)
noncomputable def gNil : TGs := fun vs σ H Q => vs = [] ∧ Q σ H
noncomputable def gCons (t : TG) (u : TGs) : TGs := fun vs σ H Q => ∃ v r, vs = v :: r ∧ t v σ H fun σ' H' => u r σ' H' Q
theorem pgs_nil : PGs X [] gNil := by
  intro pins s σ H vs us Q I r h
  obtain ⟨e, h⟩ := h
  subst e
  cases r
  exact assignInOrder_nil ⟨σ, H, I, h⟩
theorem pgs_cons {e : Expr} {es : List Expr} {t : TG} {u : TGs} (h1 : PG X e t) (h2 : PGs X es u)
    (hs : (assignEach (e :: es) X.env).map (·.2) = assign e X.env :: (assignEach es X.env).map (·.2) := by rfl) : PGs X (e :: es) (gCons t u) := by
  intro pins s σ H vs us Q I r h
  obtain ⟨v, vr, e1, h⟩ := h
  subst e1
  cases r with
  | cons r rr =>
    rw [hs]
    refine assignInOrder_cons (thn (h1 pins s σ H _ _ _ I r h) fun _ s1 ⟨σ1, H1, I1, q1⟩ => ?_)
    exact h2 pins s1 σ1 H1 _ _ Q I1 rr q1
/-- (a, b, ..) = a tuple of that length -/
noncomputable def gTup (K : PySem.W.Frag) (n : Nat) (t : TGs) : TG := fun v σ H Q => ∃ a xs, v = .ref a ∧ SqT K H a xs ∧ xs.length = n ∧ t xs σ H Q
theorem pg_tup {es : List Expr} {k : Nat} {t : TGs} {n : Nat} (hc : X.calm = true) (h : PGs X es t)
    (hn : (assignEach es X.env).length = n := by rfl) (hst : (assignEach es X.env).findIdx? (·.1) = none := by rfl) : PG X (.Tuple es k pos) (gTup X.K n t) := by
  intro pins s σ H v u Q I r hw
  obtain ⟨a, xs, e1, hq, hl, hw⟩ := hw
  subst e1
  cases r
  obtain ⟨its, rv, ht, hz⟩ := I.tuple hq
  refine assign_Tuple_tuple (I.ok.hd hc) ht (by simp [hn, ← hl, rv.length]) hst fun h' hx => ?_
  have I1 : Inv X pins σ H { s with heap := h' } := I.kept (t' := s.toks) fun b o e => hx b o (Nat.ne_of_lt (Heap.lt_size e)) e
  exact h pins _ σ H xs _ Q I1 (by simpa using rv) hw
/-- target = value -/
noncomputable def tAsg (te : TE) (g : TG) : TS := fun D σ H => te σ H fun x H1 => g x σ H1 D.nx
theorem ps_asg {tg e : Expr} {te : TE} {g : TG} (he : PE X e te) (hg : PG X tg g) (hs : swapsWithSole [tg] e pos.line X.env = pure false := by rfl) (hw : swappedStores [tg] e X.env = pure none := by rfl)
    (h1 : (assignEach [tg] X.env).map (·.2) = [assign tg X.env] := by rfl) : PS X (.Assign [tg] e pos) (tAsg te g) := by
  intro pins s σ H D I h
  refine wpAny_Assign_stores (thn (he pins s σ H _ I h) fun v s1 ⟨x, H1, I1, r1, q1⟩ => ?_) hs hw
  rw [h1]
  exact thn (hg pins s1 σ H1 x v _ I1 r1 q1) fun _ s2 q => q
/-- name = value -/
theorem ps_set {i : Nat} {x : Str} {e : Expr} {te : TE} {pos' : Pos} (hN : X.N.Nodup) (hi : X.N[i]? = some x) (hx : Loc X.env.scope x) (he : PE X e te) (hs : swapsWith e (some (.Name x pos')) pos.line X.env = pure false := by rfl) (hf : X.fn x = true ∨ X.env.scope.names.lookup x = some .local := by first | exact .inl rfl | exact .inr rfl | assumption) :
    PS X (.Assign [.Name x pos'] e pos) (tAsg te (gName i)) := by
  intro pins s σ H D I h
  refine wpAny_Assign_Name (thn (he pins s σ H _ I h) fun v s1 ⟨y, H1, I1, r1, q1⟩ => ?_) hs
  exact store_ok I1 hN hi hx r1 (fun s2 I2 => ⟨_, H1, I2, q1⟩) hf
/-- a, b = x, y with plain local names: stored from the right; the pair itself is not tracked (the opening rows as in PyProof/Rows/TupAssign.lean:23) -/
noncomputable def tPar (i j : Nat) (ta : TA) : TS := fun D σ H => ta σ H fun vs H1 => ∃ v w, vs = [v, w] ∧ D.nx ((σ.set i (some v)).set j (some w)) H1
theorem ps_par {i j : Nat} {x y : Str} {a b : Expr} {ta : TA} {px py pt : Pos} {kt k2 pt2} (hc : X.calm = true) (hN : X.N.Nodup) (hi : X.N[i]? = some x) (hj : X.N[j]? = some y) (hij : i ≠ j)
    (hx : X.env.scope.names.lookup x = some .local) (hy : X.env.scope.names.lookup y = some .local) (ha : PA X [a, b] ta)
    (hw : swappedStores [.Tuple [.Name x px, .Name y py] kt pt] (.Tuple [a, b] k2 pt2) X.env = pure (some [x, y]))
    (hs : swapsWithSole [.Tuple [.Name x px, .Name y py] kt pt] (.Tuple [a, b] k2 pt2) pos.line X.env = pure false := by rfl) :
    PS X (.Assign [.Tuple [.Name x px, .Name y py] kt pt] (.Tuple [a, b] k2 pt2) pos) (tPar i j ta) := by
  intro pins s σ H D I h
  rw [exec_Assign_arm]
  refine wpAny_bind (wpAny_standAt ?_)
  rw [hs]
  refine wpAny_bind (wpAny_pure ?_)
  rw [if_neg (by decide)]
  refine wpAny_bind (Tuple_ (thn (ha _ pins s σ H _ I h) fun us s1 ⟨vs, H1, I1, r1, q1⟩ => ?_))
  obtain ⟨v, w, e1, q1⟩ := q1
  subst e1
  obtain ⟨u1, u2, rfl, rv, rw'⟩ : ∃ u1 u2, us = [u1, u2] ∧ RelV v u1 ∧ RelV w u2 := by
    cases r1 with
    | cons p q =>
      cases q with
      | cons p' q' =>
        cases q'
        exact ⟨_, _, rfl, p, p'⟩
  refine wpAny_newObj_type ?_ (by show 2 ≤ sizeLine; decide)
  have I2 : Inv X pins σ H1 { s1 with heap := s1.heap.push { cls := .type "tuple", data := .seq [u1, u2].toArray } } := I1.kept (t' := s1.toks) fun b o e => Heap.get?_push_of_some _ e
  rw [hw]
  refine wpAny_bind (wpAny_pure ?_)
  show wpAny (model X.prog X.w) X.A (do rule "assign.swapped-stores"; let items ← unpackItems (.ref s1.heap.objs.size) 2 none; assignInOrder [fun v => bindName X.env y v, fun v => bindName X.env x v] items.reverse; pure Flow.next) _ _ _
  refine wpAny_bind (wpAny_rule (wpAny_bind (unpackItems_tuple (items := #[u1, u2]) (I.ok.hd hc) (IsTup.new s1.heap _) fun h' hx' => ?_)))
  have I3 := I2.kept (h' := h') (t' := s1.toks) fun b o e => hx' b o (Nat.ne_of_lt (Heap.lt_size e)) e
  show wpAny _ _ (assignInOrder [fun v => bindName X.env y v, fun v => bindName X.env x v] [u2, u1] >>= fun _ => pure Flow.next) _ _ _
  refine wpAny_bind (assignInOrder_cons (wpAny_bindName (store_ok I3 hN hj (.inl hy) rw' (fun s2 I4 => ?_) (.inr hy))))
  refine assignInOrder_cons (wpAny_bindName (store_ok I4 hN hi (.inl hx) rv (fun s3 I5 => assignInOrder_nil (wpAny_pure ?_)) (.inr hx)))
  rw [List.set_comm _ _ (Ne.symm hij)] at I5
  exact ⟨_, H1, I5, q1⟩
end

/-! ### while -/
section
variable {X : Cx} {pos : Pos}
/-- the invariant W with its measure -/
noncomputable def tWhile (c : TT) (tb : TS) : TS := fun D σ H => ∃ W : Nat → St → Hp → Prop, (∃ m, W m σ H) ∧ ∀ m σ H, W m σ H →
  c σ H fun b H1 => if b = true then ∃ N : St → Hp → Prop, (∀ σ' H', N σ' H' → ∃ m', m' < m ∧ W m' σ' H') ∧ tb { D with nx := N, ct := N, bk := D.nx } σ H1 else D.nx σ H1
theorem ps_while {c : Expr} {body : List Stmt} {tc : TT} {tb : TS} (hp : PassesOwn (model X.prog X.w) X.A X.env X.xe) (hc : PT X c tc) (hb : PSs X body tb) : PS X (.While c body [] pos) (tWhile tc tb) := by
  intro pins s σ H D I h
  obtain ⟨W, ⟨m0, w0⟩, turn⟩ := h
  refine wpAny_While (codeAny_whileLoop (fun n s' => ∃ σ' H', Inv X pins σ' H' s' ∧ W n σ' H') ?_ m0 ⟨σ, H, I, w0⟩)
  rintro n s1 ⟨σ1, H1, I1, w1⟩
  refine wpAny_passesOwn hp (thn (hc pins s1 σ1 H1 _ I1 (turn n σ1 H1 w1)) fun b s2 ⟨H2, I2, q2⟩ => ?_)
  cases b with
  | true =>
    obtain ⟨N, hN, q2⟩ := q2
    rw [if_pos rfl]
    refine wpAny_passesOwn hp (thn (hb pins s2 σ1 H2 _ I2 q2) fun f s3 q3 => ?_)
    cases f with
    | next =>
      obtain ⟨σ3, H3, I3, n3⟩ := q3
      obtain ⟨m', hm, w3⟩ := hN σ3 H3 n3
      exact ⟨m', hm, σ3, H3, I3, w3⟩
    | cont =>
      obtain ⟨σ3, H3, I3, n3⟩ := q3
      obtain ⟨m', hm, w3⟩ := hN σ3 H3 n3
      exact ⟨m', hm, σ3, H3, I3, w3⟩
    | brk => exact q3
    | ret v => exact q3
  | false =>
    rw [if_neg Bool.false_ne_true]
    exact wpAny_execs_nil ⟨σ1, H2, I2, q2⟩
end

/-! ### what a loop or a comprehension walks -/
/-- at turn i: it yields x (the heap may grow), or it stops -/
structure It where
  go : Nat → Hp → Prop
  yld : Nat → Hp → V → Hp → Prop
  stop : Nat → Hp → Prop
/-- the iterator's own objects may turn: they are not the frame's, not pinned, younger than the entry (or a comprehension's own) -/
noncomputable def FpOk (X : Cx) (pins : List (Addr × Obj)) (H : Hp) (b : Addr) : Prop :=
  H b = none ∧ b ≠ X.env.locals ∧ b ∉ X.fs ∧ (b ∈ X.ex ∨ X.s₀.heap.objs.size ≤ b) ∧ (∀ x c, X.env.cells.lookup x = some c → c ≠ b) ∧ ∀ p ∈ X.pn ++ pins, p.1 ≠ b
theorem Inv.fpOk {X : Cx} {pins : List (Addr × Obj)} {σ : St} {H H' : Hp} {s : Shared} {b : Addr} (I : Inv X pins σ H s) (hb : s.heap.objs.size ≤ b) (hn : H' b = none) : FpOk X pins H' b := by
  refine ⟨hn, Nat.ne_of_gt (Nat.lt_of_lt_of_le I.lt hb), I.nofs hb, .inr (Nat.le_trans I.sz hb), fun x c e z => ?_, fun p hp z => ?_⟩
  · obtain ⟨v, q⟩ := I.cell x c e
    exact absurd (Nat.lt_of_lt_of_le q.lt (by rw [z]; exact hb)) (Nat.lt_irrefl _)
  · exact absurd (Nat.lt_of_lt_of_le (Heap.lt_size (I.pin p hp).1) (by rw [z]; exact hb)) (Nat.lt_irrefl _)
structure Turn (P : Program) (w : World) (K : PySem.W.Frag) (tg : Expr) (J : It) (fp : List Addr) (it : Addr) (tn : Nat → Heap → Prop) : Prop where
  mem : it ∈ fp
  obj : ∀ i h, tn i h → ∀ b ∈ fp, ∃ o, h.get? b = some o ∧ ∀ v, o.data ≠ .cell v
  keep : ∀ i h h', tn i h → (∀ b ∈ fp, ∀ o, h.get? b = some o → h'.get? b = some o) → tn i h'
  item : ∀ (X : Cx), X.prog = P → X.w = w → X.K = K → X.calm = true → ∀ (i : Nat) (pins : List (Addr × Obj)) (s : Shared) (σ : St) (H : Hp) (E : Value → Shared → Prop), Inv X pins σ H s → (∀ b ∈ fp, FpOk X pins H b) → tn i s.heap → J.go i H →
    wpAny (model P w) X.A (pyNext (.ref it)) (fun r s1 => ∃ u, r = some u ∧
      wpAny (model P w) X.A (letOwnedTupleGo tg (.ref it) u) (fun _ s2 => ∃ x H', Inv X pins σ H' s2 ∧ RelV x u ∧ J.yld i H x H' ∧ tn (i + 1) s2.heap ∧ ∀ b ∈ fp, H' b = none) E s1) E s
  done : ∀ (X : Cx), X.prog = P → X.w = w → X.K = K → X.calm = true → ∀ (i : Nat) (pins : List (Addr × Obj)) (s : Shared) (σ : St) (H : Hp) (E : Value → Shared → Prop), Inv X pins σ H s → (∀ b ∈ fp, FpOk X pins H b) → tn i s.heap → J.stop i H →
    wpAny (model P w) X.A (pyNext (.ref it)) (fun r s1 => r = none ∧ Inv X pins σ H s1) E s
  self : ∀ (A : Around) (i : Nat) (s : Shared) (Q : Value → Shared → Prop) (E : Value → Shared → Prop), tn i s.heap → Q (.ref it) s → wpAny (model P w) A (pyIter (.ref it)) Q E s
noncomputable abbrev TI := St → Hp → (It → Hp → Prop) → Prop
/-- an iterator has come -/
noncomputable def PIE (X : Cx) (pins : List (Addr × Obj)) (σ : St) (tg : Expr) (R : It → Hp → Prop) (itv : Value) (s2 : Shared) : Prop :=
  ∃ (it : Addr) (fp : List Addr) (tn : Nat → Heap → Prop) (J : It) (H' : Hp), itv = .ref it ∧ Inv X pins σ H' s2 ∧ Turn X.prog X.w X.K tg J fp it tn ∧ tn 0 s2.heap ∧ (∀ b ∈ fp, FpOk X pins H' b) ∧ R J H'
noncomputable def PI (X : Cx) (tg iter : Expr) (wi : TI) : Prop :=
  ∀ (pins : List (Addr × Obj)) (s : Shared) (σ : St) (H : Hp) (R : It → Hp → Prop), Inv X pins σ H s → wi σ H R →
    wpAny (model X.prog X.w) X.A (eval iter X.env) (fun v s1 => wpAny (model X.prog X.w) X.A (pyIter v) (PIE X pins σ tg R) X.xe s1) X.xe s

/-- the step ahead of the store is nothing for an iterator that keeps no tuple -/
theorem go_of {M : Model} {A : Around} {E : Value → Shared → Prop} {s : Shared} {tg : Expr} {it : Addr} {u : Value} {o : Obj} {n : String} {vs : Array Value} {Q : Unit → Shared → Prop} (ho : s.heap.get? it = some o) (hc : o.cls = .type n) (hd : o.data = .fields vs)
    (hn : ["enumerate", "zip", "dict_itemiterator", "dict_reverseitemiterator", "odict_iterator", "itertools.zip_longest", "itertools.pairwise"].contains n = false) (hQ : Q () s) : wpAny M A (letOwnedTupleGo tg (.ref it) u) Q E s := by
  unfold letOwnedTupleGo
  cases tg <;> first
    | exact wpAny_pure hQ
    | (cases u <;> first
        | exact wpAny_pure hQ
        | (refine wpAny_bind (wpAny_load ho ?_)
           rw [hc, hd]
           show wpAny M A (if (["enumerate", "zip", "dict_itemiterator", "dict_reverseitemiterator", "odict_iterator", "itertools.zip_longest", "itertools.pairwise"].contains n && vs[0]? == some (rawInt _)) = true then _ else _) Q E s
           rw [if_neg (by intro h; rw [hn, Bool.false_and] at h; cases h)]
           exact wpAny_pure hQ))

/-- the list at a, as it stands at each turn (a loop may append to it) -/
noncomputable def Itl (K : PySem.W.Frag) (a : Addr) : It :=
  ⟨fun i H => ∃ xs x, SqL K H a xs ∧ xs[i]? = some x, fun i H x H' => H' = H ∧ ∀ xs, SqL K H a xs → xs[i]? = some x, fun i H => ∃ xs, SqL K H a xs ∧ xs.length ≤ i⟩
/-- lo, lo + 1, .. (n of them) -/
noncomputable def Itr (lo : Int) (n : Nat) : It := ⟨fun i _ => i < n, fun i H x H' => H' = H ∧ x = .int (lo + i), fun i _ => n ≤ i⟩
theorem turn_list {P : Program} {w : World} {K : PySem.W.Frag} {tg : Expr} (a it : Addr) : Turn P w K tg (Itl K a) [it] it (fun i h => h.IsListIter it a i) where
  mem := by simp
  obj := fun i h st b hb => by
    have e : b = it := by simpa using hb
    subst e
    obtain ⟨o, e, c, d⟩ := st
    exact ⟨o, e, fun v z => by rw [d] at z; cases z⟩
  keep := fun i h h' st k => st.at fun o e => k it (by simp) o e
  item := by
    intro X hP hw hK hc i pins s σ H E I hf st hg
    subst hP hw hK
    obtain ⟨xs, x, hq, hx⟩ := hg
    obtain ⟨its, rv, p, hz⟩ := I.list hq
    obtain ⟨u, hu, ru⟩ := rv.get hx
    obtain ⟨f0, f1, f2, f3, f4, f5⟩ := hf it (by simp)
    refine wpAny_pyNext_list_item st p.isList (x := u) (by simpa using hu) fun h' st' sb => ?_
    have I1 : Inv X pins σ H { s with heap := h' } := I.turned (t' := s.toks) (fun b o hb e => (sb.2 b hb).trans e) f0 f1 f3 f4 f5
    obtain ⟨o, e, c, d⟩ := id st'
    exact ⟨u, rfl, go_of (s := { s with heap := h' }) e c d (by decide) ⟨x, H, I1, ru, ⟨rfl, fun ys hy => by rw [I.list_inj hy hq]; exact hx⟩, st', fun b hb => (hf b hb).1⟩⟩
  done := by
    intro X hP hw hK hc i pins s σ H E I hf st hg
    subst hP hw hK
    obtain ⟨xs, hq, hx⟩ := hg
    obtain ⟨its, rv, p, hz⟩ := I.list hq
    obtain ⟨f0, f1, f2, f3, f4, f5⟩ := hf it (by simp)
    have hl := rv.length
    exact wpAny_pyNext_list_end (I.ok.hd hc) st p.isList (by simp; omega) fun h' eb => ⟨rfl, I.turned (t' := s.toks) (fun b o hb e => eb b o hb e) f0 f1 f3 f4 f5⟩
  self := fun _ _ _ _ _ st h => wpAny_pyIter_listiter st h
theorem turn_range {P : Program} {w : World} {K : PySem.W.Frag} {tg : Expr} (it : Addr) (lo : Int) (n : Nat) : Turn P w K tg (Itr lo n) [it] it (fun i h => IsRangeIter h it (lo + (i : Nat) * 1) ((n : Int) - (i : Nat)) 1) where
  mem := by simp
  obj := fun i h st b hb => by
    have e : b = it := by simpa using hb
    subst e
    exact ⟨_, st, fun v z => by
      have z' : Data.fields _ = Data.cell v := z
      cases z'⟩
  keep := fun i h h' st k => k it (by simp) _ st
  item := by
    intro X hP hw hK hc i pins s σ H E I hf st hg
    subst hP hw hK
    obtain ⟨f0, f1, f2, f3, f4, f5⟩ := hf it (by simp)
    have W := Walks.range (prog := X.prog) (w := X.w) (I.ok.hd hc) it lo 1 n
    refine W.item i s _ _ hg st fun v h' tk hv st' kk => ?_
    obtain ⟨t, rfl⟩ := hv
    have I1 : Inv X pins σ H { s with heap := h', toks := tk } := I.turned (fun b o hb e => kk b o (by simpa using hb) e) f0 f1 f3 f4 f5
    refine ⟨_, rfl, go_of (s := { s with heap := h', toks := tk }) (n := "range_iterator") st' rfl rfl (by decide) ⟨.int (lo + i), H, I1, ⟨t, ?_⟩, ⟨rfl, rfl⟩, st', fun b hb => (hf b hb).1⟩⟩
    rw [Int.mul_one]
  done := by
    intro X hP hw hK hc i pins s σ H E I hf st hg
    subst hP hw hK
    obtain ⟨f0, f1, f2, f3, f4, f5⟩ := hf it (by simp)
    exact wpAny_pyNext_range_end (I.ok.hd hc) st (by have : n ≤ i := hg; omega) fun h' eb => ⟨rfl, I.turned (t' := s.toks) (fun b o hb e => eb b o hb e) f0 f1 f3 f4 f5⟩
  self := fun _ _ _ _ _ st h => wpAny_pyIter_rangeiter st h
end L2

namespace L2
open PySem PySem.Spec PyProof.Rows
section
variable {X : Cx} {tg : Expr}
noncomputable def iList (K : PySem.W.Frag) (tl : TE) : TI := fun σ H R => tl σ H fun x H1 => ∃ a, x = .ref a ∧ (∃ xs, SqL K H1 a xs) ∧ R (Itl K a) H1
theorem pi_list {l : Expr} {tl : TE} (hl : PE X l tl) : PI X tg l (iList X.K tl) := by
  intro pins s σ H R I h
  refine thn (hl pins s σ H _ I h) fun v s1 ⟨x, H1, I1, r1, q1⟩ => ?_
  obtain ⟨a, e, ⟨xs, hq⟩, q⟩ := q1
  subst e
  cases r1
  obtain ⟨its, rv, p, hz⟩ := I1.list hq
  refine wpAny_pyIter_list p.isList ?_
  refine ⟨s1.heap.objs.size, [s1.heap.objs.size], _, _, H1, rfl, I1.kept (t' := s1.toks) fun b o e => Heap.get?_push_of_some _ e, turn_list a _, ⟨_, Heap.get?_push_size _ rfl, rfl, rfl⟩, fun b hb => ?_, q⟩
  have e : b = s1.heap.objs.size := by simpa using hb
  subst e
  exact I1.fpOk (Nat.le_refl _) (I1.hok.fresh (Nat.le_refl _))
/-- a range object just made, walked -/
theorem range_it {pins : List (Addr × Obj)} {σ : St} {H : Hp} {s : Shared} {R : It → Hp → Prop} {E : Value → Shared → Prop} {lo hi : Int} {t u v : Tok} {tk : Nat} (I : Inv X pins σ H s) (h1 : -(2 ^ 62) ≤ lo) (h2 : lo < 2 ^ 62) (h3 : -(2 ^ 62) ≤ hi) (h4 : hi < 2 ^ 62)
    (q : R (Itr lo (hi - lo).toNat) H) : wpAny (model X.prog X.w) X.A (pyIter (.ref s.heap.objs.size)) (PIE X pins σ tg R) E { s with heap := s.heap.push { cls := .type "range", data := .fields #[.int lo t, .int hi u, .int 1 v] }, toks := tk } := by
  refine wpAny_pyIter_range (IsRange.new ..) (small_one h1 h2 h3 h4) ?_
  have I1 : Inv X pins σ H { s with heap := s.heap.push { cls := .type "range", data := .fields #[.int lo t, .int hi u, .int 1 v] }, toks := tk } := I.kept fun b o e => Heap.get?_push_of_some _ e
  refine ⟨(s.heap.push { cls := .type "range", data := .fields #[.int lo t, .int hi u, .int 1 v] }).objs.size, [(s.heap.push { cls := .type "range", data := .fields #[.int lo t, .int hi u, .int 1 v] }).objs.size], _, _, H, rfl,
    I1.kept (t' := tk) fun b o e => Heap.get?_push_of_some _ e, turn_range _ lo (hi - lo).toNat, ?_, fun b hb => ?_, q⟩
  · have e1 : lo + ((0 : Nat) : Int) * 1 = lo := by simp
    have e2 : (((hi - lo).toNat : Nat) : Int) - ((0 : Nat) : Int) = Builtin.Range.rangeSize lo hi 1 := by rw [rangeSize_one]; split <;> omega
    show IsRangeIter _ _ (lo + ((0 : Nat) : Int) * 1) ((((hi - lo).toNat : Nat) : Int) - ((0 : Nat) : Int)) 1
    rw [e1, e2]
    exact Heap.get?_push_size _ rfl
  · have e : b = (s.heap.push { cls := .type "range", data := .fields #[.int lo t, .int hi u, .int 1 v] }).objs.size := by simpa using hb
    subst e
    exact I1.fpOk (Nat.le_refl _) (I1.hok.fresh (Nat.le_refl _))
noncomputable def iRng1 (ta : TA) : TI := fun σ H R => ta σ H fun vs H1 => ∃ j : Int, vs = [.int j] ∧ -(2 ^ 62) ≤ j ∧ j < 2 ^ 62 ∧ R (Itr 0 j.toNat) H1
theorem pi_range1 {a : Expr} {ta : TA} {p pos : Pos} (hg : Gl X "range") (hm : X.mg "range" = none) (ha : PA X [a] ta) (hs : starEach [a] X.env = [(false, eval a X.env)] := by rfl) : PI X tg (.Call (.Name "range" p) [a] [] pos) (iRng1 ta) := by
  intro pins s σ H R I h
  refine Call_ (ld_blt I hg hm boot_range (PyProof.Rows.callWith_type1 (thn (ha pos pins s σ H _ I h) fun us s1 ⟨vs, H1, I1, r1, q1⟩ => ?_) hs rfl))
  obtain ⟨j, e, q1, q2, q⟩ := q1
  subst e
  cases r1 with
  | cons r rr =>
    cases rr
    obtain ⟨t, rfl⟩ := r
    exact call_range_1 (range_it I1 (by omega) (by omega) q1 q2 (by simpa using q))
/-! ### for -/
/-- W: the invariant by the turn and a measure; N: what the body is to reach -/
noncomputable def tFor (wi : TI) (g : TG) (tb : TS) : TS := fun D σ H => wi σ H fun J H1 => ∃ W : Nat → Nat → St → Hp → Prop, (∃ m, W 0 m σ H1) ∧ ∀ i m σ H, W i m σ H →
  (J.stop i H ∧ D.nx σ H) ∨ (J.go i H ∧ ∃ N : St → Hp → Prop, (∀ σ' H', N σ' H' → ∃ m', m' < m ∧ W (i + 1) m' σ' H') ∧ ∀ x H', J.yld i H x H' → g x σ H' fun σ2 H2 => tb { D with nx := N, ct := N, bk := D.nx } σ2 H2)
/-- the records at fp as they stand -/
noncomputable def pinsAt (fp : List Addr) (h : Heap) : List (Addr × Obj) := fp.filterMap fun b => (h.get? b).map fun o => (b, o)
theorem mem_pinsAt {fp : List Addr} {h : Heap} {b : Addr} {o : Obj} (hb : b ∈ fp) (e : h.get? b = some o) : (b, o) ∈ pinsAt fp h := List.mem_filterMap.mpr ⟨b, hb, by rw [e]; rfl⟩
theorem of_pinsAt {fp : List Addr} {h : Heap} {p : Addr × Obj} (hp : p ∈ pinsAt fp h) : p.1 ∈ fp ∧ h.get? p.1 = some p.2 := by
  obtain ⟨b, hb, e⟩ := List.mem_filterMap.mp hp
  cases q : h.get? b with
  | none => rw [q] at e; cases e
  | some o =>
    rw [q] at e
    have e' : (b, o) = p := Option.some.inj e
    subst e'
    exact ⟨hb, q⟩
theorem Inv.pinned {pins : List (Addr × Obj)} {σ : St} {H : Hp} {s : Shared} {fp : List Addr} (I : Inv X pins σ H s) (hf : ∀ b ∈ fp, FpOk X pins H b) (ho : ∀ b ∈ fp, ∃ o, s.heap.get? b = some o ∧ ∀ v, o.data ≠ .cell v) : Inv X (pins ++ pinsAt fp s.heap) σ H s :=
  I.pins_of fun p hp => (List.mem_append.mp hp).elim (fun z => I.pin p (List.mem_append_right _ z)) fun z => by
    obtain ⟨hb, e⟩ := of_pinsAt z
    obtain ⟨f0, f1, f2, _⟩ := hf p.1 hb
    obtain ⟨o, e', d⟩ := ho p.1 hb
    rw [e] at e'; cases e'
    exact ⟨e, f0, f1, f2, d⟩
theorem Inv.unpinned {pins pl : List (Addr × Obj)} {σ : St} {H : Hp} {s : Shared} (I : Inv X (pins ++ pl) σ H s) : Inv X pins σ H s := I.pins_of fun p hp => I.pin p (List.mem_append_right _ (List.mem_append_left _ hp))
theorem ps_for {iter : Expr} {body : List Stmt} {wi : TI} {g : TG} {tb : TS} {pos : Pos} (hp : PassesOwn (model X.prog X.w) X.A X.env X.xe) (hc : X.calm = true) (hi : PI X tg iter wi) (hg : PG X tg g) (hb : PSs X body tb)
    (hs : ∀ x, foldedSetIterable iter X.env x = pure x := by intro _; rfl) : PS X (.For tg iter body [] pos) (tFor wi g tb) := by
  intro pins s σ H D I h
  refine wpAny_For (thn (hi pins s σ H _ I h) fun v s1 h1 => thn h1 fun itv s2 h2 => ?_) hs
  obtain ⟨it, fp, tn, J, H2, e, I2, T, st2, f2, W, ⟨m0, w0⟩, turn⟩ := h2
  subst e
  -- what stays true of the iterator's objects through the loop
  have stat : ∀ {H' : Hp}, (∀ b ∈ fp, H' b = none) → ∀ b ∈ fp, FpOk X pins H' b := fun hn b hb => ⟨hn b hb, (f2 b hb).2⟩
  refine codeAny_forLoop_any (fun n s' => ∃ i σ' H', Inv X pins σ' H' s' ∧ tn i s'.heap ∧ (∀ b ∈ fp, H' b = none) ∧ W i n σ' H') ?_ m0 ⟨0, σ, H2, I2, st2, fun b hb => (f2 b hb).1, w0⟩
  rintro n s3 ⟨i, σ3, H3, I3, st3, fr3, w3⟩
  rcases turn i n σ3 H3 w3 with ⟨stop, qn⟩ | ⟨go, N, hN, step⟩
  · refine wpAny_passesOwn hp (thn (T.done X rfl rfl rfl hc i pins s3 σ3 H3 X.xe I3 (stat fr3) st3 stop) fun r s4 ⟨hr, I4⟩ => ?_)
    subst hr
    exact wpAny_execs_nil ⟨σ3, H3, I4, qn⟩
  · refine wpAny_passesOwn hp (thn (T.item X rfl rfl rfl hc i pins s3 σ3 H3 X.xe I3 (stat fr3) st3 go) fun r s4 ⟨u, hr, h4⟩ => ?_)
    subst hr
    refine wpAny_passesOwn hp (thn h4 fun _ s5 ⟨x, H5, I5, r5, y5, st5, fr5⟩ => ?_)
    have I5' := I5.pinned (stat fr5) (T.obj _ _ st5)
    refine wpAny_passesOwn hp (thn (hg _ s5 σ3 H5 x u _ I5' r5 (step x H5 y5)) fun _ s6 ⟨σ6, H6, I6, q6⟩ => ?_)
    refine wpAny_passesOwn hp (thn (hb _ s6 σ6 H6 _ I6 q6) fun f s7 q7 => ?_)
    have again : ∀ {σ7 : St} {H7 : Hp}, Inv X (pins ++ pinsAt fp s5.heap) σ7 H7 s7 → N σ7 H7 → ∃ m, m < n ∧ ∃ i σ' H', Inv X pins σ' H' s7 ∧ tn i s7.heap ∧ (∀ b ∈ fp, H' b = none) ∧ W i m σ' H' := fun {σ7 H7} I7 n7 => by
      obtain ⟨m', hm, w7⟩ := hN σ7 H7 n7
      refine ⟨m', hm, i + 1, σ7, H7, I7.unpinned, T.keep _ _ _ st5 fun b hb o e => (I7.pin (b, o) (List.mem_append_right _ (List.mem_append_right _ (mem_pinsAt hb e)))).1, fun b hb => ?_, w7⟩
      obtain ⟨o, e, d⟩ := T.obj _ _ st5 b hb
      exact (I7.pin (b, o) (List.mem_append_right _ (List.mem_append_right _ (mem_pinsAt hb e)))).2.1
    cases f with
    | next => obtain ⟨σ7, H7, I7, n7⟩ := q7; exact again I7 n7
    | cont => obtain ⟨σ7, H7, I7, n7⟩ := q7; exact again I7 n7
    | brk => obtain ⟨σ7, H7, I7, q7⟩ := q7; exact ⟨σ7, H7, I7.unpinned, q7⟩
    | ret v => obtain ⟨x7, σ7, H7, I7, r7, q7⟩ := q7; exact ⟨x7, σ7, H7, I7.unpinned, r7, q7⟩
end

/-! ### the forms one uses -/
/-- over a list that the body leaves as it is -/
theorem for_list {K : PySem.W.Frag} {a : Addr} {xs : List V} {g : TG} {tb : TS} {D : Ends} {σ : St} {H : Hp} (Pv : Nat → St → Hp → Prop) (h0 : Pv 0 σ H) (hl : ∀ i σ H, i ≤ xs.length → Pv i σ H → SqL K H a xs)
    (hs : ∀ i x σ H, xs[i]? = some x → Pv i σ H → g x σ H fun σ2 H2 => tb { D with nx := Pv (i + 1), ct := Pv (i + 1), bk := D.nx } σ2 H2) (hd : ∀ σ H, Pv xs.length σ H → D.nx σ H) :
    ∃ W : Nat → Nat → St → Hp → Prop, (∃ m, W 0 m σ H) ∧ ∀ i m σ H, W i m σ H →
      ((Itl K a).stop i H ∧ D.nx σ H) ∨ ((Itl K a).go i H ∧ ∃ N : St → Hp → Prop, (∀ σ' H', N σ' H' → ∃ m', m' < m ∧ W (i + 1) m' σ' H') ∧ ∀ x H', (Itl K a).yld i H x H' → g x σ H' fun σ2 H2 => tb { D with nx := N, ct := N, bk := D.nx } σ2 H2) := by
  refine ⟨fun i m σ H => m = xs.length - i ∧ i ≤ xs.length ∧ Pv i σ H, ⟨xs.length, by simp, Nat.zero_le _, h0⟩, ?_⟩
  rintro i m σ H ⟨rfl, hi, p⟩
  have q := hl i σ H hi p
  by_cases hlt : i < xs.length
  · refine .inr ⟨⟨xs, xs[i], q, by simp [hlt]⟩, Pv (i + 1), fun σ' H' p' => ⟨xs.length - (i + 1), by omega, rfl, hlt, p'⟩, fun x H' y => ?_⟩
    obtain ⟨e, y⟩ := y
    subst e
    exact hs i x σ _ (y xs q) p
  · have e : i = xs.length := by omega
    subst e
    exact .inl ⟨⟨xs, q, Nat.le_refl _⟩, hd σ H p⟩
theorem for_range {lo : Int} {n : Nat} {g : TG} {tb : TS} {D : Ends} {σ : St} {H : Hp} (Pv : Nat → St → Hp → Prop) (h0 : Pv 0 σ H)
    (hs : ∀ i σ H, i < n → Pv i σ H → g (.int (lo + i)) σ H fun σ2 H2 => tb { D with nx := Pv (i + 1), ct := Pv (i + 1), bk := D.nx } σ2 H2) (hd : ∀ σ H, Pv n σ H → D.nx σ H) :
    ∃ W : Nat → Nat → St → Hp → Prop, (∃ m, W 0 m σ H) ∧ ∀ i m σ H, W i m σ H →
      ((Itr lo n).stop i H ∧ D.nx σ H) ∨ ((Itr lo n).go i H ∧ ∃ N : St → Hp → Prop, (∀ σ' H', N σ' H' → ∃ m', m' < m ∧ W (i + 1) m' σ' H') ∧ ∀ x H', (Itr lo n).yld i H x H' → g x σ H' fun σ2 H2 => tb { D with nx := N, ct := N, bk := D.nx } σ2 H2) := by
  refine ⟨fun i m σ H => m = n - i ∧ i ≤ n ∧ Pv i σ H, ⟨n, by simp, Nat.zero_le _, h0⟩, ?_⟩
  rintro i m σ H ⟨rfl, hi, p⟩
  by_cases hlt : i < n
  · refine .inr ⟨hlt, Pv (i + 1), fun σ' H' p' => ⟨n - (i + 1), by omega, rfl, hlt, p'⟩, fun x H' y => ?_⟩
    obtain ⟨e, y⟩ := y
    subst e y
    exact hs i σ _ hlt p
  · have e : i = n := by omega
    subst e
    exact .inl ⟨Nat.le_refl _, hd σ H p⟩
/-- while, by a word and a measure of the state -/
theorem while_by {c : TT} {tb : TS} {D : Ends} {σ : St} {H : Hp} (Pv : St → Hp → Prop) (μ : St → Hp → Nat) (h0 : Pv σ H)
    (hs : ∀ σ H, Pv σ H → c σ H fun b H1 => if b = true then tb { D with nx := fun σ' H' => Pv σ' H' ∧ μ σ' H' < μ σ H, ct := fun σ' H' => Pv σ' H' ∧ μ σ' H' < μ σ H, bk := D.nx } σ H1 else D.nx σ H1)
    (mono : ∀ σ H Q Q', (∀ b H1, Q b H1 → Q' b H1) → c σ H Q → c σ H Q') : tWhile c tb D σ H := by
  refine ⟨fun m σ H => m = μ σ H ∧ Pv σ H, ⟨_, rfl, h0⟩, ?_⟩
  rintro m σ H ⟨rfl, p⟩
  refine mono σ H _ _ (fun b H1 q => ?_) (hs σ H p)
  cases b with
  | true => exact ⟨_, fun σ' H' ⟨p', l⟩ => ⟨_, l, rfl, p'⟩, q⟩
  | false => exact q
end L2

namespace L2
open PySem PySem.Spec PyProof.Rows

noncomputable abbrev R2 := V → V → Hp → VK → Prop
/-- a two-place operation on values: f is binaryOp op, inplaceOp op or compareOp op -/
noncomputable def OpR (X : Cx) (f : Value → Value → Sem Value) (r : R2) : Prop :=
  ∀ (pins : List (Addr × Obj)) (s : Shared) (σ : St) (H : Hp) (x y : V) (v u : Value) (Q : VK), Inv X pins σ H s → RelV x v → RelV y u → r x y H Q →
    wpAny (model X.prog X.w) X.A (f v u) (EP X pins σ Q) X.xe s
/-- a one-place operation -/
noncomputable def UnR (X : Cx) (f : Value → Sem Value) (r : V → Hp → VK → Prop) : Prop :=
  ∀ (pins : List (Addr × Obj)) (s : Shared) (σ : St) (H : Hp) (x : V) (v : Value) (Q : VK), Inv X pins σ H s → RelV x v → r x H Q →
    wpAny (model X.prog X.w) X.A (f v) (EP X pins σ Q) X.xe s
/-- a call of a value that is known (a builtin, a type) with values -/
noncomputable def CallR (X : Cx) (f : Value) (r : List V → Hp → VK → Prop) : Prop :=
  ∀ (pins : List (Addr × Obj)) (s : Shared) (σ : St) (H : Hp) (xs : List V) (us : List Value) (Q : VK), Inv X pins σ H s → Vals xs us → r xs H Q →
    wpAny (model X.prog X.w) X.A (call f us) (EP X pins σ Q) X.xe s
/-- a value's truth -/
noncomputable def tOp (r : R2) (ta tb : TE) : TE := fun σ H Q => ta σ H fun x H1 => tb σ H1 fun y H2 => r x y H2 Q
noncomputable def tUn (r : V → Hp → VK → Prop) (ta : TE) : TE := fun σ H Q => ta σ H fun x H1 => r x H1 Q
/-- ints in, under C, and a value out -/
noncomputable def rI (C : Int → Int → Prop) (g : Int → Int → V) : R2 := fun x y H Q => ∃ i j, x = .int i ∧ y = .int j ∧ C i j ∧ Q (g i j) H
noncomputable def rI0 (g : Int → Int → V) : R2 := fun x y H Q => ∃ i j, x = .int i ∧ y = .int j ∧ Q (g i j) H
noncomputable def rU (g : Int → V) : V → Hp → VK → Prop := fun x H Q => ∃ i, x = .int i ∧ Q (g i) H

section
variable {X : Cx} {a b c : Expr} {ta tb tc : TE} {pos : Pos}

theorem binT (ha : PE X a ta) (hb : PE X b tb) {pins : List (Addr × Obj)} {s : Shared} {σ : St} {H : Hp} {R : V → V → Hp → Prop} (I : Inv X pins σ H s)
    (h : ta σ H fun x H1 => tb σ H1 fun y H2 => R x y H2) {Q : Value → Shared → Prop} {f : Value → Value → Sem Value}
    (hf : ∀ v u s2 x y H2, Inv X pins σ H2 s2 → RelV x v → RelV y u → R x y H2 → wpAny (model X.prog X.w) X.A (f v u) Q X.xe s2) :
    wpAny (model X.prog X.w) X.A (eval a X.env) (fun v s₁ => wpAny (model X.prog X.w) X.A (eval b X.env) (fun u s₂ => wpAny (model X.prog X.w) X.A (f v u) Q X.xe s₂) X.xe s₁) X.xe s := by
  refine thn (ha pins s σ H _ I h) fun v s1 ⟨x, H1, I1, r1, q1⟩ => ?_
  refine thn (hb pins s1 σ H1 _ I1 q1) fun u s2 ⟨y, H2, I2, r2, q2⟩ => ?_
  exact hf v u s2 x y H2 I2 r1 r2 q2

theorem pe_op {op : Operator} {r : R2} (ho : OpR X (binaryOp op) r) (ha : PE X a ta) (hb : PE X b tb) : PE X (.BinOp a op b pos) (tOp r ta tb) := by
  intro pins s σ H Q I h
  exact wpAny_BinOp (binT ha hb I h fun v u s2 x y H2 I2 rx ry q => ho pins s2 σ H2 x y v u Q I2 rx ry q)
theorem pe_un {op : UnaryOp} {r : V → Hp → VK → Prop} (ho : UnR X (unaryOp op) r) (ha : PE X a ta) : PE X (.UnaryOp op a pos) (tUn r ta) := by
  intro pins s σ H Q I h
  exact UnaryOp_ (thn (ha pins s σ H _ I h) fun v s1 ⟨x, H1, I1, r1, q1⟩ => ho pins s1 σ H1 x v Q I1 r1 q1)
/-! ### ints -/
theorem opI {f : Value → Value → Sem Value} {C : Int → Int → Prop} {g : Int → Int → Int}
    (rule : ∀ (i j : Int) (t u : Tok) (s : Shared) (Q : Value → Shared → Prop) (E : Value → Shared → Prop), C i j → Q (.int (g i j) s.toks) { s with toks := s.toks + 1 } → wpAny (model X.prog X.w) X.A (f (.int i t) (.int j u)) Q E s) :
    OpR X f (rI C fun i j => .int (g i j)) := by
  intro pins s σ H x y v u Q I rx ry h
  obtain ⟨i, j, rfl, rfl, hc, q⟩ := h
  obtain ⟨t, rfl⟩ := rx
  obtain ⟨t', rfl⟩ := ry
  exact rule i j t t' s _ _ hc ⟨.int (g i j), H, I.tok _, ⟨_, rfl⟩, q⟩
theorem opI0 {f : Value → Value → Sem Value} {g : Int → Int → Int}
    (rule : ∀ (i j : Int) (t u : Tok) (s : Shared) (Q : Value → Shared → Prop) (E : Value → Shared → Prop), Q (.int (g i j) s.toks) { s with toks := s.toks + 1 } → wpAny (model X.prog X.w) X.A (f (.int i t) (.int j u)) Q E s) :
    OpR X f (rI0 fun i j => .int (g i j)) := by
  intro pins s σ H x y v u Q I rx ry h
  obtain ⟨i, j, rfl, rfl, q⟩ := h
  obtain ⟨t, rfl⟩ := rx
  obtain ⟨t', rfl⟩ := ry
  exact rule i j t t' s _ _ ⟨.int (g i j), H, I.tok _, ⟨_, rfl⟩, q⟩
theorem opB0 {f : Value → Value → Sem Value} {g : Int → Int → Bool}
    (rule : ∀ (i j : Int) (t u : Tok) (s : Shared) (Q : Value → Shared → Prop) (E : Value → Shared → Prop), Q (.bool (g i j)) s → wpAny (model X.prog X.w) X.A (f (.int i t) (.int j u)) Q E s) :
    OpR X f (rI0 fun i j => .bl (g i j)) := by
  intro pins s σ H x y v u Q I rx ry h
  obtain ⟨i, j, rfl, rfl, q⟩ := h
  obtain ⟨t, rfl⟩ := rx
  obtain ⟨t', rfl⟩ := ry
  exact rule i j t t' s _ _ ⟨.bl (g i j), H, I, rfl, q⟩

noncomputable def CDiv (i j : Int) : Prop := 0 < j ∧ j < 1073741824
noncomputable def CPow (i j : Int) : Prop := 0 ≤ j ∧ j ≤ 1000000 ∧ i.natAbs < 2 ^ 64
noncomputable def CMul (i j : Int) : Prop := (-(2 ^ 64) < i ∧ i < 2 ^ 64) ∨ (-(2 ^ 64) < j ∧ j < 2 ^ 64)
theorem CMul.ok {i j : Int} (h : CMul i j) : IntMulOk i j := by
  rcases h with ⟨h1, h2⟩ | ⟨h1, h2⟩
  · exact .of_left (intBits_le_64 h1 h2)
  · exact .of_right (intBits_le_64 h1 h2)
theorem op_add : OpR X (binaryOp .Add) (rI0 fun i j => .int (i + j)) := opI0 fun _ _ _ _ _ _ _ q => add_int q
theorem op_sub : OpR X (binaryOp .Sub) (rI0 fun i j => .int (i - j)) := opI0 fun _ _ _ _ _ _ _ q => sub_int q
/-- // by a positive divisor -/
theorem op_fdiv : OpR X (binaryOp .FloorDiv) (rI CDiv fun i j => .int (i / j)) := opI fun i j _ _ _ _ _ hc q => by
  have h1 : (0 : Int) < j := hc.1
  have h2 : j < 1073741824 := hc.2
  exact floordiv_int (by omega) (by rw [Int.fdiv_eq_ediv_of_nonneg i (by omega)]; exact q) (.inl (PyProof.noPylong_small (by omega)))
/-- % by a positive divisor of any size -/
theorem op_mod : OpR X (binaryOp .Mod) (rI (fun _ j => 0 < j) fun i j => .int (i % j)) := opI fun i j _ _ _ _ _ hc q => by
  have h1 : (0 : Int) < j := hc
  exact mod_int' (by omega) (by rw [Int.fmod_eq_emod_of_nonneg i (by omega)]; exact q)
theorem op_modN : OpR X (binaryOp .Mod) (rI (fun _ j => j ≠ 0) fun i j => .int (i.fmod j)) := opI fun _ _ _ _ _ _ _ hc q => mod_int' hc q
theorem op_pow : OpR X (binaryOp .Pow) (rI CPow fun i j => .int (i ^ j.toNat)) := opI fun _ _ _ _ _ _ _ hc q => pow_int_small hc.1 hc.2.1 hc.2.2 q
theorem unI {f : Value → Sem Value} {g : Int → Int}
    (rule : ∀ (i : Int) (t : Tok) (s : Shared) (Q : Value → Shared → Prop) (E : Value → Shared → Prop), Q (.int (g i) s.toks) { s with toks := s.toks + 1 } → wpAny (model X.prog X.w) X.A (f (.int i t)) Q E s) :
    UnR X f (rU fun i => .int (g i)) := by
  intro pins s σ H x v Q I rx h
  obtain ⟨i, rfl, q⟩ := h
  obtain ⟨t, rfl⟩ := rx
  exact rule i t s _ _ ⟨.int (g i), H, I.tok _, ⟨_, rfl⟩, q⟩
theorem un_neg : UnR X (unaryOp .USub) (rU fun i => .int (-i)) := unI fun _ _ _ _ _ q => neg_int q
/-! ### bools among ints: n += (a < b) -/
end

/-! ### comparisons -/
/-- the scalars that == tells apart as data does -/
noncomputable def scal : V → V → Bool
  | .non, .non => true | .non, .int _ => true | .int _, .non => true | .non, .bl _ => true | .bl _, .non => true | .non, .str _ => true | .str _, .non => true
  | .int _, .int _ => true | .bl _, .bl _ => true | .str _, .str _ => true | .byt _, .byt _ => true
  | .int _, .str _ => true | .str _, .int _ => true | .bl _, .str _ => true | .str _, .bl _ => true
  | _, _ => false
noncomputable def rEq : R2 := fun x y H Q => scal x y = true ∧ Q (.bl (decide (x = y))) H
noncomputable def rNe : R2 := fun x y H Q => scal x y = true ∧ Q (.bl (!decide (x = y))) H

theorem dec_int {i j : Int} : decide (V.int i = V.int j) = (i == j) := by
  rw [Bool.eq_iff_iff]
  simp
theorem dec_bl {i j : Bool} : decide (V.bl i = V.bl j) = (i == j) := by
  rw [Bool.eq_iff_iff]
  simp
theorem dec_str {i j : Str} : decide (V.str i = V.str j) = (i == j) := by
  rw [Bool.eq_iff_iff]
  simp
theorem dec_byt {i j : Array UInt8} : decide (V.byt i = V.byt j) = (i.toList == j.toList) := by
  rw [Bool.eq_iff_iff]
  cases i
  cases j
  simp

section
variable {X : Cx} {a b c : Expr} {ta tb tc : TE} {pos : Pos}
theorem fin_bl {pins : List (Addr × Obj)} {σ : St} {H : Hp} {s : Shared} {Q : VK} {k k' : Bool} (I : Inv X pins σ H s) (q : Q (.bl k) H) (e : k = k') : EP X pins σ Q (.bool k') s := by
  subst e
  exact ⟨.bl k, H, I, rfl, q⟩
theorem op_eq : OpR X (compareOp .Eq) rEq := by
  intro pins s σ H x y v u Q I rx ry h
  obtain ⟨hs, q⟩ := h
  cases x with
  | non =>
    cases rx
    cases y with
    | non => cases ry; exact PySem.EqNone.eq_none_none (fin_bl I q (by simp))
    | bl j => cases ry; exact PySem.EqNone.eq_none_bool (fin_bl I q (by simp))
    | int j => obtain ⟨t', rfl⟩ := ry; exact PySem.EqNone.eq_none_int (fin_bl I q (by simp))
    | str j => obtain ⟨t', rfl⟩ := ry; exact PySem.EqNone.eq_none_str (fin_bl I q (by simp))
    | _ => exact absurd (show false = true from hs) Bool.false_ne_true
  | bl i =>
    cases rx
    cases y with
    | non => cases ry; exact PySem.EqNone.eq_bool_none (fin_bl I q (by simp))
    | bl j => cases ry; exact eq_bool (fin_bl I q dec_bl)
    | str j => obtain ⟨t', rfl⟩ := ry; exact PySem.EqMixed.eq_bool_str (fin_bl I q (by simp))
    | _ => exact absurd (show false = true from hs) Bool.false_ne_true
  | int i =>
    obtain ⟨t, rfl⟩ := rx
    cases y with
    | non => cases ry; exact PySem.EqNone.eq_int_none (fin_bl I q (by simp))
    | int j => obtain ⟨t', rfl⟩ := ry; exact eq_int (fin_bl I q dec_int)
    | str j => obtain ⟨t', rfl⟩ := ry; exact PySem.EqMixed.eq_int_str (fin_bl I q (by simp))
    | _ => exact absurd (show false = true from hs) Bool.false_ne_true
  | str i =>
    obtain ⟨t, rfl⟩ := rx
    cases y with
    | non => cases ry; exact PySem.EqNone.eq_str_none (fin_bl I q (by simp))
    | bl j => cases ry; exact PySem.EqMixed.eq_str_bool (fin_bl I q (by simp))
    | int j => obtain ⟨t', rfl⟩ := ry; exact PySem.EqMixed.eq_str_int (fin_bl I q (by simp))
    | str j => obtain ⟨t', rfl⟩ := ry; exact eq_str (fin_bl I q dec_str)
    | _ => exact absurd (show false = true from hs) Bool.false_ne_true
  | byt i =>
    obtain ⟨t, rfl⟩ := rx
    cases y with
    | byt j => obtain ⟨t', rfl⟩ := ry; exact PySem.W.eq_bytes (fin_bl I q dec_byt)
    | _ => exact absurd (show false = true from hs) Bool.false_ne_true
  | _ => cases y <;> exact absurd (show false = true from hs) Bool.false_ne_true
theorem op_ne : OpR X (compareOp .NotEq) rNe := by
  intro pins s σ H x y v u Q I rx ry h
  obtain ⟨hs, q⟩ := h
  cases x with
  | non =>
    cases rx
    cases y with
    | non => cases ry; exact PySem.EqNone.ne_none_none (fin_bl I q (by simp))
    | bl j => cases ry; exact PySem.EqNone.ne_none_bool (fin_bl I q (by simp))
    | int j => obtain ⟨t', rfl⟩ := ry; exact PySem.EqNone.ne_none_int (fin_bl I q (by simp))
    | str j => obtain ⟨t', rfl⟩ := ry; exact PySem.EqNone.ne_none_str (fin_bl I q (by simp))
    | _ => exact absurd (show false = true from hs) Bool.false_ne_true
  | bl i =>
    cases rx
    cases y with
    | non => cases ry; exact PySem.EqNone.ne_bool_none (fin_bl I q (by simp))
    | bl j => cases ry; exact ne_bool (fin_bl I q (congrArg not dec_bl))
    | str j => obtain ⟨t', rfl⟩ := ry; exact PySem.EqMixed.ne_bool_str (fin_bl I q (by simp))
    | _ => exact absurd (show false = true from hs) Bool.false_ne_true
  | int i =>
    obtain ⟨t, rfl⟩ := rx
    cases y with
    | non => cases ry; exact PySem.EqNone.ne_int_none (fin_bl I q (by simp))
    | int j => obtain ⟨t', rfl⟩ := ry; exact ne_int (fin_bl I q (congrArg not dec_int))
    | str j => obtain ⟨t', rfl⟩ := ry; exact PySem.EqMixed.ne_int_str (fin_bl I q (by simp))
    | _ => exact absurd (show false = true from hs) Bool.false_ne_true
  | str i =>
    obtain ⟨t, rfl⟩ := rx
    cases y with
    | non => cases ry; exact PySem.EqNone.ne_str_none (fin_bl I q (by simp))
    | bl j => cases ry; exact PySem.EqMixed.ne_str_bool (fin_bl I q (by simp))
    | int j => obtain ⟨t', rfl⟩ := ry; exact PySem.EqMixed.ne_str_int (fin_bl I q (by simp))
    | str j => obtain ⟨t', rfl⟩ := ry; exact ne_str (fin_bl I q (congrArg not dec_str))
    | _ => exact absurd (show false = true from hs) Bool.false_ne_true
  | byt i =>
    obtain ⟨t, rfl⟩ := rx
    cases y with
    | byt j => obtain ⟨t', rfl⟩ := ry; exact PySem.W.ne_bytes (fin_bl I q (congrArg not dec_byt))
    | _ => exact absurd (show false = true from hs) Bool.false_ne_true
  | _ => cases y <;> exact absurd (show false = true from hs) Bool.false_ne_true

theorem op_lt : OpR X (compareOp .Lt) (rI0 fun i j => .bl (decide (i < j))) := opB0 fun _ _ _ _ _ _ _ q => lt_int q
theorem op_le : OpR X (compareOp .LtE) (rI0 fun i j => .bl (decide (i ≤ j))) := opB0 fun _ _ _ _ _ _ _ q => le_int q
theorem op_gt : OpR X (compareOp .Gt) (rI0 fun i j => .bl (decide (j < i))) := opB0 fun _ _ _ _ _ _ _ q => gt_int q
/-- the one string within the other -/
theorem op_in_str : OpR X (compareOp .In) (fun x y H Q => ∃ i j, x = .str i ∧ y = .str j ∧ Q (.bl (!(Builtin.Str.occurrences j i 0 j.length 1).isEmpty)) H) := by
  intro pins s σ H x y v u Q I rx ry h
  obtain ⟨i, j, rfl, rfl, q⟩ := h
  obtain ⟨t, rfl⟩ := rx
  obtain ⟨t', rfl⟩ := ry
  exact in_str (fin_bl I q rfl)

/-- two rules for one operation: by cases -/
theorem nomark (b : Expr) {op : CmpOp} (h : op ≠ .In := by decide) (h2 : op ≠ .NotIn := by decide) : behindInMarks op b = false := by
  have e1 : (op == CmpOp.In) = false := by cases op <;> first | rfl | exact absurd rfl h
  have e2 : (op == CmpOp.NotIn) = false := by cases op <;> first | rfl | exact absurd rfl h2
  cases b <;> simp [behindInMarks, e1, e2]
/-- a comparison as a value; hm: nomark b, or (for in, not in) by with_unfolding_all rfl -/
theorem pe_cmpR {op : CmpOp} {r : R2} (ho : OpR X (compareOp op) r) (ha : PE X a ta) (hb : PE X b tb) (hm : behindInMarks op b = false) : PE X (.Compare a [op] [b] pos) (tOp r ta tb) := by
  intro pins s σ H Q I h
  exact wpAny_Compare1 (binT ha hb I h fun v u s2 x y H2 I2 rx ry q => ho pins s2 σ H2 x y v u Q I2 rx ry q) hm
/-- a reading of a value as a test -/
noncomputable def tTest (t : TE) : TT := fun σ H Q => t σ H fun x H' => ∃ k, x = .bl k ∧ Q k H'
theorem pt_cmpR {op : CmpOp} {r : R2} (ho : OpR X (compareOp op) r) (ha : PE X a ta) (hb : PE X b tb) (hm : behindInMarks op b = false) : PT X (.Compare a [op] [b] pos) (tTest (tOp r ta tb)) := by
  intro pins s σ H Q I h
  refine wpAny_isTrue_Compare1 (thn (ha pins s σ H _ I h) fun v s1 ⟨x, H1, I1, r1, q1⟩ => thn (hb pins s1 σ H1 _ I1 q1) fun u s2 ⟨y, H2, I2, r2, q2⟩ =>
    thn (ho pins s2 σ H2 x y v u _ I2 r1 r2 q2) fun c s3 ⟨z, H3, I3, r3, k, e, q3⟩ => ?_) hm
  subst e
  cases r3
  exact wpAny_truthy_bool ⟨H3, I3, q3⟩
/-- a op1 b op2 c -/
noncomputable def tChain (r r' : R2) (ta tb tc : TE) : TE := fun σ H Q => ta σ H fun x H1 => tb σ H1 fun y H2 => r x y H2 fun z H3 => ∃ k, z = .bl k ∧
  (if k = true then tc σ H3 fun w' H4 => r' y w' H4 Q else Q (.bl false) H3)
theorem pt_chain {op op' : CmpOp} {r r' : R2} (ho : OpR X (compareOp op) r) (ho' : OpR X (compareOp op') r') (ha : PE X a ta) (hb : PE X b tb) (hc : PE X c tc)
    (hm : lastMarks [op, op'] [b, c] = false := by with_unfolding_all rfl) : PT X (.Compare a [op, op'] [b, c] pos) (tTest (tChain r r' ta tb tc)) := by
  intro pins s σ H Q I h
  refine isTrue_chain (thn (ha pins s σ H _ I h) fun v s1 ⟨x, H1, I1, r1, q1⟩ => test_link (thn (hb pins s1 σ H1 _ I1 q1) fun u s2 ⟨y, H2, I2, r2, q2⟩ =>
    thn (ho pins s2 σ H2 x y v u _ I2 r1 r2 q2) fun d s3 ⟨z, H3, I3, r3, k, e, q3⟩ => ?_)) hm
  subst e
  cases r3
  refine wpAny_truthy_bool ?_
  cases k with
  | false =>
    obtain ⟨k', e', q'⟩ := q3
    cases e'
    exact ite_ff ⟨H3, I3, q'⟩
  | true =>
    refine ite_tt (test_last (thn (hc pins s3 σ H3 _ I3 q3) fun w' s4 ⟨z', H4, I4, r4, q4⟩ => thn (ho' pins s4 σ H4 y z' u w' _ I4 r2 r4 q4) fun d' s5 ⟨z2, H5, I5, r5, k2, e2, q5⟩ => ?_))
    subst e2
    cases r5
    exact wpAny_truthy_bool ⟨H5, I5, q5⟩

/-! ### truth -/
/-- a value's truth by the abstract heap -/
theorem line63 : (sizeLine : Nat) < 2 ^ 63 := by rw [sizeLine_eq]; decide
/-! ### strs and bytes -/
theorem op_add_str : OpR X (binaryOp .Add) (fun x y H Q => ∃ i j, x = .str i ∧ y = .str j ∧ i.length + j.length ≤ sizeLine ∧ Q (.str (i ++ j)) H) := by
  intro pins s σ H x y v u Q I rx ry h
  obtain ⟨i, j, rfl, rfl, hz, q⟩ := h
  obtain ⟨t, rfl⟩ := rx
  obtain ⟨t', rfl⟩ := ry
  exact add_str (fun t' tk => ⟨.str (i ++ j), H, I.tok _, ⟨_, rfl⟩, q⟩) hz
/-! ### scalar builtins, by CallR -/
theorem vals1 {x : V} {us : List Value} (r : Vals [x] us) : ∃ u, us = [u] ∧ RelV x u := by
  cases r with
  | cons r1 r2 => cases r2; exact ⟨_, rfl, r1⟩
theorem call_abs : CallR X (.builtin "abs") (fun xs H Q => ∃ i, xs = [.int i] ∧ Q (.int (if i < 0 then -i else i)) H) := by
  intro pins s σ H xs us Q I r h
  obtain ⟨i, rfl, q⟩ := h
  obtain ⟨u, rfl, t, rfl⟩ := vals1 r
  exact call_abs_int fun u tk => ⟨.int (if i < 0 then -i else i), H, I.tok _, ⟨_, rfl⟩, q⟩
theorem call_str_int : CallR X (.type "str") (fun xs H Q => ∃ i, xs = [.int i] ∧ i.natAbs.log2 < 1920 ∧ Q (.str (toString i)) H) := by
  intro pins s σ H xs us Q I r h
  obtain ⟨i, rfl, hz, q⟩ := h
  obtain ⟨u, rfl, t, rfl⟩ := vals1 r
  exact PySem.P.str_of_int hz ⟨.str _, H, I.tok _, ⟨_, rfl⟩, q⟩
end
end L2

namespace L2
open PySem PySem.Spec PyProof.Rows

/-! ### an instance, its attributes a map -/
structure ObjM (h : Heap) (x dx C : Addr) (mA : Str → Option Value) : Prop where
  obj : h.get? x = some (PySem.W.instObj C dx)
  ns : h.Ns1 dx mA
  ne : dx ≠ x

theorem lookIn_ns {h : Heap} {dx : Addr} {mA : Str → Option Value} (n : h.Ns1 dx mA) : ∃ od, h.get? dx = some od ∧ ∀ name, PySem.W.lookIn name od = some (mA name) := by
  obtain ⟨o, es, ep, ho, hd, hk, _, hm⟩ := n
  refine ⟨o, ho, fun name => ?_⟩
  have e := hm name
  unfold nsFind findBy at e
  rw [← Array.find?_toList] at e
  unfold PySem.W.lookIn
  rw [hd]
  dsimp only
  split
  · rename_i y q
    rw [q] at e
    exact congrArg some e
  · rename_i q
    rw [q] at e
    have a : es.toList.any (·.refKey) = false := by
      rw [List.any_eq_false]
      intro y hy
      obtain ⟨z, t, hkey⟩ := hk y (Array.mem_toList_iff.mp hy)
      simp [DictEntry.refKey, hkey]
    have a' : ¬ es.toList.any (·.refKey) = true := by rw [a]; exact Bool.false_ne_true
    rw [if_neg a']
    exact congrArg some e

theorem ObjM.look {h : Heap} {x dx C : Addr} {mA : Str → Option Value} (I : ObjM h x dx C mA) : ∃ od, PySem.W.InstAt h x (PySem.W.instObj C dx) C (some od) ∧ ∀ name, PySem.W.lookIn name od = some (mA name) :=
  let ⟨od, ho, hl⟩ := lookIn_ns I.ns
  ⟨od, ⟨I.obj, rfl, rfl, ho⟩, hl⟩

section
variable {prog : Program} {w : World} {A : Around} {E : Value → Shared → Prop} {s : Shared} {K : PySem.W.Frag} {x dx C f : Addr} {mA : Str → Option Value} {name : Str} {v : Value}

theorem get_map {expr : Bool} {Q : Value → Shared → Prop} (X : K.In s.heap) (I : ObjM s.heap x dx C mA) (hg : PySem.W.plainGet K C name = true) (hh : PySem.W.hasDictIn K C = true)
    (ha : PySem.W.findIn K (.ref C) name = some none) (hv : mA name = some v) (hv' : PySem.W.handedIn v = true) (h : Q v { s with toks := s.toks + 1 }) :
    wpAny (model prog w) A (getAttr (.ref x) name expr) Q E s := by
  obtain ⟨od, J, hl⟩ := I.look
  exact PySem.W.get_value X J (PySem.W.plainGet_of hg).1 (PySem.W.findObj_own hh ha rfl (by rw [hl, hv])) hv' h

theorem get_meth {pl : Sem Bool} {Q : Value × List Value → Shared → Prop} (X : K.In s.heap) (I : ObjM s.heap x dx C mA) (hg : PySem.W.plainGet K C name = true)
    (hf : PySem.W.findIn K (.ref C) name = some (some (.ref f))) (ht : PySem.W.isFn K (.ref f) = true) (hv : mA name = none) (h : Q (.ref f, [.ref x]) s) :
    wpAny (model prog w) A (getMethod (.ref x) name pl) Q E s := by
  obtain ⟨od, J, hl⟩ := I.look
  exact PySem.W.method_fn X J (PySem.W.plainGet_of hg).1 (PySem.W.plainGet_of hg).2 hf (beq_iff_eq.mp ht) (by show (PySem.W.lookIn name od).map (·.isSome) = some false; rw [hl, hv]; rfl) h

theorem set_map {ns : List Str} {Q : Unit → Shared → Prop} (X : K.In s.heap) (I : ObjM s.heap x dx C mA)
    (hs : PySem.W.findIn K (.ref C) "__setattr__" = some (some (.builtin "object.__setattr__"))) (hp : PySem.W.plainOver K C = true) (ht : PySem.W.takerIn K C name = some none) (hh : PySem.W.hasDictIn K C = true)
    (hw : PySem.Within mA ns) (hsz : ns.length ≤ sizeLine)
    (h : ∀ h', ObjM h' x dx C (fun y => if y = name then some v else mA y) → Heap.SameBut dx s.heap h' → Q () { s with heap := h', toks := s.toks + 2 }) :
    wpAny (model prog w) A (setAttr (.ref x) name v) Q E s := by
  obtain ⟨od, J, hl⟩ := I.look
  refine PySem.W.set_plain X J hs (PySem.W.osa_open (s := { s with toks := s.toks + 1 }) (r := none) X J hp ht fun b => ?_)
  obtain ⟨cd, hc, hd'⟩ := PySem.W.any_some hh
  have hx : s.heap.get? x = some ⟨.ref C, some dx, .plain, #[]⟩ := I.obj
  refine wpAny_bind (wpAny_pure (wpAny_bind (wpAny_bind (wpAny_loadPart hx (wpAny_bind (PySem.W.Looks.here (s := { s with toks := s.toks + 1 }) (PySem.W.looks_clsIn X hc) ?_))))))
  rw [hd']
  refine wpAny_pure (a := some dx) (wpAny_bind (wpAny_pure (wpAny_bind ?_)))
  refine wpAny_nsSet1 (s := { s with toks := s.toks + 1 }) I.ns fun h' hn2 hs2 => ?_
  obtain ⟨oD, esD, epD, hoD, hdD, hcD⟩ := hn2.count (PySem.Within.cons name v hw)
  refine wpAny_bind (wpAny_lookBehind hoD (by rw [hdD]; exact pastItsLine_dict (Nat.le_trans hcD (by rw [List.length_cons]; omega))) ?_)
  exact wpAny_pure (h _ ⟨(hs2.2 _ (Ne.symm I.ne)).trans I.obj, hn2, I.ne⟩ hs2)

/-- C(..): the dict at the heap's end, the instance behind it; then its __init__ -/
theorem make_map {R : Result → Shared → Prop} {vs : List Value} {kw : List (Str × Value)} (X : K.In s.heap) (hm : PySem.W.makesIn K C = true)
    (hi : PySem.W.findIn K (.ref C) "__init__" = some (some (.ref f))) (hf : PySem.W.typeIn K (.ref f) = some (.type "function"))
    (h : codeAny (model prog w) (A.under (.builtin "type.__call__" ⟨.ref C :: vs, kw⟩)) (.call (.ref f) ⟨.ref (s.heap.objs.size + 1) :: vs, kw⟩) (PySem.W.InitBack (s.heap.objs.size + 1) R)
      { s with heap := (s.heap.push PySem.W.emptyDict).push (PySem.W.instObj C s.heap.objs.size) }) :
    codeAny (model prog w) A (.call (.ref C) ⟨vs, kw⟩) R s := by
  obtain ⟨hh, g, d, t, os⟩ := s
  exact PySem.W.make_core (PySem.W.makes_of X hm) (PySem.W.looks_findIn X hi) (fun self => PySem.W.bind_fn X self hf) (.inl rfl) h
end

/-! ### the attributes as a list of pairs -/
noncomputable def putF (f : Str) (v : V) : List (Str × V) → List (Str × V)
  | [] => [(f, v)]
  | (g, x) :: r => if g = f then (g, v) :: r else (g, x) :: putF f v r
theorem lookup_putF (f g : Str) (v : V) : ∀ fs : List (Str × V), (putF f v fs).lookup g = if g = f then some v else fs.lookup g
  | [] => by
    show List.lookup g [(f, v)] = _
    by_cases h : g = f
    · have hb : (g == f) = true := beq_iff_eq.mpr h
      simp only [List.lookup, hb, if_pos h]
    · have hb : (g == f) = false := beq_eq_false_iff_ne.mpr h
      simp only [List.lookup, hb, if_neg h]
  | (k, x) :: r => by
    have ih := lookup_putF f g v r
    rw [show putF f v ((k, x) :: r) = (if k = f then (k, v) :: r else (k, x) :: putF f v r) from rfl]
    by_cases hk : k = f
    · rw [if_pos hk]
      by_cases h : g = k
      · have hb : (g == k) = true := beq_iff_eq.mpr h
        simp only [List.lookup, hb, if_pos (h.trans hk)]
      · have hb : (g == k) = false := beq_eq_false_iff_ne.mpr h
        simp only [List.lookup, hb, if_neg (fun e : g = f => h (e.trans hk.symm))]
    · rw [if_neg hk]
      by_cases h : g = k
      · have hb : (g == k) = true := beq_iff_eq.mpr h
        simp only [List.lookup, hb, if_neg (fun e : g = f => hk (h.symm.trans e))]
      · have hb : (g == k) = false := beq_eq_false_iff_ne.mpr h
        simp only [List.lookup, hb]
        exact ih
theorem keys_putF (f : Str) (v : V) : ∀ fs : List (Str × V), f ∈ (putF f v fs).map (·.1) ∧ ∀ g, g ∈ fs.map (·.1) → g ∈ (putF f v fs).map (·.1)
  | [] => ⟨by simp [putF], fun g h => by simp at h⟩
  | (k, x) :: r => by
    obtain ⟨i1, i2⟩ := keys_putF f v r
    rw [show putF f v ((k, x) :: r) = (if k = f then (k, v) :: r else (k, x) :: putF f v r) from rfl]
    by_cases hk : k = f
    · rw [if_pos hk]
      subst hk
      exact ⟨by simp, fun g h => by simpa using h⟩
    · rw [if_neg hk]
      refine ⟨?_, fun g h => ?_⟩
      · rw [List.map_cons]
        exact List.mem_cons_of_mem _ i1
      · rw [List.map_cons] at h ⊢
        rcases List.mem_cons.mp h with e | e
        · exact List.mem_cons.mpr (.inl e)
        · exact List.mem_cons_of_mem _ (i2 g e)
theorem length_putF (f : Str) (v : V) : ∀ fs : List (Str × V), (putF f v fs).length ≤ fs.length + 1
  | [] => by simp [putF]
  | (k, x) :: r => by
    have ih := length_putF f v r
    rw [show putF f v ((k, x) :: r) = (if k = f then (k, v) :: r else (k, x) :: putF f v r) from rfl]
    by_cases hk : k = f
    · rw [if_pos hk, List.length_cons, List.length_cons]; omega
    · rw [if_neg hk, List.length_cons, List.length_cons]; omega

theorem RelO.some_of {v : V} {o : Option Value} (r : RelO (some v) o) : ∃ u, o = some u ∧ RelV v u := by
  cases o with
  | none => exact (show False from r).elim
  | some u => exact ⟨u, rfl, r⟩
theorem RelO.none_of {o : Option Value} (r : RelO none o) : o = none := by
  cases o with
  | none => rfl
  | some u => exact (show False from r).elim
theorem handed_of {v : V} {u : Value} (r : RelV v u) : PySem.W.handedIn u = true := by
  cases v with
  | non => cases (show u = Value.none from r); rfl
  | bl b => cases (show u = Value.bool b from r); rfl
  | int i => obtain ⟨t, e⟩ := (show ∃ t, u = Value.int i t from r); cases e; rfl
  | str x => obtain ⟨t, e⟩ := (show ∃ t, u = Value.str x t from r); cases e; rfl
  | byt b => obtain ⟨t, e⟩ := (show ∃ t, u = Value.bytes b t from r); cases e; rfl
  | flt b => obtain ⟨t, e⟩ := (show ∃ t, u = Value.float b t from r); cases e; rfl
  | ref a => cases (show u = Value.ref a from r); rfl
  | ty n => cases (show u = Value.type n from r); rfl

section
variable {P : Program} {w : World} {H H' : Hp} {h h' : Heap} {a C dx : Addr} {fs fs' : List (Str × V)}
theorem ins_get (hok : HOk P w H h) (e : H a = some (.ins C dx fs)) : ∃ mA, ObjM h a dx C mA ∧ (∀ f, RelO (fs.lookup f) (mA f)) ∧ PySem.Within mA (fs.map (·.1)) ∧ fs.length ≤ 1000 ∧ H dx = some (.own a) := by
  obtain ⟨d, z, ne, ob, mA, n, r, q⟩ := (show ObjOk P w H h a (.ins C dx fs) from hok a _ e)
  exact ⟨mA, ⟨ob, n, ne⟩, r, q, z, d⟩
end

/-! ### what of the text a class must have -/
structure Cls (K : PySem.W.Frag) (C : Addr) : Prop where
  pg : PySem.W.plainGet K C Str.empty = true
  hd : PySem.W.hasDictIn K C = true
  po : PySem.W.plainOver K C = true
  sa : PySem.W.findIn K (.ref C) "__setattr__" = some (some (.builtin "object.__setattr__"))
theorem Cls.get {K : PySem.W.Frag} {C : Addr} (c : Cls K C) (f : Str) : PySem.W.plainGet K C f = true := c.pg
/-- no class of it has the name -/
noncomputable def NoAttr (K : PySem.W.Frag) (C : Addr) (f : Str) : Prop := PySem.W.findIn K (.ref C) f = some none
theorem NoAttr.taker {K : PySem.W.Frag} {C : Addr} {f : Str} (n : NoAttr K C f) : PySem.W.takerIn K C f = some none := by
  unfold PySem.W.takerIn
  rw [show PySem.W.findIn K (.ref C) f = some none from n]
  rfl
/-- a method: a plain def of the class or of one above it -/
structure Meth (K : PySem.W.Frag) (C : Addr) (m : Str) (f : Addr) : Prop where
  at_ : PySem.W.findIn K (.ref C) m = some (some (.ref f))
  fn : PySem.W.isFn K (.ref f) = true
  kp : PySem.W.keepIn K (.ref f) = true

section
variable {X : Cx} {pins : List (Addr × Obj)} {σ : St} {H : Hp} {s : Shared} {a C dx : Addr} {fs : List (Str × V)} {f : Str} {v : V} {A : Around} {E : Value → Shared → Prop}

theorem getattr_ok {b : Bool} {Q : Value → Shared → Prop} (I : Inv X pins σ H s) (e : H a = some (.ins C dx fs)) (c : Cls X.K C) (n : NoAttr X.K C f) (l : fs.lookup f = some v)
    (h : ∀ u s', Inv X pins σ H s' → RelV v u → Q u s') : wpAny (model X.prog X.w) A (getAttr (.ref a) f b) Q E s := by
  obtain ⟨mA, O, r, _, _, _⟩ := ins_get I.hok e
  obtain ⟨u, hu, ru⟩ := RelO.some_of (v := v) (o := mA f) (by rw [← l]; exact r f)
  exact get_map I.kIn O (c.get f) c.hd n hu (handed_of ru) (h u _ (I.tok _) ru)

theorem getmeth_ok {m : Str} {g : Addr} {pl : Sem Bool} {Q : Value × List Value → Shared → Prop} (I : Inv X pins σ H s) (e : H a = some (.ins C dx fs)) (c : Cls X.K C) (k : Meth X.K C m g) (l : fs.lookup m = none)
    (h : Q (.ref g, [.ref a]) s) : wpAny (model X.prog X.w) A (getMethod (.ref a) m pl) Q E s := by
  obtain ⟨mA, O, r, _, _, _⟩ := ins_get I.hok e
  have hn : mA m = none := RelO.none_of (by rw [← l]; exact r m)
  exact get_meth I.kIn O (c.get m) k.at_ k.fn hn h

theorem setattr_ok {y : V} {u : Value} {Q : Unit → Shared → Prop} (I : Inv X pins σ H s) (e : H a = some (.ins C dx fs)) (c : Cls X.K C) (n : NoAttr X.K C f) (hl : fs.length < 1000) (ry : RelV y u)
    (h : ∀ s', Inv X pins σ (upd H a (.ins C dx (putF f y fs))) s' → Q () s') : wpAny (model X.prog X.w) A (setAttr (.ref a) f u) Q E s := by
  obtain ⟨mA, O, r, wi, _, ho⟩ := ins_get I.hok e
  have hz : (fs.map (·.1)).length ≤ sizeLine := by rw [List.length_map, sizeLine_eq]; omega
  refine set_map I.kIn O c.sa c.po n.taker c.hd wi hz fun h' O' sb => h _ ?_
  have hd : ∃ o, h'.get? dx = some o := let ⟨o, _, _, e', _⟩ := O'.ns; ⟨o, e'⟩
  refine I.write (x := a) (e := dx) (by rw [e]; exact True.intro) (.inr ho) (fun b q hb z => (sb.2 b hb).trans z) hd ?_
  refine ⟨by rw [upd_ne O.ne]; exact ho, ?_, O.ne, O'.obj, _, O'.ns, fun g => ?_, fun g hg => ?_⟩
  · have := length_putF f y fs; omega
  · show RelO ((putF f y fs).lookup g) (if g = f then some u else mA g)
    rw [lookup_putF]
    by_cases q : g = f
    · rw [if_pos q, if_pos q]; exact ry
    · rw [if_neg q, if_neg q]; exact r g
  · by_cases q : g = f
    · rw [q]; exact (keys_putF f y fs).1
    · refine (keys_putF f y fs).2 g (wi g fun z => hg ?_)
      show (if g = f then some u else mA g) = none
      rw [if_neg q]; exact z

/-- a new instance, tracked, without attributes -/
theorem Inv.made (I : Inv X pins σ H s) : Inv X pins σ (upd (upd H s.heap.objs.size (.own (s.heap.objs.size + 1))) (s.heap.objs.size + 1) (.ins C s.heap.objs.size []))
    { s with heap := (s.heap.push PySem.W.emptyDict).push (PySem.W.instObj C s.heap.objs.size) } := by
  have e1 : (s.heap.push PySem.W.emptyDict).get? s.heap.objs.size = some PySem.W.emptyDict := Heap.get?_push_size s.heap rfl
  have e2 : ((s.heap.push PySem.W.emptyDict).push (PySem.W.instObj C s.heap.objs.size)).get? (s.heap.objs.size + 1) = some (PySem.W.instObj C s.heap.objs.size) := by
    have := Heap.get?_push_size (s.heap.push PySem.W.emptyDict) (o := PySem.W.instObj C s.heap.objs.size) rfl
    rwa [Heap.size_push] at this
  have e3 : (s.heap.push PySem.W.emptyDict).Ns s.heap.objs.size (fun _ => none) := ⟨PySem.W.emptyDict, #[], _, e1, rfl, (fun e he => absurd he (by simp)), fun _ => rfl⟩
  have I1 := I.laid (a := s.heap.objs.size) (o := .own (s.heap.objs.size + 1)) (h' := s.heap.push PySem.W.emptyDict) (t' := s.toks) (fun b u q => Heap.get?_push_of_some _ q) (Nat.le_refl _) ⟨_, e1⟩
  refine I1.laid (a := s.heap.objs.size + 1) (o := .ins C s.heap.objs.size []) (t' := s.toks) (fun b u q => Heap.get?_push_of_some _ q) (Nat.le_of_eq (Heap.size_push _ _)) ?_
  have ne : s.heap.objs.size ≠ s.heap.objs.size + 1 := Nat.ne_of_lt (Nat.lt_succ_self _)
  refine ⟨by rw [upd_ne ne, upd_same], Nat.zero_le _, ne, e2, fun _ => none, (Heap.Ns1.of_empty e3).at fun o q => Heap.get?_push_of_some _ q, fun _ => True.intro, fun y hy => absurd rfl hy⟩

/-- e.f where nothing but the object is asked: through attributeBase (super) and the last hold -/
theorem attr_of {prog : Program} {w : World} {env : Env} {e : Expr} {f : Str} {pos : Pos} {s : Shared} {Q : Value → Shared → Prop} (hb : attributeBase e f env (eval e env) = eval e env)
    (h : wpAny (model prog w) A (eval e env) (fun o s₁ => wpAny (model prog w) A (getAttr o f true) Q E s₁) E s) : wpAny (model prog w) A (eval (.Attribute e f pos) env) Q E s :=
  Attribute_any_ h (by rw [arm_eval_Attribute, hb])
end

/-! ### readings and rules -/
/-- e.f, an attribute of the instance -/
noncomputable def tFld (K : PySem.W.Frag) (ta : TE) (f : Str) : TE := fun σ H Q => ta σ H fun x H1 => ∃ a C dx fs v, x = .ref a ∧ H1 a = some (.ins C dx fs) ∧ Cls K C ∧ NoAttr K C f ∧ fs.lookup f = some v ∧ Q v H1
/-- e.f = value -/
noncomputable def sFld (K : PySem.W.Frag) (ta tv : TE) (f : Str) : TS := fun D σ H => tv σ H fun y H1 => ta σ H1 fun x H2 => ∃ a C dx fs, x = .ref a ∧ H2 a = some (.ins C dx fs) ∧ Cls K C ∧ NoAttr K C f ∧ fs.length < 1000 ∧
  D.nx σ (upd H2 a (.ins C dx (putF f y fs)))
section
variable {X : Cx} {o e value : Expr} {f : Str} {pos pos' tpos : Pos} {ta tv : TE}
theorem pe_fld (he : PE X e ta) (hb : attributeBase e f X.env (eval e X.env) = eval e X.env) : PE X (.Attribute e f pos) (tFld X.K ta f) := by
  intro pins s σ H Q I h
  refine attr_of hb (thn (he pins s σ H _ I h) fun u s1 ⟨x, H1, I1, rx, a, C, dx, fs, v, ex, ea, c, n, l, q⟩ => ?_)
  subst ex
  obtain rfl : u = Value.ref a := rx
  exact getattr_ok I1 ea c n l fun u' s2 I2 ru => ⟨v, H1, I2, ru, q⟩
theorem ps_fld (ha : PE X o ta) (hv : PE X value tv) (hs : swapsWith value (some (.Attribute o f pos')) pos.line X.env = pure false) : PS X (.Assign [.Attribute o f pos'] value pos) (sFld X.K ta tv f) := by
  intro pins s σ H D I h
  refine plainObj_wpAny_Assign_Attribute (thn (hv pins s σ H _ I h) fun u s1 ⟨y, H1, I1, ry, q⟩ => thn (ha pins s1 σ H1 _ I1 q) fun ov s2 ⟨x, H2, I2, rx, a, C, dx, fs, ex, ea, c, n, l, q2⟩ => ?_) hs
  subst ex
  obtain rfl : ov = Value.ref a := rx
  exact setattr_ok I2 ea c n l ry fun s3 I3 => ⟨σ, _, I3, q2⟩
end

/-! ### isinstance -/
section
variable {X : Cx} {pins : List (Addr × Obj)} {σ : St} {H : Hp} {s : Shared} {A : Around} {E : Value → Shared → Prop} {Q : Value → Shared → Prop} {c : Value} {b : Bool}
/-- the type of a value, as the fragment's deciders take it; for an instance its class -/
inductive TyOf (K : PySem.W.Frag) (H : Hp) : V → Value → Prop where
  | non : TyOf K H .non (.type "NoneType")
  | bl (x : Bool) : TyOf K H (.bl x) (.type "bool")
  | int (i : Int) : TyOf K H (.int i) (.type "int")
  | str (x : Str) : TyOf K H (.str x) (.type "str")
  | flt (x : UInt64) : TyOf K H (.flt x) (.type "float")
  | lst {a : Addr} {xs : List V} (e : H a = some (.lst xs)) : TyOf K H (.ref a) (.type "list")
  | frz {a : Addr} {o : Obj} {xs : List V} (e : H a = some (.frz o (.lst xs))) : TyOf K H (.ref a) (.type "list")
  | tup {a : Addr} {xs : List V} (e : H a = some (.tup xs)) : TyOf K H (.ref a) (.type "tuple")
  | dK {a : Addr} {kvs : List (Key × V)} (e : H a = some (.dK kvs)) : TyOf K H (.ref a) (.type "dict")
  | dT {a : Addr} {kvs : List (List Key × V)} (e : H a = some (.dT kvs)) : TyOf K H (.ref a) (.type "dict")
  | ins {a C dx : Addr} {fs : List (Str × V)} (e : H a = some (.ins C dx fs)) (cl : Cls K C) (ha : PySem.W.findIn K (.ref C) "__class__" = some (some (.builtin "object.__class__")))
      (hn : PySem.W.specialIn K (.builtin "object.__class__") "__get__" = some (some (.builtin "getset_descriptor.__get__"))) (htk : PySem.W.takesIn K (.builtin "object.__class__") = some true)
      (hm : PySem.W.mroIn K C (.type "object") = some true) : TyOf K H (.ref a) (.ref C)
/-- isinstance(x, c) for one class c, a built-in or an own one: kitOne's answer -/
theorem isinst_ok {x : V} {u t : Value} (I : Inv X pins σ H s) (rx : RelV x u) (ty : TyOf X.K H x t) (e : PySem.W.kitOne X.K t c = some b) (h : ∀ tk, Q (.bool b) { s with toks := tk }) :
    wpAny (model X.prog X.w) A (call (.builtin "isinstance") [u, c]) Q E s := by
  cases ty with
  | non => cases (show u = Value.none from rx); exact PySem.W.kia_one PySem.W.kitx_none I.kIn True.intro e (fun z => nomatch z) h
  | bl y => cases (show u = Value.bool y from rx); exact PySem.W.kia_one PySem.W.kitx_bool I.kIn True.intro e (fun z => nomatch z) h
  | int i => obtain ⟨t, q⟩ := (show ∃ t, u = Value.int i t from rx); cases q; exact PySem.W.kia_one PySem.W.kitx_int I.kIn True.intro e (fun z => nomatch z) h
  | str y => obtain ⟨t, q⟩ := (show ∃ t, u = Value.str y t from rx); cases q; exact PySem.W.kia_one PySem.W.kitx_str I.kIn True.intro e (fun z => nomatch z) h
  | flt y => obtain ⟨t, q⟩ := (show ∃ t, u = Value.float y t from rx); cases q; exact PySem.W.kia_one PySem.W.kitx_float I.kIn True.intro e (fun z => nomatch z) h
  | @lst a xs ea =>
    cases (show u = Value.ref a from rx)
    obtain ⟨_, _, n, _, h1⟩ := (show ObjOk X.prog X.w H s.heap a (.lst xs) from I.hok a _ ea)
    exact PySem.W.kia_one PySem.W.kitx_list I.kIn ⟨_, h1, rfl⟩ e (fun z => nomatch z) h
  | @frz a ob xs ea =>
    cases (show u = Value.ref a from rx)
    obtain ⟨_, _, _, n, _, h1⟩ := (show ObjOk X.prog X.w H s.heap a (.frz ob (.lst xs)) from I.hok a _ ea)
    exact PySem.W.kia_one PySem.W.kitx_list I.kIn ⟨_, h1, rfl⟩ e (fun z => nomatch z) h
  | @tup a xs ea =>
    cases (show u = Value.ref a from rx)
    obtain ⟨_, _, _, p⟩ := (show ObjOk X.prog X.w H s.heap a (.tup xs) from I.hok a _ ea)
    obtain ⟨o, h1, h2, _⟩ := p
    exact PySem.W.kia_one PySem.W.kitx_tuple I.kIn ⟨o, h1, h2⟩ e (fun z => nomatch z) h
  | @dK a kvs ea =>
    cases (show u = Value.ref a from rx)
    obtain ⟨_, _, vs, _, p⟩ := (show ObjOk X.prog X.w H s.heap a (.dK kvs) from I.hok a _ ea)
    obtain ⟨o, es, ep, h1, h2, _⟩ := p
    exact PySem.W.kia_one PySem.W.kitx_dict I.kIn ⟨o, h1, h2.1⟩ e (fun z => nomatch z) h
  | @dT a kvs ea =>
    cases (show u = Value.ref a from rx)
    obtain ⟨_, _, xs, _, o, es, ep, h1, h2, _⟩ := (show ObjOk X.prog X.w H s.heap a (.dT kvs) from I.hok a _ ea)
    exact PySem.W.kia_one PySem.W.kitx_dict I.kIn ⟨o, h1, h2.1⟩ e (fun z => nomatch z) h
  | @ins a C dx fs ea cl ha hn htk hm =>
    cases (show u = Value.ref a from rx)
    obtain ⟨mA, O, _⟩ := ins_get I.hok ea
    obtain ⟨od, J, _⟩ := O.look
    exact PySem.W.kia_one (PySem.W.kitx_own (cl.get _) cl.hd ha hn htk hm) I.kIn J e (fun z => nomatch z) h
end
end L2

namespace L2
open PySem PySem.Spec PyProof.Rows

/-! ### room -/
structure Room (k : Nat) (A : Around) : Prop where
  hd : A.handled = none
  dp : A.depth + 3 * k + 5 < recursionLimit
  un : A.units + 16 * k + 200 < cLine
theorem Room.mono {j k : Nat} {A : Around} (r : Room k A) (h : j ≤ k) : Room j A := ⟨r.hd, by have := r.dp; omega, by have := r.un; omega⟩
theorem Room.deeper {k : Nat} {A : Around} (r : Room (k + 1) A) (env : Env) : Room k (A.deeper env) :=
  ⟨r.hd, by have := r.dp; show A.depth + 1 + 3 * k + 5 < _; omega, by have := r.un; show A.units + 3 + 16 * k + 200 < _; omega⟩
theorem make_depth {A : Around} {C : Addr} {us : List Value} {kw : List (Str × Value)} : (A.under (.builtin "type.__call__" ⟨.ref C :: us, kw⟩)).depth = A.depth + 1 := by
  first | rfl | simp [Around.under, Code.weight, Code.isCreation, Code.isGuard, Code.isCaller, Code.frames, Code.isFrame, guardIds]
theorem make_units {A : Around} {C : Addr} {us : List Value} {kw : List (Str × Value)} : (A.under (.builtin "type.__call__" ⟨.ref C :: us, kw⟩)).units = A.units + 1 := by
  first | rfl | simp [Around.under, Code.cUnits, Code.frames, Code.isFrame]
theorem Room.make {k : Nat} {A : Around} (r : Room (k + 1) A) (C : Addr) (us : List Value) (kw : List (Str × Value)) : Room k (A.under (.builtin "type.__call__" ⟨.ref C :: us, kw⟩)) :=
  ⟨r.hd, by have := r.dp; rw [make_depth]; omega, by have := r.un; rw [make_units]; omega⟩
theorem Room.depth {k : Nat} {A : Around} (r : Room k A) : A.depth < recursionLimit := by have := r.dp; omega
theorem Room.units {k : Nat} {A : Around} (r : Room k A) : A.units + 64 < cLine := by have := r.un; omega
/-! ### argument lists and displays -/
noncomputable def tNil : TA := fun _ H Q => Q [] H
noncomputable def tCons (ta : TE) (tr : TA) : TA := fun σ H Q => ta σ H fun x H1 => tr σ H1 fun xs H2 => Q (x :: xs) H2
section
variable {X : Cx} {e : Expr} {es : List Expr} {te : TE} {t : TA} {pos : Pos}
theorem pa_nil : PA X [] tNil := fun _ _ _ _ H Q I h => Calls.spliced_nil ⟨[], H, I, .nil, h⟩
theorem pa_cons (ha : PE X e te) (hr : PA X es t) (hs : starEach (e :: es) X.env = (false, eval e X.env) :: starEach es X.env := by rfl) : PA X (e :: es) (tCons te t) := by
  intro pos pins s σ H Q I h
  rw [hs]
  show wpAny _ _ (spliced ((false, eval e X.env) :: backTo pos (starEach es X.env))) _ _ s
  refine Calls.spliced_cons (thn (ha pins s σ H _ I h) fun u s1 ⟨x, H1, I1, r1, q1⟩ => ?_)
  exact thn (hr pos pins s1 σ H1 _ I1 q1) fun us s2 ⟨xs, H2, I2, r2, q2⟩ => ⟨x :: xs, H2, I2, .cons r1 r2, q2⟩

/-- a tuple, a list of written items -/
noncomputable def tTup (t : TA) : TE := fun σ H Q => t σ H fun xs H1 => xs.length ≤ sizeLine ∧ ∀ p, H1 p = none → Q (.ref p) (upd H1 p (.tup xs))
noncomputable def tLst (t : TA) : TE := fun σ H Q => t σ H fun xs H1 => xs.length ≤ sizeLine ∧ ∀ p, H1 p = none → Q (.ref p) (upd H1 p (.lst xs))
theorem pe_tup {x1} (h : PA X es t) : PE X (.Tuple es x1 pos) (tTup t) := by
  intro pins s σ H Q I hq
  refine wpAny_Tuple_spliced (thn (h pos pins s σ H _ I hq) fun us s1 ⟨xs, H1, I1, r, z, q⟩ => ⟨by rw [← r.length]; exact z, ?_⟩)
  have hf : H1 s1.heap.objs.size = none := I1.hok.fresh (Nat.le_refl _)
  refine ⟨.ref s1.heap.objs.size, upd H1 s1.heap.objs.size (.tup xs), I1.laid (t' := s1.toks) (fun b u e => Heap.get?_push_of_some _ e) (Nat.le_refl _) ?_, rfl, q _ hf⟩
  exact ⟨z, us, r, ⟨_, Heap.get?_push_size _ rfl, rfl, _, rfl⟩⟩
theorem pe_lst (h : PA X es t) : PE X (.List es pos) (tLst t) := by
  intro pins s σ H Q I hq
  refine wpAny_List_spliced (thn (h pos pins s σ H _ I hq) fun us s1 ⟨xs, H1, I1, r, z, q⟩ => ⟨by rw [← r.length]; exact z, ?_⟩)
  have hf : H1 s1.heap.objs.size = none := I1.hok.fresh (Nat.le_refl _)
  refine ⟨.ref s1.heap.objs.size, upd H1 s1.heap.objs.size (.lst xs), I1.laid (t' := s1.toks) (fun b u e => Heap.get?_push_of_some _ e) (Nat.le_refl _) ?_, rfl, q _ hf⟩
  exact ⟨z, us, 0, r, Heap.get?_push_size _ rfl⟩
end

/-! ### what a def promises -/
/-- a def's promise: the bound arguments in the parameters' order, the heap, the wanted end, the wanted exception -/
noncomputable abbrev Sp := List V → Hp → VK → XK → Prop
/-- how an exception lies behind a call (file 08 gives it): the callers' frames, abstract heap and state ahead of the call, the wish, the exception, the state -/
noncomputable abbrev CXT := List Env → Hp → Shared → XK → Value → Shared → Prop

/-- the state at a call -/
structure Env0 (P : Program) (w : World) (K : PySem.W.Frag) (mg : Str → Option Value) (base : Heap) (A : Around) (outer : List Env) (s : Shared) (H : Hp) : Prop where
  frames : A.frames = some outer
  mod : Mod K mg base
  bs : ∀ b o, base.get? b = some o → s.heap.get? b = some o ∧ H b = none
  bsz : base.objs.size ≤ s.heap.objs.size
  funs : s.heap.FunFrames base outer
  frf : ∀ b ∈ frs outer, H b = none
  hok : HOk P w H s.heap
  bare : AllBare s.gens
/-- a call's end -/
noncomputable def CE (outer : List Env) (P : Program) (w : World) (H : Hp) (s : Shared) (Q : VK) (u : Value) (s' : Shared) : Prop :=
  ∃ v H', s'.os = s.os ∧ AllBare s'.gens ∧ Un (frs outer) [] H H' s.heap s'.heap ∧ HOk P w H' s'.heap ∧ RelV v u ∧ Q v H'
noncomputable def CR (CX : CXT) (outer : List Env) (P : Program) (w : World) (H : Hp) (s : Shared) (Q : VK) (E : XK) (r : Result) (s' : Shared) : Prop :=
  match r with
  | .ok (.ret u) => CE outer P w H s Q u s'
  | .ok _ => False
  | .error e => CX outer H s E e s'
structure FnOk (P : Program) (w : World) (K : PySem.W.Frag) (mg : Str → Option Value) (base : Heap) (CX : CXT) (k : Nat) (f : Addr) (fd : FuncData) (ps : List Str) (sp : Sp) : Prop where
  len : ∀ vs H Q E, sp vs H Q E → vs.length = ps.length
  run : ∀ (A : Around) (outer : List Env) (s : Shared) (H : Hp) (args : Args) (us : List Value) (vs : List V) (Q : VK) (E : XK), Room k A → Env0 P w K mg base A outer s H → BindsTo s fd args (ps.zip us) → Vals vs us → sp vs H Q E →
    codeAny (model P w) A (.call (.ref f) args) (CR CX outer P w H s Q E) s
theorem FnOk.mono {P : Program} {w : World} {K : PySem.W.Frag} {mg : Str → Option Value} {base : Heap} {CX : CXT} {j k : Nat} {f : Addr} {fd : FuncData} {ps : List Str} {sp : Sp} (F : FnOk P w K mg base CX j f fd ps sp) (h : j ≤ k) :
    FnOk P w K mg base CX k f fd ps sp := ⟨F.len, fun A outer s H args us vs Q E hr => F.run A outer s H args us vs Q E (hr.mono h)⟩
/-- a weaker promise -/
theorem Env0.make {P : Program} {w : World} {K : PySem.W.Frag} {mg : Str → Option Value} {base : Heap} {A : Around} {outer : List Env} {s : Shared} {H : Hp} (e : Env0 P w K mg base A outer s H) (C : Addr) (us : List Value) (kw : List (Str × Value)) :
    Env0 P w K mg base (A.under (.builtin "type.__call__" ⟨.ref C :: us, kw⟩)) outer s H := ⟨by first | exact e.frames | (simpa [Around.under, Code.envs, Code.isFrame, pushEnvs] using e.frames), e.mod, e.bs, e.bsz, e.funs, e.frf, e.hok, e.bare⟩
section
variable {X : Cx} {pins : List (Addr × Obj)} {σ : St} {H : Hp} {s s' : Shared}
/-- from a body: what a callee wants -/
theorem Inv.env0 (I : Inv X pins σ H s) : Env0 X.prog X.w X.K X.mg X.base X.A X.stack s H :=
  ⟨I.ok.frames, I.ok.mod, I.bs, Nat.le_trans I.ok.bsz I.sz, I.stack, I.stkFree, I.hok, I.bare⟩
/-- behind a call -/
theorem Inv.after {Q : VK} {u : Value} (I : Inv X pins σ H s) (h : CE X.stack X.prog X.w H s Q u s') : EP X pins σ Q u s' := by
  obtain ⟨v, H', os, bare, un, hok, r, q⟩ := h
  obtain ⟨hh, g, d, t, os'⟩ := s'
  obtain rfl : os' = s.os := os
  exact ⟨v, H', I.call (h' := hh) (g' := g) (d' := d) (t' := t) (ch := []) un hok bare (fun b z => absurd z (by simp)), r, q⟩
end

/-! ### calls -/
/-- f(..): the written arguments, then the defaults dvs; E: what is wanted of an exception -/
noncomputable def tCall (sp : Sp) (dvs : List V) (E : XK) (t : TA) : TE := fun σ H Q => t σ H fun vs H1 => sp (vs ++ dvs) H1 Q E
/-- o.m(..) of an instance of the class at C -/
noncomputable def tMeth (C : Addr) (m : Str) (sp : Sp) (dvs : List V) (E : XK) (ta : TE) (t : TA) : TE := fun σ H Q => ta σ H fun x H1 => ∃ a dx fs, x = .ref a ∧ H1 a = some (.ins C dx fs) ∧ fs.lookup m = none ∧
  t σ H1 fun vs H2 => sp (x :: (vs ++ dvs)) H2 Q E
/-- C(..): a new instance and its dict, then __init__ -/
noncomputable def tMake (C : Addr) (sp : Sp) (dvs : List V) (E : XK) (t : TA) : TE := fun σ H Q => t σ H fun vs H1 => ∀ x dx, H1 x = none → H1 dx = none → dx ≠ x →
  sp (.ref x :: (vs ++ dvs)) (upd (upd H1 dx (.own x)) x (.ins C dx [])) (fun v H2 => v = .non ∧ Q (.ref x) H2) E

/-- how the parameters are bound: us the positional arguments, kw the keywords' values by name, ds the defaults that fill up -/
noncomputable def Binds (K : PySem.W.Frag) (fd : FuncData) (ps : List Str) (ds : List Value) : Prop :=
  ∀ (s : Shared) (us : List Value), K.In s.heap → (us ++ ds).length = ps.length → BindsTo s fd ⟨us, []⟩ (ps.zip (us ++ ds))
/-- every parameter is given -/
theorem Binds.all {K : PySem.W.Frag} {fd : FuncData} {ps : List Str} (h : ∀ us : List Value, us.length = ps.length → bindArgs fd ⟨us, []⟩ = pure (ps.zip us)) : Binds K fd ps [] := fun s us _ hl => by
  rw [List.append_nil] at hl ⊢
  exact .of_eq (h us hl)

/-- an exception of a callee reaches what this body wants of exceptions -/
noncomputable def Passes (CX : CXT) (X : Cx) (E : XK) : Prop := ∀ (pins : List (Addr × Obj)) (σ : St) (H : Hp) (s : Shared) (e : Value) (s' : Shared), Inv X pins σ H s → CX X.stack H s E e s' → X.xe e s'

section
variable {X : Cx} {CX : CXT} {k : Nat} {f C : Addr} {fd : FuncData} {ps : List Str} {sp : Sp} {dvs : List V} {ds : List Value} {E : XK} {x m : Str} {p pos apos : Pos} {e o : Expr} {es : List Expr} {ta : TE} {t : TA}

/-- the callee runs -/
theorem run_fn {pins : List (Addr × Obj)} {σ : St} {H : Hp} {s : Shared} {Q : VK} {us : List Value} {vs : List V} (F : FnOk X.prog X.w X.K X.mg X.base CX k f fd ps sp) (hr : Room k X.A) (hb : Binds X.K fd ps ds) (hd : Vals dvs ds) (hx : Passes CX X E)
    (I : Inv X pins σ H s) (r : Vals vs us) (h : sp (vs ++ dvs) H Q E) : wpAny (model X.prog X.w) X.A (call (.ref f) us) (EP X pins σ Q) X.xe s := by
  have r2 : Vals (vs ++ dvs) (us ++ ds) := r.append hd
  have hl : (us ++ ds).length = ps.length := by rw [← r2.length]; exact F.len _ _ _ _ h
  refine wpAny_call (codeAny_mono (F.run X.A X.stack s H ⟨us, []⟩ (us ++ ds) (vs ++ dvs) Q E hr I.env0 (hb s us I.kIn hl) r2 h) fun r s' hq => ?_)
  cases r with
  | error e => exact hx pins σ H s e s' I hq
  | ok fl =>
    cases fl with
    | ret u => exact I.after hq
    | next => exact False.elim hq
    | brk => exact False.elim hq
    | cont => exact False.elim hq

theorem pe_call (F : FnOk X.prog X.w X.K X.mg X.base CX k f fd ps sp) (hr : Room k X.A) (hg : Gl X x) (hm : X.mg x = some (.ref f)) (hk : PySem.W.keepIn X.K (.ref f) = true) (hb : Binds X.K fd ps ds) (hd : Vals dvs ds) (hx : Passes CX X E)
    (ha : PA X (e :: es) t) (hdb : (x == ("__debug__" : Str)) = false := by decide) (he : starEach (e :: es) X.env = (false, eval e X.env) :: starEach es X.env := by rfl) (hpl : (backTo pos (starEach es X.env)).any (·.1) = false := by rfl) :
    PE X (.Call (.Name x p) (e :: es) [] pos) (tCall sp dvs E t) := by
  intro pins s σ H Q I h
  refine wpAny_Call_Name_kw (ld_glob I hg hm ?_ hdb)
  refine PySem.W.callWith_K (h₀ := X.base) I.ok.mod.kin hk (thn (ha pos pins s σ H _ I h) fun us s1 ⟨vs, H1, I1, r, q⟩ => ⟨I1.kIn, ?_⟩) he hpl
  exact run_fn F hr hb hd hx I1 r q
/-- o.m() -/
theorem pe_meth0 {pl : Sem Bool} (he : PE X o ta) (c : Cls X.K C) (hm : Meth X.K C m f) (F : FnOk X.prog X.w X.K X.mg X.base CX k f fd ps sp) (hr : Room k X.A) (hb : Binds X.K fd ps ds) (hd : Vals dvs ds) (hx : Passes CX X E)
    (ht : eval (.Call (.Attribute o m apos) [] [] pos) X.env = (do
      let ov ← eval o X.env
      standAt apos.atName
      let (f, first) ← holding [ov] (getMethod ov m pl)
      callWith pos f first (backTo pos (starEach [] X.env)) (backToKw pos (keywordEach [] X.env))) := by rfl) :
    PE X (.Call (.Attribute o m apos) [] [] pos) (tMeth C m sp dvs E ta tNil) := by
  intro pins s σ H Q I h
  refine PySem.W.methodCall_KW (pl := pl) (thn (he pins s σ H _ I h) fun u s1 ⟨x, H1, I1, rx, a, dx, fs, ex, ea, l, q⟩ => ?_) ht
  subst ex
  obtain rfl : u = Value.ref a := rx
  refine getmeth_ok I1 ea c hm l ?_
  exact PySem.W.callWith_K0 (first := [.ref a]) I1.kIn hm.kp (run_fn (us := [.ref a]) (vs := [.ref a]) F hr hb hd hx I1 (.cons rfl .nil) q)

/-- what a class must have to be made -/
structure Mk (K : PySem.W.Frag) (C f : Addr) : Prop where
  makes : PySem.W.makesIn K C = true
  init : PySem.W.findIn K (.ref C) "__init__" = some (some (.ref f))
  fn : PySem.W.isFn K (.ref f) = true
  kp : PySem.W.keepIn K (.ref C) = true

theorem run_make {pins : List (Addr × Obj)} {σ : St} {H : Hp} {s : Shared} {Q : VK} {us : List Value} {vs : List V} (M : Mk X.K C f) (F : FnOk X.prog X.w X.K X.mg X.base CX k f fd ps sp) (hr : Room (k + 1) X.A) (hb : Binds X.K fd ps ds) (hd : Vals dvs ds)
    (hx : Passes CX X E) (I : Inv X pins σ H s) (r : Vals vs us)
    (h : ∀ x dx, H x = none → H dx = none → dx ≠ x → sp (.ref x :: (vs ++ dvs)) (upd (upd H dx (.own x)) x (.ins C dx [])) (fun v H2 => v = .non ∧ Q (.ref x) H2) E) :
    wpAny (model X.prog X.w) X.A (call (.ref C) us) (EP X pins σ Q) X.xe s := by
  have hq := h (s.heap.objs.size + 1) s.heap.objs.size (I.hok.fresh (Nat.le_succ _)) (I.hok.fresh (Nat.le_refl _)) (Nat.ne_of_lt (Nat.lt_succ_self _))
  have I2 := Inv.made (C := C) I
  have r2 : Vals (V.ref (s.heap.objs.size + 1) :: (vs ++ dvs)) (Value.ref (s.heap.objs.size + 1) :: (us ++ ds)) := .cons rfl (r.append hd)
  have hl : (Value.ref (s.heap.objs.size + 1) :: us ++ ds).length = ps.length := by
    have e := r2.length
    rw [F.len _ _ _ _ hq] at e
    exact e.symm
  refine wpAny_call (make_map (f := f) I.kIn M.makes M.init (beq_iff_eq.mp M.fn) (codeAny_mono (F.run _ X.stack _ _ ⟨Value.ref (s.heap.objs.size + 1) :: us, []⟩ (Value.ref (s.heap.objs.size + 1) :: (us ++ ds)) _ _ E (hr.make C us [])
    (I2.env0.make C us []) (hb _ (Value.ref (s.heap.objs.size + 1) :: us) I2.kIn hl) r2 hq) fun r s' hq' => ?_))
  cases r with
  | error e => exact hx pins σ _ _ e s' I2 hq'
  | ok fl =>
    cases fl with
    | ret u =>
      obtain ⟨v, H', I3, rv, ev, q3⟩ := I2.after hq'
      subst ev
      exact ⟨rv, ⟨V.ref (s.heap.objs.size + 1), H', I3, rfl, q3⟩⟩
    | next => exact False.elim hq'
    | brk => exact False.elim hq'
    | cont => exact False.elim hq'
theorem pe_make (M : Mk X.K C f) (F : FnOk X.prog X.w X.K X.mg X.base CX k f fd ps sp) (hr : Room (k + 1) X.A) (hg : Gl X x) (hm : X.mg x = some (.ref C)) (hb : Binds X.K fd ps ds) (hd : Vals dvs ds) (hx : Passes CX X E)
    (ha : PA X (e :: es) t) (hdb : (x == ("__debug__" : Str)) = false := by decide) (he : starEach (e :: es) X.env = (false, eval e X.env) :: starEach es X.env := by rfl) (hpl : (backTo pos (starEach es X.env)).any (·.1) = false := by rfl) :
    PE X (.Call (.Name x p) (e :: es) [] pos) (tMake C sp dvs E t) := by
  intro pins s σ H Q I h
  refine wpAny_Call_Name_kw (ld_glob I hg hm ?_ hdb)
  refine PySem.W.callWith_K (h₀ := X.base) I.ok.mod.kin M.kp (thn (ha pos pins s σ H _ I h) fun us s1 ⟨vs, H1, I1, r, q⟩ => ⟨I1.kIn, ?_⟩) he hpl
  exact run_make M F hr hb hd hx I1 r q
end

/-! ### keywords -/
section
variable {X : Cx} {CX : CXT} {k : Nat} {f C : Addr} {fd : FuncData} {ps ks : List Str} {sp : Sp} {E : XK} {x m : Str} {p pos apos kpos : Pos} {e o : Expr} {es : List Expr} {kws : List Keyword} {te ta : TE} {t tk : TA} {nm : Option Str}
variable {g : List Value → List Value → List Value} {gV : List V → List V → List V}
end

/-! ### a def's body keeps its promise -/
/-- names: the parameters first -/
structure FnScope (N P : List Str) (sc : Scope) : Prop where
  kind : sc.kind = .function
  co : sc.isCoroutine = false
  gen : sc.isGenerator = false
  nd : N.Nodup
  pre : N.take P.length = P
  par : ∀ x ∈ P, sc.names.lookup x = some .local ∨ sc.names.lookup x = some .cell
  nofree : ∀ y ∈ sc.names, y.2 ≠ .free

theorem bindL_out {kindOf : Str → Option NameKind} {x : Str} : ∀ {binds : List (Str × Value)} {m : Str → Option Value}, (∀ v, (x, v) ∉ binds) → bindL kindOf binds m x = m x
  | [], _, _ => rfl
  | (n, v) :: r, m, h => by
    unfold bindL
    rw [bindL_out fun w hw => h w (List.mem_cons_of_mem _ hw)]
    split
    · have : x ≠ n := by rintro rfl; exact h v List.mem_cons_self
      simp [this]
    · rfl
theorem bindC_out {kindOf : Str → Option NameKind} {x : Str} : ∀ {binds : List (Str × Value)} {m : Str → Option Value}, (∀ v, (x, v) ∉ binds) → bindC kindOf binds m x = m x
  | [], _, _ => rfl
  | (n, v) :: r, m, h => by
    unfold bindC
    rw [bindC_out fun w hw => h w (List.mem_cons_of_mem _ hw)]
    split
    · rfl
    · have : x ≠ n := by rintro rfl; exact h v List.mem_cons_self
      simp [this]
theorem bindL_get {kindOf : Str → Option NameKind} {x : Str} {v : Value} : ∀ {P : List Str} {vs : List Value} {i : Nat} {m : Str → Option Value}, P.Nodup → P[i]? = some x → vs[i]? = some v → kindOf x = some .local →
    bindL kindOf (P.zip vs) m x = some v
  | [], _, _, _, _, h, _, _ => by simp at h
  | _ :: _, [], _, _, _, _, h, _ => by simp at h
  | p :: P, w :: vs, 0, m, nd, h1, h2, hk => by
    simp at h1 h2; subst h1; subst h2
    show bindL kindOf ((p, w) :: P.zip vs) m p = _
    unfold bindL
    rw [bindL_out fun v hv => (List.nodup_cons.mp nd).1 (List.of_mem_zip hv).1, if_pos hk]
    simp
  | p :: P, w :: vs, i + 1, m, nd, h1, h2, hk => by
    show bindL kindOf ((p, w) :: P.zip vs) m x = _
    unfold bindL
    exact bindL_get (i := i) (List.nodup_cons.mp nd).2 (by simpa using h1) (by simpa using h2) hk
theorem bindC_get {kindOf : Str → Option NameKind} {x : Str} {v : Value} : ∀ {P : List Str} {vs : List Value} {i : Nat} {m : Str → Option Value}, P.Nodup → P[i]? = some x → vs[i]? = some v → kindOf x ≠ some .local →
    bindC kindOf (P.zip vs) m x = some v
  | [], _, _, _, _, h, _, _ => by simp at h
  | _ :: _, [], _, _, _, _, h, _ => by simp at h
  | p :: P, w :: vs, 0, m, nd, h1, h2, hk => by
    simp at h1 h2; subst h1; subst h2
    show bindC kindOf ((p, w) :: P.zip vs) m p = _
    unfold bindC
    rw [bindC_out fun v hv => (List.nodup_cons.mp nd).1 (List.of_mem_zip hv).1, if_neg hk]
    simp
  | p :: P, w :: vs, i + 1, m, nd, h1, h2, hk => by
    show bindC kindOf ((p, w) :: P.zip vs) m x = _
    unfold bindC
    exact bindC_get (i := i) (List.nodup_cons.mp nd).2 (by simpa using h1) (by simpa using h2) hk

/-- the names' values at the entry -/
noncomputable def start (N : List Str) (vs : List V) : St := vs.map some ++ List.replicate (N.length - vs.length) none

/-- the context of a def's body, at its entry; an exception leaves the frame, then lies as CX says -/
noncomputable def cxOf (CX : CXT) (P : Program) (w : World) (K : PySem.W.Frag) (mg : Str → Option Value) (base : Heap) (N : List Str) (qual : Str) (scope : Scope) (f : Addr) (cd : Value) (A : Around) (outer : List Env) (s : Shared) (H : Hp) (E : XK) : Cx where
  prog := P
  w := w
  K := K
  mg := mg
  base := base
  A := A.deeper (envOfC qual scope s.heap.objs.size f cd)
  N := N
  s₀ := s
  H₀ := H
  env := envOfC qual scope s.heap.objs.size f cd
  outer := outer
  stack := envOfC qual scope s.heap.objs.size f cd :: outer
  ex := []
  calm := true
  fn := fun _ => true
  pn := []
  xe := fun e s' => wpAny (model P w) (A.deeper (envOfC qual scope s.heap.objs.size f cd)) (leaving (envOfC qual scope s.heap.objs.size f cd) e) (fun _ s'' => CX outer H s E e s'') (fun e' s'' => CX outer H s E e' s'') s'

theorem cell_has {sc : Scope} {n : Nat} {x : Str} (h : sc.names.lookup x = some .cell) : ∃ c, (cellsFrom n sc.names []).lookup x = some c := by
  have q := PySem.W.cellsFrom_some sc.names n [] (.inl h)
  exact Option.isSome_iff_exists.mp q

theorem inv_start {CX : CXT} {P : Program} {w : World} {K : PySem.W.Frag} {mg : Str → Option Value} {base : Heap} {N ps : List Str} {qual : Str} {scope : Scope} {f : Addr} {cd : Value} {A : Around} {outer : List Env} {s s1 : Shared} {H : Hp} {E : XK} {us : List Value} {vs : List V}
    (S : FnScope N ps scope) (hd : A.handled = none) (e0 : Env0 P w K mg base A outer s H) (hl : vs.length = ps.length) (r : Vals vs us)
    (x : InCallC s s.heap.objs.size (bindL (envOfC qual scope s.heap.objs.size f cd).kindOf (ps.zip us) fun _ => none) (cellsFrom (s.heap.objs.size + 1) scope.names []) (bindC (envOfC qual scope s.heap.objs.size f cd).kindOf (ps.zip us) fun _ => none) s1) :
    Inv (cxOf CX P w K mg base N qual scope f cd A outer s H E) [] (start N vs) H s1 := by
  have hpl : ps.length ≤ N.length := by have := congrArg List.length S.pre; rw [List.length_take] at this; omega
  obtain ⟨h1, tk, rfl, hk⟩ := x.done
  have noA : ∀ b : Addr, b ∉ (cxOf CX P w K mg base N qual scope f cd A outer s H E).ex := fun b z => absurd (show b ∈ ([] : List Addr) from z) (by simp)
  refine ⟨⟨e0.mod, S.kind, rfl, rfl, Nat.le_refl _, fun y z c h1 h2 => ?_, fun y hy => ?_, fun y c _ h => ?_, fun _ => hd, Around.frames_deeper e0.frames, .inr ⟨rfl, rfl⟩, fun b z => absurd z (noA b), e0.bs, e0.bsz, fun b _ _ => noA b, fun b z => absurd z (noA b), e0.funs, e0.frf⟩,
    rfl, e0.bare, Un.kept hk, ⟨_, x.toInCall.ns, fun i y v h1 h2 h3 => ?_⟩, fun y c h => ⟨_, x.cell y c h⟩, e0.hok.fresh (Nat.le_refl _), fun y c h => ?_, fun p hp => absurd (show p ∈ ([] : List (Addr × Obj)) from hp) (by simp), e0.hok.kept hk, ?_⟩
  · exact name_of_addr x.apart (PySem.mem_of_lookup h1) (PySem.mem_of_lookup h2)
  · have hy : scope.names.lookup y = some .cell ∨ scope.names.lookup y = some .free := hy
    rcases hy with hy | hy
    · exact cell_has hy
    · exact absurd rfl (S.nofree _ (PySem.mem_of_lookup hy))
  · exact Nat.le_of_lt (x.above y c (PySem.mem_of_lookup h))
  · have hi : i < vs.length := by
      unfold start at h2
      by_cases hi : i < vs.length
      · exact hi
      · rw [List.getElem?_append_right (by simpa using hi)] at h2
        rw [List.getElem?_replicate] at h2
        split at h2 <;> cases h2
    have ha : vs[i]? = some v := by
      unfold start at h2
      rw [List.getElem?_append_left (by simpa using hi), List.getElem?_map] at h2
      cases e : vs[i]? with
      | none => rw [e] at h2; cases h2
      | some a => rw [e] at h2; cases h2; rfl
    obtain ⟨u, hu, rv⟩ := r.get ha
    have hp : ps[i]? = some y := by
      rw [← S.pre, List.getElem?_take_of_lt (by omega)]; exact h1
    have ndP : ps.Nodup := by rw [← S.pre]; exact S.nd.sublist (List.take_sublist _ _)
    refine ⟨u, rv, ?_⟩
    rcases S.par y (List.mem_of_getElem? hp) with k | k
    · exact .inl ⟨k, bindL_get ndP hp hu k⟩
    · obtain ⟨c, e⟩ := cell_has (n := s.heap.objs.size + 1) k
      refine .inr ⟨.inl k, c, e, ?_⟩
      have q := x.cell y c e
      rw [bindC_get ndP hp hu (by show scope.names.lookup y ≠ _; rw [k]; decide)] at q
      exact q
  · exact e0.hok.fresh (Nat.le_of_lt (x.above y c (PySem.mem_of_lookup h)))
  · unfold start
    show _ = N.length
    rw [List.length_append, List.length_map, List.length_replicate]
    omega

/-- THE RULE: a def (or a method) of the text, by its body. The body's reading t is chosen for each entry; it is run at the parameters' values -/
theorem fn_of {CX : CXT} {P : Program} {w : World} {K : PySem.W.Frag} {mg : Str → Option Value} {base : Heap} {k : Nat} {f : Addr} {name qual : Str} {params : Arguments} {body : List Stmt} {scope : Scope} {dV kV doc pm cdv ct oc : Value} {an od : Option Addr}
    {osl : Array (Option Value)} {N ps : List Str} {sp : Sp} (lk : K.lookup f = some ⟨oc, od, .func (PySem.W.fnOf name qual params body scope dV kV doc pm an cdv ct), osl⟩) (hcd : PySem.W.codeIn K cdv qual = true) (S : FnScope N ps scope)
    (len : ∀ vs H Q E, sp vs H Q E → vs.length = ps.length)
    (hbody : ∀ (A : Around) (outer : List Env) (s : Shared) (H : Hp) (vs : List V) (Q : VK) (E : XK), Room k (A.deeper (envOfC qual scope s.heap.objs.size f cdv)) → sp vs H Q E →
      ∃ t, PSs (cxOf CX P w K mg base N qual scope f cdv A outer s H E) body t ∧ t { nx := fun _ H' => Q .non H', rt := Q } (start N vs) H) :
    FnOk P w K mg base CX (k + 1) f (PySem.W.fnOf name qual params body scope dV kV doc pm an cdv ct) ps sp := by
  refine ⟨len, fun A outer s H args us vs Q E hr e0 hb r hsp => ?_⟩
  have hl := len _ _ _ _ hsp
  have KX : K.In s.heap := e0.mod.kin.keeps fun b o e => (e0.bs b o e).1
  have lim : s.heap.NoLimit := e0.mod.nolimit.keeps fun b o e => (e0.bs b o e).1
  have hkind : ∀ y ∈ ps.zip us, scope.names.lookup y.1 = some .local ∨ (scope.names.lookup y.1 = some .cell ∧ ((cellsFrom (s.heap.objs.size + 1) scope.names []).lookup y.1).isSome = true) := fun ⟨n, v⟩ hy => by
    rcases S.par n (List.of_mem_zip hy).1 with q | q
    · exact .inl q
    · exact .inr ⟨q, PySem.W.cellsFrom_some _ _ _ (.inl q)⟩
  refine codeAny_call_function hr.depth (KX _ _ lk) rfl S.co S.gen rfl (PySem.W.codeRec_of KX hcd) (hb _ _ _ _ ?_)
  refine wpAny_newFunctionEnv_cells S.kind hkind fun env he s1 x => ?_
  subst he
  refine ⟨lim.keeps x.toInCall.keep, codeAny_func ?_⟩
  obtain ⟨t, ht, hq⟩ := hbody A outer s H vs Q E (hr.deeper _) hsp
  have I : Inv (cxOf CX P w K mg base N qual scope f cdv A outer s H E) [] (start N vs) H s1 := inv_start S hr.hd e0 hl r x
  refine wpAny_mono (ht [] s1 (start N vs) H _ I hq) (fun fl s' hs => ?_) fun e s' hs => hs
  have fin : ∀ {σ' : St} {H' : Hp} {v : V} {u : Value}, Inv (cxOf CX P w K mg base N qual scope f cdv A outer s H E) [] σ' H' s' → RelV v u → Q v H' → CE outer P w H s Q u s' :=
    fun {σ' H' v u} J rv q => ⟨v, H', J.os, J.bare, J.base, J.hok, rv, q⟩
  cases fl with
  | ret u =>
    obtain ⟨v, σ', H', J, rv, q⟩ := hs
    exact fin J rv q
  | next =>
    obtain ⟨σ', H', J, q⟩ := hs
    exact fin (v := V.non) (u := Value.none) J rfl q
  | brk =>
    obtain ⟨_, _, _, q⟩ := hs
    exact False.elim q
  | cont =>
    obtain ⟨_, _, _, q⟩ := hs
    exact False.elim q
end L2

namespace L2
open PySem PySem.Spec PyProof.Rows
section
variable {X : Cx} {x : Str} {p pos : Pos} {e : Expr} {es : List Expr} {t : TA} {id T : String} {r : List V → Hp → VK → Prop}

noncomputable def tCB (r : List V → Hp → VK → Prop) (t : TA) : TE := fun σ H Q => t σ H fun vs H1 => r vs H1 Q
/-- f(e, ..), f a built-in function -/
theorem pe_callB (hc : CallR X (.builtin id) r) (hg : Gl X x) (hm : X.mg x = none) (hv : bootBuiltins x = some (.builtin id)) (ha : PA X (e :: es) t) (hn : x ≠ "__name__" := by decide) (hdb : (x == ("__debug__" : Str)) = false := by decide)
    (he : starEach (e :: es) X.env = (false, eval e X.env) :: starEach es X.env := by rfl) (hpl : (backTo pos (starEach es X.env)).any (·.1) = false := by rfl) : PE X (.Call (.Name x p) (e :: es) [] pos) (tCB r t) := by
  intro pins s σ H Q I h
  refine wpAny_Call_Name_kw (ld_blt I hg hm hv ?_ hn hdb)
  exact PyProof.Rows.callWith_builtin1 (thn (ha pos pins s σ H _ I h) fun us s1 ⟨vs, H1, I1, r1, q1⟩ => hc pins s1 σ H1 vs us Q I1 r1 q1) he hpl
/-- T(e, ..), T a built-in type -/
theorem pe_callTy (hc : CallR X (.type T) r) (hg : Gl X x) (hm : X.mg x = none) (hv : bootBuiltins x = some (.type T)) (ha : PA X (e :: es) t) (hn : x ≠ "__name__" := by decide) (hdb : (x == ("__debug__" : Str)) = false := by decide)
    (he : starEach (e :: es) X.env = (false, eval e X.env) :: starEach es X.env := by rfl) (hpl : (backTo pos (starEach es X.env)).any (·.1) = false := by rfl) : PE X (.Call (.Name x p) (e :: es) [] pos) (tCB r t) := by
  intro pins s σ H Q I h
  refine wpAny_Call_Name_kw (ld_blt I hg hm hv ?_ hn hdb)
  exact PyProof.Rows.callWith_type1 (thn (ha pos pins s σ H _ I h) fun us s1 ⟨vs, H1, I1, r1, q1⟩ => hc pins s1 σ H1 vs us Q I1 r1 q1) he hpl
end
end L2

namespace HT
open PySem PyProof.Rows

section
open PySem.SeqAt
open PySem.AutoSeq1 (wpAny_loadPart')
open PySem.MeetsSeq PySem.MeetsSeq2 PySem.MeetsSeq3

end

section
variable {prog : Program} {w : World} {A : Around} {E : Value → Shared → Prop} {s : Shared}

/-! ### t[a:b], not the whole -/
/-- a slice's bound as a place among n (d where it is left out) -/
noncomputable def sIx (n d : Nat) : Option Int → Nat
  | none => d
  | some v => if v < 0 then (v + (n : Int)).toNat else min v.toNat n
theorem sIx_none (n d : Nat) : sIx n d none = d := rfl
theorem sIx_nat (n d k : Nat) : sIx n d (some (k : Int)) = min k n := by
  show (if (k : Int) < 0 then ((k : Int) + (n : Int)).toNat else min (k : Int).toNat n) = min k n
  rw [if_neg (by omega), Int.toNat_natCast]
end
end HT

namespace L2
open PySem PySem.Spec PyProof.Rows

/-! ### the parts of a slice -/
noncomputable abbrev TO := St → Hp → (Option Int → Hp → Prop) → Prop
/-- a slice's part (left out, or an int) -/
noncomputable def PO (X : Cx) (e : Option Expr) (t : TO) : Prop :=
  ∀ (pins : List (Addr × Obj)) (s : Shared) (σ : St) (H : Hp) (Q : Option Int → Hp → Prop), Inv X pins σ H s → t σ H Q →
    wpAny (model X.prog X.w) X.A (evalPart e X.env) (fun u s' => ∃ o H', Inv X pins σ H' s' ∧ IsPart u o ∧ Q o H') X.xe s
noncomputable def tNoPart : TO := fun _ H Q => Q none H
noncomputable def tPart (t : TE) : TO := fun σ H Q => t σ H fun x H1 => ∃ i, x = .int i ∧ Q (some i) H1

section
variable {X : Cx} {e : Expr} {te : TE} {lo hi : Option Expr} {tl th : TO} {pos p2 : Pos}

theorem po_none : PO X none tNoPart := by
  intro pins s σ H Q I h
  rw [evalPart_none]
  exact wpAny_pure ⟨none, H, I, .none, h⟩
theorem po_some (h : PE X e te) : PO X (some e) (tPart te) := by
  intro pins s σ H Q I hw
  rw [evalPart_some]
  refine thn (h pins s σ H _ I hw) fun u s1 ⟨x, H1, I1, r1, q1⟩ => ?_
  obtain ⟨i, rfl, q⟩ := q1
  obtain ⟨t, rfl⟩ := r1
  exact ⟨some i, H1, I1, .int i t, q⟩

/-- what a slice of a value is, by values: the slice object stands at sl -/
noncomputable def SlR (X : Cx) (r : V → Option Int → Option Int → Hp → VK → Prop) : Prop :=
  ∀ (pins : List (Addr × Obj)) (s : Shared) (σ : St) (H : Hp) (x : V) (v vl vu : Value) (lo hi : Option Int) (sl : Addr) (Q : VK), Inv X pins σ H s → RelV x v → s.heap.IsSliceOf sl vl vu .none → IsPart vl lo → IsPart vu hi → r x lo hi H Q →
    ∃ T id, typeLookup (.type T) "__getitem__" = pure (some (.builtin id)) ∧ s.TypeIs v T ∧ wpAny (model X.prog X.w) X.A (getItem v (.ref sl)) (EP X pins σ Q) X.xe s
noncomputable def tSl (r : V → Option Int → Option Int → Hp → VK → Prop) (te : TE) (tl th : TO) : TE := fun σ H Q => te σ H fun x H1 => tl σ H1 fun l H2 => th σ H2 fun u H3 => r x l u H3 Q
/-- a[lo:hi], any a -/
theorem pe_slice {r : V → Option Int → Option Int → Hp → VK → Prop} (hr : SlR X r) (he : PE X e te) (hl : PO X lo tl) (hu : PO X hi th) : PE X (.Subscript e (.Slice lo hi none p2) pos) (tSl r te tl th) := by
  intro pins s σ H Q I h
  refine Subscript_ (thn (he pins s σ H _ I h) fun v s1 ⟨x, H1, I1, r1, q1⟩ => ?_)
  refine wpAny_Slice (thn (hl pins s1 σ H1 _ I1 q1) fun vl s2 ⟨l, H2, I2, pl, q2⟩ => thn (hu pins s2 σ H2 _ I2 q2) fun vu s3 ⟨u, H3, I3, pu, q3⟩ => ?_)
  rw [evalPart_none]
  refine wpAny_pure ?_
  have I4 : Inv X pins σ H3 { s3 with heap := s3.heap.push { cls := .type "slice", data := .fields #[vl, vu, .none] } } := I3.kept (t' := s3.toks) fun b ob q => Heap.get?_push_of_some _ q
  obtain ⟨T, id, hT, ht, hg⟩ := hr pins { s3 with heap := s3.heap.push { cls := .type "slice", data := .fields #[vl, vu, .none] } } σ H3 x v vl vu l u s3.heap.objs.size Q I4 r1 (Heap.IsSliceOf.new ..) pl pu q3
  show wpAny (model X.prog X.w) X.A (subscriptTail e (.Slice lo hi none p2) v (.ref s3.heap.objs.size)) (EP X pins σ Q) X.xe { s3 with heap := s3.heap.push { cls := .type "slice", data := .fields #[vl, vu, .none] } }
  exact tail_any (ops := [.ref s3.heap.objs.size, v]) ht hT hg (by with_unfolding_all rfl)

/-- the items of xs[lo:hi] -/
noncomputable def cutV (xs : List V) (lo hi : Option Int) : List V := (xs.drop (HT.sIx xs.length 0 lo)).take (HT.sIx xs.length xs.length hi - HT.sIx xs.length 0 lo)
theorem cutV_length (xs : List V) (lo hi : Option Int) : (cutV xs lo hi).length ≤ xs.length := by
  unfold cutV
  rw [List.length_take, List.length_drop]
  omega
/-! ### t < u, t + u -/
end
end L2

namespace L2
open PySem PySem.Spec PyProof.Rows

/-! ### places -/
/-- the place that an index of any sign means -/
noncomputable def ixN (n : Nat) (i : Int) : Option Nat := if 0 ≤ i then (if i < n then some i.toNat else none) else if -(n : Int) ≤ i then some (i + n).toNat else none
noncomputable def atI {α : Type} (xs : List α) (i : Int) : Option α := (ixN xs.length i).bind fun j => xs[j]?
theorem ixN_seq {n : Nat} {i : Int} {j : Nat} (h : ixN n i = some j) : seqIndex? i n = some j ∧ j < n ∧ -(n : Int) ≤ i ∧ i < n := by
  unfold ixN at h
  by_cases h0 : 0 ≤ i
  · rw [if_pos h0] at h
    by_cases h1 : i < n
    · rw [if_pos h1] at h
      have e : i.toNat = j := Option.some.inj h
      exact ⟨by rw [seqIndex_of h0 h1, e], by omega, by omega, h1⟩
    · rw [if_neg h1] at h; cases h
  · rw [if_neg h0] at h
    by_cases h1 : -(n : Int) ≤ i
    · rw [if_pos h1] at h
      have e : (i + n).toNat = j := Option.some.inj h
      exact ⟨by rw [seqIndex_neg (by omega) h1, e], by omega, h1, by omega⟩
    · rw [if_neg h1] at h; cases h
theorem atI_get {α : Type} {xs : List α} {i : Int} {v : α} (h : atI xs i = some v) : ∃ j, seqIndex? i xs.length = some j ∧ xs[j]? = some v ∧ j < xs.length ∧ -(xs.length : Int) ≤ i ∧ i < xs.length := by
  unfold atI at h
  cases e : ixN xs.length i with
  | none => rw [e] at h; cases h
  | some j =>
    rw [e] at h
    obtain ⟨h1, h2, h3, h4⟩ := ixN_seq e
    exact ⟨j, h1, h, h2, h3, h4⟩
theorem atI_nat {α : Type} {xs : List α} {j : Nat} {v : α} (h : xs[j]? = some v) : atI xs (j : Int) = some v := by
  have hj : j < xs.length := (List.getElem?_eq_some_iff.mp h).1
  have e : ixN xs.length (j : Int) = some j := by
    unfold ixN
    rw [if_pos (by omega), if_pos (by omega)]; simp
  unfold atI; rw [e]; exact h
theorem atI_last {α : Type} (xs : List α) (v : α) : atI (xs ++ [v]) (-1) = some v := by
  have hl : (xs ++ [v]).length = xs.length + 1 := by simp
  have e : ixN (xs ++ [v]).length (-1) = some xs.length := by
    unfold ixN
    rw [hl, if_neg (by decide), if_pos (by omega)]
    congr 1
    omega
  unfold atI
  rw [e]
  show (xs ++ [v])[xs.length]? = some v
  simp

/-! ### what may be subscripted -/
/-- what stands as an index of a plain subscript -/
noncomputable def PlainIx (b : Expr) : Prop := ∀ o i, subscripted b false o i = operate [o, i] (getItem o i)
/-- a subscript by values -/
noncomputable def IxR (X : Cx) (r : R2) : Prop :=
  ∀ (value slice : Expr) (pins : List (Addr × Obj)) (s : Shared) (σ : St) (H : Hp) (x y : V) (v u : Value) (Q : VK), Inv X pins σ H s → RelV x v → RelV y u → r x y H Q →
    subscripted slice false v u = operate [v, u] (getItem v u) → wpAny (model X.prog X.w) X.A (subscriptTail value slice v u) (EP X pins σ Q) X.xe s
/-- a call of a builtin's method by values: the receiver, the arguments -/
noncomputable def MtR (X : Cx) (id : String) (r : V → List V → Hp → VK → Prop) : Prop :=
  ∀ (pins : List (Addr × Obj)) (s : Shared) (σ : St) (H : Hp) (x : V) (xs : List V) (v : Value) (us : List Value) (Q : VK), Inv X pins σ H s → RelV x v → Vals xs us → r x xs H Q →
    wpAny (model X.prog X.w) X.A (call (.builtin id) (v :: us)) (EP X pins σ Q) X.xe s
section
variable {X : Cx} {a b : Expr} {ta tb : TE} {pos : Pos}
/-- a[b] -/
theorem pe_ix {r : R2} (hr : IxR X r) (ha : PE X a ta) (hb : PE X b tb) (hs : PlainIx b) : PE X (.Subscript a b pos) (tOp r ta tb) := by
  intro pins s σ H Q I h
  exact Subscript_ (binT ha hb I h fun v u s2 x y H2 I2 rx ry q => hr a b pins s2 σ H2 x y v u Q I2 rx ry q (hs _ _))

noncomputable def rIxL (K : PySem.W.Frag) : R2 := fun x y H Q => ∃ p xs i v, x = .ref p ∧ y = .int i ∧ SqL K H p xs ∧ atI xs i = some v ∧ Q v H
noncomputable def rIxT (K : PySem.W.Frag) : R2 := fun x y H Q => ∃ p xs i v, x = .ref p ∧ y = .int i ∧ SqT K H p xs ∧ atI xs i = some v ∧ Q v H
noncomputable def rIxS : R2 := fun x y H Q => ∃ z i c, x = .str z ∧ y = .int i ∧ z.length ≤ sizeLine ∧ atI z.cps.toList i = some c ∧ Q (.str ⟨#[c]⟩) H
theorem ix_list : IxR X (rIxL X.K) := by
  intro value slice pins s σ H x y v u Q I rx ry h hs
  obtain ⟨p, xs, i, z, rfl, rfl, hq, he, q⟩ := h
  cases rx
  obtain ⟨t, rfl⟩ := ry
  obtain ⟨its, r, pl, hz⟩ := I.list hq
  obtain ⟨j, h1, h2, h3, h4, h5⟩ := atI_get he
  obtain ⟨w, ew, rw'⟩ := r.get h2
  have hl := r.length
  have hn := line63
  have fin : EP X pins σ Q w s := ⟨z, H, I, rw', q⟩
  by_cases h0 : 0 ≤ i
  · have hj : i.toNat = j := by
      rw [seqIndex_of h0 h5] at h1
      exact Option.some.inj h1
    exact item_listR pl.isList h0 (by omega) (by rw [hj]; simpa using ew) fin hs
  · have hj : (i + (its.toArray.size : Int)).toNat = j := by
      rw [seqIndex_neg (by omega) h4] at h1
      rw [List.size_toArray, ← hl]
      exact Option.some.inj h1
    exact subscriptTail_builtinR (x := w) pl.isList.typeIs slot_list_getitem.lookup
      (wpAny_getItem_list_neg (Q := fun r s' => r = w ∧ EP X pins σ Q r s') pl.isList (by omega) (by rw [List.size_toArray] <;> omega) (by omega) (by rw [hj]; simpa using ew) ⟨rfl, fin⟩) hs
theorem ix_tup : IxR X (rIxT X.K) := by
  intro value slice pins s σ H x y v u Q I rx ry h hs
  obtain ⟨p, xs, i, z, rfl, rfl, hq, he, q⟩ := h
  cases rx
  obtain ⟨t, rfl⟩ := ry
  obtain ⟨its, r, pl, hz⟩ := I.tuple hq
  obtain ⟨j, h1, h2, h3, h4, h5⟩ := atI_get he
  obtain ⟨w, ew, rw'⟩ := r.get h2
  have hl := r.length
  have hn := line63
  have fin : EP X pins σ Q w s := ⟨z, H, I, rw', q⟩
  exact subscriptTail_builtinR (x := w) pl.typeIs slot_tuple_getitem.lookup
    (getItem_tuple (j := j) (Q := fun r s' => r = w ∧ EP X pins σ Q r s') pl (by omega) (by omega) (by rw [List.size_toArray, ← hl]; exact h1) (by simpa using ew) ⟨rfl, fin⟩) hs
theorem ix_str : IxR X rIxS := by
  intro value slice pins s σ H x y v u Q I rx ry h hs
  obtain ⟨z, i, c, rfl, rfl, hz, he, q⟩ := h
  obtain ⟨t, rfl⟩ := rx
  obtain ⟨t', rfl⟩ := ry
  obtain ⟨j, h1, h2, h3, h4, h5⟩ := atI_get he
  have hl : z.cps.toList.length = z.length := by simp [Str.length]
  rw [hl] at h1 h4 h5
  have hn := line63
  exact tail_any (typeIs_str s z t) slot_str_getitem.lookup (getItem_str (c := c) (by
    have e1 : decide (i < -(2 ^ 63 : Int)) = false := decide_eq_false (by omega)
    have e2 : decide (i ≥ 2 ^ 63) = false := decide_eq_false (by omega)
    rw [e1, e2, Bool.or_false]) (by rw [h1]; simpa using h2) ⟨.str ⟨#[c]⟩, H, I.tok _, ⟨_, rfl⟩, q⟩) hs
/-! ### xs[i] = v, any sign -/
/-- the list's object behind a store -/
theorem Inv.lst {pins : List (Addr × Obj)} {σ : St} {H : Hp} {s : Shared} {p : Addr} {xs : List V} (I : Inv X pins σ H s) (h : H p = some (.lst xs)) :
    ∃ (its : List Value) (n : Nat), Vals xs its ∧ s.heap.get? p = some { cls := .type "list", data := .seq its.toArray n } ∧ xs.length ≤ sizeLine := by
  obtain ⟨z, its, n, r, e⟩ := I.hok p _ h
  exact ⟨its, n, r, e, z⟩
/-! ### slices -/
theorem slice_bounds (lo hi : Option Int) (n : Nat) : (sliceBounds lo hi none n).1 = ((HT.sIx n 0 lo : Nat) : Int) ∧ (sliceBounds lo hi none n).2.1 = ((HT.sIx n n hi : Nat) : Int) ∧ (sliceBounds lo hi none n).2.2 = 1 := by
  refine ⟨?_, ?_, rfl⟩
  · cases lo with
    | none => simp [sliceBounds, HT.sIx]
    | some i =>
      simp only [sliceBounds, HT.sIx, Option.getD_none, show (1 : Int) > 0 by decide, if_true]
      by_cases h : i < 0
      · simp only [h, if_true] <;> omega
      · simp only [h, if_false] <;> omega
  · cases hi with
    | none => simp [sliceBounds, HT.sIx]
    | some i =>
      simp only [sliceBounds, HT.sIx, Option.getD_none, show (1 : Int) > 0 by decide, if_true]
      by_cases h : i < 0
      · simp only [h, if_true] <;> omega
      · simp only [h, if_false] <;> omega
theorem slicePick_cut (its : List Value) (lo hi : Option Int) : slicePick its.toArray lo hi none = ((its.drop (HT.sIx its.length 0 lo)).take (HT.sIx its.length its.length hi - HT.sIx its.length 0 lo)).toArray := by
  obtain ⟨h1, h2, h3⟩ := slice_bounds lo hi its.toArray.size
  unfold slicePick
  rw [h1, h2, h3]
  simp only [sliceRange_one, pick_run, List.size_toArray] <;> rfl
/-- xs[lo:hi] of a list: a new list -/
noncomputable def rSlL (K : PySem.W.Frag) : V → Option Int → Option Int → Hp → VK → Prop := fun x lo hi H Q => ∃ a xs, x = .ref a ∧ SqL K H a xs ∧ ∀ p, H p = none → Q (.ref p) (upd H p (.lst (cutV xs lo hi)))
theorem sl_list : SlR X (rSlL X.K) := by
  intro pins s σ H x v vl vu lo hi sl Q I rx hs pl pu h
  obtain ⟨a, xs, rfl, hx, q⟩ := h
  cases rx
  obtain ⟨its, r, ht, hz⟩ := I.list hx
  have hlen := r.length
  refine ⟨"list", _, slot_list_getitem.lookup, ht.isList.typeIs, ?_⟩
  refine wpAny_getItem_list_slice ht.isList hs pl pu .none (by simp) ?_ (by rw [List.size_toArray] <;> omega)
  rw [slicePick_cut, ← hlen]
  refine ⟨.ref s.heap.objs.size, _, I.laid (t' := s.toks) (o := .lst (cutV xs lo hi)) (fun b ob q => Heap.get?_push_of_some _ q) (Nat.le_refl _) ?_, rfl, q _ (I.hok.fresh (Nat.le_refl _))⟩
  exact ⟨Nat.le_trans (cutV_length xs lo hi) hz, _, 0, (r.drop (HT.sIx xs.length 0 lo)).take (HT.sIx xs.length xs.length hi - HT.sIx xs.length 0 lo), Heap.get?_push_size _ rfl⟩

/-! ### in, not in: flat items -/
/-! ### len, list(x), tuple(x) of any list or tuple that is read -/
theorem call_len_seq : CallR X (.builtin "len") (fun xs H Q => ∃ p ys, xs = [.ref p] ∧ (SqL X.K H p ys ∨ SqT X.K H p ys) ∧ Q (.int ys.length) H) := by
  intro pins s σ H xs us Q I r h
  obtain ⟨p, ys, rfl, hq, q⟩ := h
  obtain ⟨u, rfl, rx⟩ := vals1 r
  cases rx
  have hn := line63
  rcases hq with hq | hq
  · obtain ⟨its, r', pl, hz⟩ := I.list hq
    have hlen := r'.length
    exact Calls.call_len_list pl.isList (by simp only [List.size_toArray] <;> omega) ⟨.int ys.length, H, I.tok _, ⟨s.toks + 1, by rw [List.size_toArray, hlen]⟩, q⟩
  · obtain ⟨its, r', pl, hz⟩ := I.tuple hq
    have hlen := r'.length
    exact len_tuple pl (by simp only [List.size_toArray] <;> omega) ⟨.int ys.length, H, I.tok _, ⟨s.toks + 1, by rw [List.size_toArray, hlen]⟩, q⟩
theorem call_len_str : CallR X (.builtin "len") (fun xs H Q => ∃ z, xs = [.str z] ∧ z.length ≤ sizeLine ∧ Q (.int z.length) H) := by
  intro pins s σ H xs us Q I r h
  obtain ⟨z, rfl, hz, q⟩ := h
  obtain ⟨u, rfl, t, rfl⟩ := vals1 r
  have hn := line63
  exact len_str (by omega) ⟨.int z.length, H, I.tok _, ⟨_, rfl⟩, q⟩
theorem call_list_of : CallR X (.type "list") (fun xs H Q => ∃ p ys, xs = [.ref p] ∧ (SqL X.K H p ys ∨ SqT X.K H p ys) ∧ ∀ l, H l = none → Q (.ref l) (upd H l (.lst ys))) := by
  intro pins s σ H xs us Q I r h
  obtain ⟨p, ys, rfl, hq, q⟩ := h
  obtain ⟨u, rfl, rx⟩ := vals1 r
  cases rx
  have fin : ∀ (its : List Value), Vals ys its → ys.length ≤ sizeLine → ∀ (h' : Heap) (c' : Nat), (∀ b o', s.heap.get? b = some o' → h'.get? b = some o') →
      h'.get? s.heap.objs.size = some { cls := .type "list", dict := none, data := .seq its.toArray c', slots := #[] } → EP X pins σ Q (.ref s.heap.objs.size) { s with heap := h' } := fun its r' hz h' c' kp e =>
    ⟨.ref s.heap.objs.size, _, I.laid (t' := s.toks) kp (Nat.le_refl _) (show ObjOk X.prog X.w _ h' _ (.lst ys) from ⟨hz, its, c', r', e⟩), rfl, q _ (I.hok.fresh (Nat.le_refl _))⟩
  rcases hq with hq | hq
  · obtain ⟨its, r', pl, hz⟩ := I.list hq
    have hlen := r'.length
    obtain ⟨o, ho, hc, n, hd⟩ := pl.isList
    exact call_list_seq p (.inl rfl) ho hc hd (fun h' c' kp e => fin its r' hz h' c' kp e) (by simp only [List.size_toArray] <;> omega)
  · obtain ⟨its, r', pl, hz⟩ := I.tuple hq
    have hlen := r'.length
    obtain ⟨o, ho, hc, n, hd⟩ := pl
    exact call_list_seq p (.inr rfl) ho hc hd (fun h' c' kp e => fin its r' hz h' c' kp e) (by simp only [List.size_toArray] <;> omega)
/-! ### the call of a builtin's method: o.m(..) -/
/-- the value is of that builtin type -/
noncomputable def tyV (K : PySem.W.Frag) (T : String) (x : V) (H : Hp) : Prop := match x with
  | .str _ => T = "str"
  | .int _ => T = "int"
  | .ref p => (T = "list" ∧ ∃ xs, SqL K H p xs) ∨ (T = "tuple" ∧ ∃ o, K.lookup p = some o ∧ o.cls = .type "tuple" ∧ o.dict = none) ∨
      (T = "dict" ∧ ((∃ kvs, H p = some (.dK kvs)) ∨ ∃ kvs, H p = some (.dT kvs))) ∨ (T = "set" ∧ ∃ S n, H p = some (.set S n))
  | _ => False
theorem tyV_is {pins : List (Addr × Obj)} {σ : St} {H : Hp} {s : Shared} {T : String} {x : V} {v : Value} (I : Inv X pins σ H s) (r : RelV x v) (ty : tyV X.K T x H) :
    s.TypeIs v T ∧ ∀ a, v = .ref a → ∃ ob, s.heap.get? a = some ob ∧ ob.dict = none := by
  cases x with
  | str z =>
    obtain ⟨t, rfl⟩ := r
    cases (show T = "str" from ty)
    exact ⟨typeIs_str s z t, fun _ e => nomatch e⟩
  | int i =>
    obtain ⟨t, rfl⟩ := r
    cases (show T = "int" from ty)
    exact ⟨typeIs_int s i t, fun _ e => nomatch e⟩
  | ref p =>
    cases r
    rcases ty with ⟨rfl, xs, hq⟩ | ⟨rfl, o, hk, hc, hd⟩ | ⟨rfl, hk⟩ | ⟨rfl, S, n, hk⟩
    · obtain ⟨its, _, pl, _⟩ := I.list hq
      refine ⟨pl.isList.typeIs, fun a e => ?_⟩
      cases e
      obtain ⟨o, n, e, c, hd, _⟩ := pl
      exact ⟨o, e, hd⟩
    · refine ⟨⟨o, I.kIn p o hk, hc⟩, fun a e => ?_⟩
      cases e
      exact ⟨o, I.kIn _ o hk, hd⟩
    · have z : ∃ o, s.heap.get? p = some o ∧ o.ExactDict := by
        rcases hk with ⟨kvs, hk⟩ | ⟨kvs, hk⟩
        · obtain ⟨_, _, _, _, o, _, _, e, ex, _⟩ := I.hok p _ hk
          exact ⟨o, e, ex⟩
        · obtain ⟨_, _, _, _, o, _, _, e, ex, _⟩ := I.hok p _ hk
          exact ⟨o, e, ex⟩
      obtain ⟨o, e, ex⟩ := z
      refine ⟨⟨o, e, ex.1⟩, fun a e2 => ?_⟩
      cases e2
      exact ⟨o, e, ex.2.1⟩
    · obtain ⟨o, _, _, _, e, ex, _⟩ := I.hok p _ hk
      refine ⟨⟨o, e, ex.1⟩, fun a e2 => ?_⟩
      cases e2
      exact ⟨o, e, ex.2.1⟩
  | _ => exact False.elim ty
noncomputable def tBM (K : PySem.W.Frag) (T : String) (r : V → List V → Hp → VK → Prop) (to : TE) (t : TA) : TE := fun σ H Q => to σ H fun x H1 => tyV K T x H1 ∧ t σ H1 fun xs H2 => r x xs H2 Q
variable {o e : Expr} {es : List Expr} {to : TE} {t : TA} {name : Str} {apos cpos : Pos} {T id : String} {r : V → List V → Hp → VK → Prop}
theorem pe_bm (pa : PlainAttrs T) (slot : Slot T name id) (hty : typeOf (.builtin id) = pure (.type "method_descriptor")) (hm : MtR X id r) (ho : PE X o to) (ha : PA X (e :: es) t)
    (hbase : attributeBase o name X.env (eval o X.env) = eval o X.env := by rfl)
    (hfew : ((backTo cpos (starEach (e :: es) X.env)).all (fun x => !x.1) && (backToKw cpos (keywordEach [] X.env)).all (fun x => x.1.isSome)
      && decide ((e :: es).length + ([] : List Keyword).length + (if ([] : List Keyword).isEmpty then 0 else 1) < 30)) = true := by rfl)
    (hline : (apos.endLine == cpos.line) = true := by rfl) (hs : starEach (e :: es) X.env = (false, eval e X.env) :: starEach es X.env := by rfl) (hplain : (backTo cpos (starEach es X.env)).any (·.1) = false := by rfl) :
    PE X (.Call (.Attribute o name apos) (e :: es) [] cpos) (tBM X.K T r to t) := by
  intro pins s σ H Q I h
  refine wpAny_Call_method_late hbase hfew hline rfl (thn (ho pins s σ H _ I h) fun v s1 ⟨x, H1, I1, r1, ty, q1⟩ => ?_)
  obtain ⟨h1, h2⟩ := tyV_is I1 r1 ty
  refine ⟨T, id, pa, slot, hty, h1, h2, ?_⟩
  have hA := ha cpos pins s1 σ H1 _ I1 q1
  rw [hs] at hA ⊢
  refine Calls.callWith_builtin (by show (false || (backTo cpos (starEach es X.env)).any (·.1)) = false; rw [hplain] <;> rfl) (Calls.evalArgs_plain ?_)
  exact thn hA fun us s2 ⟨vs, H2, I2, r2, q2⟩ => hm pins s2 σ H2 x vs v us Q I2 r1 r2 q2
/- xs.append(e), list.index on a module's tuple .. are MtR facts of 06m -/
end
end L2

namespace L2
open PySem PySem.Spec PyProof.Rows

noncomputable def MtM (X : Cx) (id : String) (r : V → List V → Hp → VK → Prop) : Prop :=
  ∀ (pins : List (Addr × Obj)) (s : Shared) (σ : St) (H : Hp) (x : V) (xs : List V) (v : Value) (us : List Value) (Q : VK), Inv X pins σ H s → RelV x v → Vals xs us → r x xs H Q →
    wpAny (model X.prog X.w) X.A (call (.builtin id) (v :: us)) (EP X pins σ Q) X.xe s

/-! ### lists of values -/
theorem Vals.one : ∀ {x : V} {us : List Value}, Vals [x] us → ∃ u, us = [u] ∧ RelV x u
  | _, _, .cons r .nil => ⟨_, rfl, r⟩
theorem Vals.zero : ∀ {us : List Value}, Vals [] us → us = []
  | _, .nil => rfl
theorem Vals.rep {xs : List V} {us : List Value} (h : Vals xs us) : ∀ k : Nat, Vals (List.replicate k xs).flatten (List.replicate k us).flatten
  | 0 => .nil
  | k + 1 => by
    rw [List.replicate_succ, List.replicate_succ, List.flatten_cons, List.flatten_cons]
    exact Vals.append h (Vals.rep h k)
theorem foldl_rep (its : List Value) : ∀ (k : Nat) (acc : List Value),
    List.foldl (fun x1 x2 => x1 ++ x2) acc.toArray (List.replicate k its.toArray) = (acc ++ (List.replicate k its).flatten).toArray
  | 0, acc => by simp
  | k + 1, acc => by
    have e : acc.toArray ++ its.toArray = (acc ++ its).toArray := by simp
    have e2 : (acc ++ its) ++ (List.replicate k its).flatten = acc ++ (List.replicate (k + 1) its).flatten := by
      rw [List.replicate_succ, List.flatten_cons, List.append_assoc]
    rw [← e2, ← foldl_rep its k (acc ++ its), ← e, List.replicate_succ, List.foldl_cons]

section
variable {X : Cx} {pins : List (Addr × Obj)} {σ : St} {H : Hp} {s : Shared} {l b : Addr} {xs ys zs : List V}

/-! ### the two steps: a tracked list is rewritten, a new list is laid -/
theorem Inv.lset {its its' : List Value} {n : Nat} {f : Array Value → Array Value} {t' : Nat} (I : Inv X pins σ H s) (hH : H l = some (.lst xs))
    (e : s.heap.get? l = some { cls := .type "list", data := .seq its.toArray n }) (hf : f its.toArray = its'.toArray) (hv : Vals ys its') (hz : ys.length ≤ sizeLine) :
    Inv X pins σ (upd H l (.lst ys)) { s with heap := s.heap.update l (Obj.mapSeq f), toks := t' } := by
  have q := PySem.IsL.update e f
  rw [hf] at q
  refine I.write (x := l) (e := l) (by rw [hH]; exact trivial) (.inl rfl) (fun b' u hb hu => (Heap.get?_update_other s.heap (Obj.mapSeq f) (Ne.symm hb)).trans hu) ⟨_, q⟩ ?_
  exact ⟨hz, its', _, hv, q⟩
theorem Inv.lnew {its : List Value} {t' : Nat} (I : Inv X pins σ H s) (hv : Vals ys its) (hz : ys.length ≤ sizeLine) :
    Inv X pins σ (upd H s.heap.objs.size (.lst ys)) { s with heap := s.heap.push { cls := .type "list", data := .seq its.toArray }, toks := t' } :=
  I.laid (fun _ _ q => Heap.get?_push_of_some _ q) (Nat.le_refl _) ⟨hz, its, 0, hv, Heap.get?_push_size _ rfl⟩
theorem Inv.fresh (I : Inv X pins σ H s) : H s.heap.objs.size = none := I.hok.fresh (Nat.le_refl _)
theorem Inv.lstM (I : Inv X pins σ H s) (hH : H l = some (.lst xs)) : xs.length ≤ sizeLine ∧ ∃ (its : List Value) (n : Nat), Vals xs its ∧ xs.length = its.length ∧ s.heap.get? l = some { cls := .type "list", data := .seq its.toArray n } := by
  obtain ⟨z, its, n, r, e⟩ := I.hok l _ hH
  exact ⟨z, its, n, r, r.length, e⟩

theorem notLongL {n : Nat} (h : n ≤ sizeLine) : Builtin.List.listTooLong n = false := by
  unfold Builtin.List.listTooLong
  exact decide_eq_false (by omega)
end

section
variable {X : Cx}

/-! ### methods -/
noncomputable def rAppend : V → List V → Hp → VK → Prop := fun x vs H Q => ∃ l xs y, x = .ref l ∧ vs = [y] ∧ H l = some (.lst xs) ∧ xs.length < sizeLine ∧ Q .non (upd H l (.lst (xs ++ [y])))
theorem mt_append : MtM X "list.append" rAppend := by
  intro pins s σ H x vs v us Q I rx rv h
  obtain ⟨l, xs, y, rfl, rfl, hH, hz, q⟩ := h
  cases rx
  obtain ⟨u, rfl, ru⟩ := rv.one
  obtain ⟨z, its, n, r, hl, e⟩ := I.lstM hH
  refine call_meets F.slot_list_append ⟨_, e, rfl⟩ F.entry_list_append (F.args_list_append_2 _ _) (PySem.list_append l its.toArray n u (by rw [List.size_toArray]; omega)) ⟨e, ?_⟩
  refine ⟨.non, _, I.lset (its' := its ++ [u]) hH e (by simp) (r.append (.cons ru .nil)) ?_, rfl, q⟩
  rw [List.length_append, List.length_singleton]
  omega

/-! ### list + list, list += list, list * int -/
noncomputable def rCat : R2 := fun x y H Q => ∃ l b xs zs, x = .ref l ∧ y = .ref b ∧ H l = some (.lst xs) ∧ H b = some (.lst zs) ∧ xs.length + zs.length ≤ sizeLine ∧ ∀ p, H p = none → Q (.ref p) (upd H p (.lst (xs ++ zs)))
theorem op_cat : OpR X (binaryOp .Add) rCat := by
  intro pins s σ H x y v u Q I rx ry h
  obtain ⟨l, b, xs, zs, rfl, rfl, hH, hB, hz, q⟩ := h
  cases rx
  cases ry
  obtain ⟨z, its, n, r, hl, e⟩ := I.lstM hH
  obtain ⟨z2, its2, n2, r2, hl2, e2⟩ := I.lstM hB
  refine PySem.P.add_list e e2 ?_ (by rw [List.size_toArray, List.size_toArray]; omega)
  have ea : its.toArray ++ its2.toArray = (its ++ its2).toArray := by simp
  rw [ea]
  exact ⟨.ref _, _, I.lnew (t' := s.toks) (r.append r2) (by rw [List.length_append]; omega), rfl, q _ I.fresh⟩
/-- a list times an int (a negative one is nothing) -/
noncomputable def rRep : R2 := fun x y H Q => ∃ l k xs, x = .ref l ∧ y = .int k ∧ H l = some (.lst xs) ∧ -(2 ^ 63) ≤ k ∧ k < 2 ^ 63 ∧ xs.length * k.toNat ≤ sizeLine ∧
  ∀ p, H p = none → Q (.ref p) (upd H p (.lst (List.replicate k.toNat xs).flatten))
theorem len_rep {α : Type} (xs : List α) (k : Nat) : (List.replicate k xs).flatten.length = k * xs.length := by
  induction k with
  | zero => simp
  | succ k ih => rw [List.replicate_succ, List.flatten_cons, List.length_append, ih, Nat.succ_mul, Nat.add_comm]
theorem op_rep : OpR X (binaryOp .Mult) rRep := by
  intro pins s σ H x y v u Q I rx ry h
  obtain ⟨l, k, xs, rfl, rfl, hH, h1, h2, hz, q⟩ := h
  cases rx
  obtain ⟨t, rfl⟩ := ry
  obtain ⟨z, its, n, r, hl, e⟩ := I.lstM hH
  have hlen : its.toArray.size * k.toNat ≤ sizeLine := by rw [List.size_toArray, ← hl]; exact hz
  have hcap : ¬ its.toArray.size * k.toNat > (2 ^ 63 - 1) / 8 := by
    have : (sizeLine : Nat) ≤ (2 ^ 63 - 1) / 8 := by decide
    omega
  have hfit : ¬ (!Builtin.List.listFitsIndex k) = true := by
    rw [fitsIndex_both h1 h2]
    exact Bool.false_ne_true
  have hlong : ¬ Builtin.List.listTooLong (its.toArray.size * k.toNat) = true := by
    rw [notLongL hlen]
    exact Bool.false_ne_true
  have hnew : List.foldl (fun x1 x2 => x1 ++ x2) #[] (List.replicate (if its.toArray.isEmpty = true then 0 else k.toNat) its.toArray) = (List.replicate k.toNat its).flatten.toArray := by
    have f0 : ∀ m : Nat, List.foldl (fun x1 x2 => x1 ++ x2) #[] (List.replicate m its.toArray) = (List.replicate m its).flatten.toArray := fun m => by
      have := foldl_rep its m []
      rw [List.nil_append] at this
      exact this
    rw [f0]
    cases its with
    | nil => simp
    | cons a r' => rw [if_neg (by simp)]
  refine wpAny_binaryOp_repeat_ref (T := "list") (U := "int") (by decide) ⟨_, e, rfl⟩ (fun s' => typeIs_int s' k t) noFill_list_mul F.fills_int_mul F.slot_int_rmul repeat_list F.slot_int_index.lookup
    (call_meets F.slot_int_rmul (typeIs_int s k t) F.entry_int_rmul (F.args_int_rmul_2 _ _) (int___rmul___int_list k t l its.toArray n)
      ⟨e, rfl, ⟨_, e, rfl⟩, call_meets F.slot_list_mul ⟨_, e, rfl⟩ F.entry_list_mul (F.args_list_mul_2 _ _) (AutoListH.list___mul___list_int_3 l its.toArray n k t hfit hcap hlong) ⟨e, ?_⟩⟩)
  rw [hnew]
  exact ⟨.ref _, _, I.lnew (t' := s.toks) (r.rep k.toNat) (by rw [len_rep, Nat.mul_comm]; exact hz), rfl, q _ I.fresh⟩

/-! ### del xs[i] -/
end

/-! ### xs[a:b] = ys -/
section
variable {prog : Program} {w : World} {A : Around} {E : Value → Shared → Prop} {s : Shared}
set_option maxRecDepth 100000 in
end

section
variable {X : Cx}
end
end L2

namespace Att
open PySem PySem.W PySem.Calls PyProof.Rows

/-! ### the script -/
theorem ints_of_wellAll {P : Params} {h : Heap} : ∀ (ns : List Int) (vs : List Value), WellAll P h vs (ns.map WData.int) → IntsAre vs ns := by
  intro ns
  induction ns with
  | nil =>
    intro vs w
    rw [List.map_nil] at w
    cases w
    exact .nil
  | cons n ns ih =>
    intro vs w
    rw [List.map_cons] at w
    cases w with
    | cons a b =>
      cases a
      exact .cons _ _ (ih _ b)

theorem script_of {l : OpenLaw} {n : Nat} (hn : l.most = some n) {P : Params} {h : Heap} {args : List WData} {vals : List Value}
    (hpre : l.row.toRowW.claim.pre args = true) (hwl : WellAll P h vals args) :
    ∃ a vs ns, vals = [Value.ref a] ∧ args = [WData.list (ns.map WData.int)] ∧ h.get? a = some { cls := .type "list", data := .seq vs.toArray } ∧ IntsAre vs ns ∧ ns.length ≤ n := by
  have hsh : WShape.hasAll [] args [.list .int] = true := (pre_splitW hpre).1
  have hc : l.pre.holds [] { args := args } = true := (pre_splitW hpre).2
  obtain ⟨d, r, rfl, h1, h2⟩ := hasAllW_cons hsh
  obtain rfl := hasAllW_nil h2
  obtain ⟨xs, rfl, h3⟩ := hasW_list h1
  obtain ⟨ns, rfl⟩ := items_int h3
  have hlen : ns.length ≤ n := by
    unfold OpenLaw.pre at hc
    have h4 : (WTm.not (.lt (.lit (.int (n : Int))) (.len (.arg 0)))).holds [] { args := [.list (ns.map .int)] } = true := by
      have h4 := (holds_andW hc).1
      rw [hn] at h4
      exact h4
    have h5 := condW_of h4 (w_not (w_lt w_lit (w_len_list (w_arg rfl))))
    rw [List.length_map] at h5
    refine Nat.le_of_not_lt fun q => ?_
    have q' : (n : Int) < ((ns.length : Nat) : Int) := by omega
    first
      | (rw [decide_eq_true q'] at h5; exact absurd h5 (by decide))
      | (simp at h5; omega)
  cases hwl with
  | cons w1 w2 =>
    cases w2
    cases w1 with
    | list ho hall => exact ⟨_, _, ns, rfl, rfl, ho, ints_of_wellAll ns _ hall, hlen⟩

theorem post_true (l : OpenLaw) (args : List WData) : l.row.toRowW.claim.post args (.bool true) args = true :=
  postW_of (r := l.row.toRowW) (X := (true == true))
    (show WShape.has [] (.bool true) .bool = true by first | rfl | decide | simp [WShape.has, WShape.arms, WShape.armsAll])
    (show (WTm.eq .res (.lit (.bool true))).value [] { args := args, res := some (.bool true), after := args } = some (.bool (true == true)) from w_eq_bool (w_res rfl) w_lit) rfl

/-! ### the attachment: holds_open's last premise (the goal 'hc' behind k_head) from a wpAny of the law's body -/
/-- the same from a codeAny of the CALL (for a layer whose function contracts speak of calls) -/
theorem attach_call {l : OpenLaw} {n : Nat} {q : Program} {loose : List Str} {XP : (Str → Option Value) → Heap → Prop} {YP : World → Heap → Prop} {d : DefRec}
    (hn : l.most = some n) (hdf : d.params.defaults = [])
    (call : ∀ (w : World) (s₀ s₁ : Shared) (mg mb : Str → Option Value) (fa : Addr) (o : Obj) (pm cd doc : Value) (a : Addr) (vs : List Value) (ns : List Int),
      Ground q loose [] XP w s₀ mg mb s₁.heap → YP w s₁.heap →
      s₁.heap.get? fa = some o → o.data = .func (docDef d.name d.params d.body d.scope pm cd doc) → s₁.heap.CodeRec cd d.name → mg d.name = some (.ref fa) →
      s₁.heap.get? a = some { cls := .type "list", data := .seq vs.toArray } → IntsAre vs ns → ns.length ≤ n → s₁.gens = #[] →
      codeAny (model l.prog w) callerA (.call (.ref fa) ⟨[.ref a], []⟩) (fun r s' => r = .ok (.ret (.bool true)) ∧ OldK s₁.heap s'.heap ∧ s'.os = s₁.os ∧ AllBare s'.gens) s₁) :
    WalkO q loose XP YP l.row.toRowW d [] (fun f vs => PySem.call f vs) := by
  intro w s₀ s₁ mg mb G Y fa o pm cd doc dV kV ho hd hcd hD hmg hg args vals as hpre hlay hrd hwl hlo
  obtain rfl : dV = .none := Dflts.none hD hdf
  obtain rfl : kV = .none := Dflts.noKw hD
  obtain ⟨a, vs, ns, rfl, rfl, hobj, hints, hlen⟩ := script_of hn hpre hwl
  refine enter_call (codeAny_mono (call w s₀ s₁ mg mb fa o pm cd doc a vs ns G Y ho (fd_plain hd) hcd hmg hobj hints hlen hg) fun r s' hq => ?_)
  obtain ⟨rfl, h2, h3, h4⟩ := hq
  exact ⟨.inl ⟨.bool true, .bool true, [], rfl, fun _ => rfl, .bool true, post_true l _, fun _ => ⟨List.Pairwise.nil, fun _ hm => (nomatch hm)⟩⟩, h2, h3, h4⟩

/-! ### rules over ANY heap (no ledger) from facts about the written part K: the library's own take a ledger (News) for what they write -/
section
variable {prog : Program} {w : World} {A : Around} {E : Value → Shared → Prop} {s : Shared} {K : Frag}

/-! the whole heap as the ledger: makes every rule that writes through a ledger a rule over any heap -/
noncomputable def ledger (h : Heap) (L d : Addr) : List (Addr × Obj) := (List.range h.objs.size).filterMap fun a => if a = L ∨ a = d then none else (h.get? a).map fun o => (a, o)
end
end Att

namespace L2
open PySem PySem.Spec PyProof.Rows

theorem vals_ints : ∀ {vs : List Value} {ns : List Int}, IntsAre vs ns → Vals (ns.map V.int) vs
  | _, _, .nil => .nil
  | _, _, .cons n t h => .cons ⟨t, rfl⟩ (vals_ints h)

/-- nothing is tracked but the script, known to the object (or it is an object of the module) -/
noncomputable def Only (H : Hp) : Prop := ∀ b, H b = none ∨ ∃ o xs, H b = some (.frz o (.lst xs))

/-- THE HEAD: the law's promise, at the heap behind the top. F, the promise of the law's def, may use that base is part of the heap (so K.In base, base.Ns mainGlobals mg stand in Mod) -/
theorem law_call {P : Program} {w : World} {K : PySem.W.Frag} {mg mb : Str → Option Value} {CX : CXT} {k : Nat} {fa a : Addr} {fd : FuncData} {x : Str} {sp : Sp} {s₁ : Shared} {vs : List Value} {ns : List Int}
    (KX : K.In s₁.heap) (hns : s₁.heap.Ns mainGlobals mg) (hb : s₁.heap.Ns builtinsNs mb) (hbb : ∀ x : Str, x ≠ "__name__" → mb x = bootBuiltins x) (hlim : s₁.heap.NoLimit) (hg : s₁.gens = #[])
    (ha : s₁.heap.get? a = some { cls := .type "list", data := .seq vs.toArray }) (hi : IntsAre vs ns) (hl : ns.length ≤ sizeLine) (hr : Room k callerA)
    (F : ∀ base : Heap, K.In base → base.Ns mainGlobals mg → FnOk P w K mg base CX k fa fd [x] sp) (hbind : ∀ (s : Shared) (u : Value), BindsTo s fd ⟨[u], []⟩ [(x, u)])
    (hsp : ∀ H : Hp, Only H → SqL K H a (ns.map V.int) → sp [.ref a] H (fun v _ => v = .bl true) fun _ _ _ => False)
    (hCX : ∀ H e s', CX [] H s₁ (fun _ _ _ => False) e s' → False) :
    codeAny (model P w) callerA (.call (.ref fa) ⟨[.ref a], []⟩) (fun r s' => r = .ok (.ret (.bool true)) ∧ OldK s₁.heap s'.heap ∧ s'.os = s₁.os ∧ AllBare s'.gens) s₁ := by
  have rv := vals_ints hi
  have lenV := hi.length
  -- from an abstract heap in which nothing but the script may be tracked
  have core : ∀ H : Hp, Only H → SqL K H a (ns.map V.int) → HOk P w H s₁.heap → (∀ b, H b ≠ none → b = a) → (H a ≠ none → K.lookup a = none) →
      codeAny (model P w) callerA (.call (.ref fa) ⟨[.ref a], []⟩) (fun r s' => r = .ok (.ret (.bool true)) ∧ OldK s₁.heap s'.heap ∧ s'.os = s₁.os ∧ AllBare s'.gens) s₁ := by
    intro H hO hS hok hA hK
    have base_of : ∀ {b : Addr} {o : Obj}, s₁.heap.get? b = some o → H b = none → (hidT s₁.heap H).get? b = some o := fun e n => hidT_get e n
    have noA : ∀ {b : Addr} {o : Obj} {es : Array DictEntry} {ep : Nat}, s₁.heap.get? b = some o → o.data = .dict es ep → H b = none := fun {b o es ep} e d => by
      cases q : H b with
      | none => rfl
      | some u =>
        have e' : b = a := hA b (by rw [q]; simp)
        subst e'
        rw [ha] at e; cases e
        have d' : Data.seq vs.toArray _ = Data.dict es ep := d
        cases d'
    have nsK : ∀ {b : Addr} {m : Str → Option Value}, s₁.heap.Ns b m → (hidT s₁.heap H).Ns b m := fun {b m} ⟨o, es, ep, e, d, r⟩ => ⟨o, es, ep, base_of e (noA e d), d, r⟩
    have hKb : K.In (hidT s₁.heap H) := fun b o e => base_of (KX b o e) (by
      cases q : H b with
      | none => rfl
      | some u =>
        have e' : b = a := hA b (by rw [q]; simp)
        subst e'
        rw [hK (by rw [q]; simp)] at e; cases e)
    have hM : Mod K mg (hidT s₁.heap H) := ⟨hKb, nsK hns, ⟨mb, nsK hb, hbb⟩, let ⟨mc, h1, h2⟩ := hlim; ⟨mc, nsK h1, h2⟩⟩
    have e0 : Env0 P w K mg (hidT s₁.heap H) callerA [] s₁ H := ⟨rfl, hM, fun b o e => of_hidT e, Nat.le_of_eq (hidT_size _ _), trivial, fun b hb => absurd (show b ∈ ([] : List Addr) from hb) (by simp), hok, .of_eq hg⟩
    refine codeAny_mono ((F _ hKb (nsK hns)).run callerA [] s₁ H ⟨[.ref a], []⟩ [.ref a] [.ref a] _ _ hr e0 (hbind s₁ (.ref a)) (.cons rfl .nil) (hsp H hO hS)) fun r s' h => ?_
    cases r with
    | error e => exact (hCX H e s' h).elim
    | ok fl =>
      cases fl with
      | next => exact False.elim h
      | brk => exact False.elim h
      | cont => exact False.elim h
      | ret u =>
        obtain ⟨v, H', os, bare, un, hok', r', q⟩ := h
        have q' : v = .bl true := q
        subst q'
        obtain rfl : u = Value.bool true := r'
        refine ⟨rfl, OldK.of_keep fun b o e => ?_, os, bare⟩
        cases q : H b with
        | none => exact un.keep b o e q (by intro z; exact absurd (show b ∈ ([] : List Addr) from z) (by simp)) (by simp)
        | some u =>
          rcases hO b with z | ⟨ob, xs, z⟩
          · rw [q] at z; cases z
          · have z2 := un.frzs b ob _ z
            obtain ⟨e1, _⟩ := hok b _ z
            obtain ⟨e2, _⟩ := hok' b _ z2
            rw [e] at e1; cases e1
            exact e2
  cases hk : K.lookup a with
  | some o =>
    -- the script is one of the module's own objects
    have e := KX a o hk
    rw [ha] at e
    cases e
    refine core (fun _ => none) (fun _ => .inl rfl) (.inr ⟨_, vs.toArray, _, hk, rfl, rfl, rfl, by rw [List.size_toArray, lenV]; exact hl, by simpa using rv⟩) (fun b u z => by have z' : (none : Option HO) = some u := z; cases z') (fun b z => absurd rfl z) fun z => absurd rfl z
  | none =>
    refine core (fun b => if b = a then some (.frz { cls := .type "list", data := .seq vs.toArray } (.lst (ns.map V.int))) else none) (fun b => ?_) (.inl (.inr ⟨{ cls := .type "list", data := .seq vs.toArray }, if_pos rfl⟩)) (fun b u z => ?_) (fun b z => ?_) fun _ => hk
    · by_cases hb : b = a
      · exact .inr ⟨_, _, if_pos hb⟩
      · exact .inl (if_neg hb)
    · by_cases hb : b = a
      · have z' := (if_pos hb).symm.trans z
        cases z'
        subst hb
        exact ⟨ha, by rw [List.length_map]; exact hl, vs, _, rv, ha⟩
      · have z' := (if_neg hb).symm.trans z
        cases z'
    · by_cases hb : b = a
      · exact hb
      · exact absurd (if_neg hb) z
end L2

namespace L2
open PySem PySem.Spec PyProof.Rows

noncomputable abbrev KOf {K : PySem.W.Frag} {h : Heap} (_ : K.In h) : PySem.W.Frag := K

/-- the goal that k_head leaves (case hc), from the law's promise. F gives the function object fd (K's own) once, then the promise over every base -/
theorem walk_of {l : PySem.W.OpenLaw} {n k : Nat} {q : Program} {loose : List Str} {XP : (Str → Option Value) → Heap → Prop} {YP : World → Heap → Prop} {d : DefRec} {K : Params → PySem.W.Frag} {CX : World → CXT} {sp : World → Sp} {x : Str}
    (hn : l.most = some n) (hn2 : n ≤ sizeLine) (hdf : d.params.defaults = []) (hr : Room k callerA)
    (hY : ∀ (w : World) (h : Heap), YP w h → (K w.params).In h)
    (F : ∀ (w : World) (mg : Str → Option Value) (fa : Addr) (h : Heap), (K w.params).In h → h.Ns mainGlobals mg → mg d.name = some (.ref fa) →
      ∃ fd : FuncData, (∀ (s : Shared) (u : Value), BindsTo s fd ⟨[u], []⟩ [(x, u)]) ∧
        ∀ base : Heap, (K w.params).In base → base.Ns mainGlobals mg → FnOk l.prog w (K w.params) mg base (CX w) k fa fd [x] (sp w))
    (hsp : ∀ (w : World) (H : Hp) (a : Addr) (ns : List Int), ns.length ≤ n → Only H → SqL (K w.params) H a (ns.map V.int) → sp w [.ref a] H (fun v _ => v = .bl true) fun _ _ _ => False)
    (hCX : ∀ (w : World) (H : Hp) (s : Shared) (e : Value) (s' : Shared), CX w [] H s (fun _ _ _ => False) e s' → False) :
    PySem.W.WalkO q loose XP YP l.row.toRowW d [] (fun f vs => PySem.call f vs) := by
  refine Att.attach_call hn hdf fun w s₀ s₁ mg mb fa o pm cd doc a vs ns G Y ho hd hcd hmg hobj hints hlen hg => ?_
  have KX := hY w _ Y
  obtain ⟨fd, hb, hF⟩ := F w mg fa _ KX G.T.g hmg
  exact law_call KX G.T.g G.T.b G.T.builtins G.T.nolimit hg hobj hints (Nat.le_trans hlen hn2) hr hF hb (fun H hO hS => hsp w H a ns hlen hO hS) fun H e s' => hCX w H s₁ e s'
end L2

/- THE LAST THEOREM (shape; LID, My.* are yours):
   My.Adr: a structure of the addresses that your layer names (classes, functions); My.Txt K t: a structure (Prop) of the equations over K;
   My.txt_mk : {K} {implicit addresses ..} (e1 : nsIn K mainGlobals "law" = some (some (.ref f))) (e2 : K.lookup f = some ⟨oc, od, .func (fnOf "law" "law" params body scope dV kV doc pm an cdv ct), sl⟩) (e3 : codeIn K cdv "law" = true) .. : ∃ t, My.Txt K t

set_option maxRecDepth 100000 in
set_option maxHeartbeats 0 in
theorem PySem.Challenge.cw_LID_holds : PySem.Challenge.rw_LID.Holds := by
  w_on; o_law; k_head; (case hw => w_witness2)
  k_fill
  refine L2.walk_of (l := PySem.Challenge.rw_LID) (n := 63) (k := 40) (x := "script") (CX := fun w => ..) (sp := fun _ => My.sp_law) rfl (by decide) rfl ⟨rfl, by decide, by decide⟩ (fun w h Y => PySem.W.kIn_of Y) ?F ?S ?C
  case F =>
    intro w mg fa h KX G hmg
    have T : ∃ t, My.Txt (L2.KOf KX) t := by
      dsimp only [L2.KOf]                          -- K must stand as «<heap const> w.params» for k_is
      refine' My.txt_mk ?e1 ?e2 ?e3 ..
      (case e1 => PySem.W.k_is)                    -- in the order: a name -> its address -> its object -> its parts
      (case e2 => PySem.W.k_is)
      ..
    obtain ⟨t, T⟩ := T
    have e0 := hmg.symm.trans (PySem.W.mg_of KX G T.law)
    cases e0                                       -- fa is the law's own address
    exact ⟨_, fun s u => .of_eq rfl, fun base kb nb => My.law_fn T kb nb⟩     -- if «.of_eq rfl» comes too early: refine' ⟨_, ?b, fun base kb nb => My.law_fn T kb nb⟩; exact fun s u => .of_eq rfl
  case S => exact fun w H a ns hl hO hS => ..
  case C => exact ..
(the tactic k_is has no namespace: write k_is) -/

/-! SHORT WORDS over the layer: a def of the text, its body, what a loop and a test want. -/
namespace L2
open PySem PySem.Spec PyProof.Rows

/-! ### the text by places -/
/-- the j-th statement of a class's body -/
noncomputable def inClass (s : Stmt) (j : Nat) : Stmt := match s with
  | .ClassDef _ _ _ body _ _ _ _ _ _ _ => body.getD j (.Pass ⟨0, 0, 0, 0⟩)
  | _ => .Pass ⟨0, 0, 0, 0⟩
noncomputable def defArgs (s : Stmt) : Arguments := match s with
  | .FunctionDef _ a _ _ _ _ _ _ _ _ => a
  | _ => { posonlyargs := [], args := [], vararg := none, kwonlyargs := [], kw_defaults := [], kwarg := none, defaults := [] }
noncomputable def defBody (s : Stmt) : List Stmt := match s with
  | .FunctionDef _ _ b _ _ _ _ _ _ _ => b
  | _ => []
noncomputable def defScope (s : Stmt) : Scope := match s with
  | .FunctionDef _ _ _ _ _ _ sc _ _ _ => sc
  | _ => { kind := .function, names := [], isGenerator := false, isCoroutine := false }

/-! ### no exception leaves a def -/
noncomputable abbrev CX0 : CXT := fun _ _ _ _ _ _ => False
noncomputable abbrev E0 : XK := fun _ _ _ => False
theorem pass0 {X : Cx} : Passes CX0 X E0 := fun _ _ _ _ _ _ _ h => h.elim

/-! ### a def (or method) of the text as it stands behind the top -/
structure Fun (K : PySem.W.Frag) (x qual : Str) (st : Stmt) (f : Addr) (fd : FuncData) : Prop where
  ex : ∃ (oc : Value) (od : Option Addr) (kV doc pm : Value) (an : Option Addr) (cdv ct : Value) (osl : Array (Option Value)),
    fd = PySem.W.fnOf x qual (defArgs st) (defBody st) (defScope st) .none kV doc pm an cdv ct ∧ K.lookup f = some ⟨oc, od, .func fd, osl⟩ ∧ PySem.W.codeIn K cdv qual = true
  kp : PySem.W.keepIn K (.ref f) = true
section
variable {P : Program} {w : World} {K : PySem.W.Frag} {mg : Str → Option Value} {base : Heap}
/-- THE RULE for a def: its body as a term of rules, and the reading of that term -/
theorem Fun.ok {x qual : Str} {st : Stmt} {f : Addr} {fd : FuncData} {N ps : List Str} {k : Nat} {sp : Sp} (F : Fun K x qual st f fd) (S : FnScope N ps (defScope st)) (len : ∀ vs H Q E, sp vs H Q E → vs.length = ps.length)
    (hbody : ∀ (cdv : Value) (A : Around) (outer : List Env) (s : Shared) (H : Hp) (vs : List V) (Q : VK) (E : XK), Room k (A.deeper (envOfC qual (defScope st) s.heap.objs.size f cdv)) → sp vs H Q E →
      ∃ t, PSs (cxOf CX0 P w K mg base N qual (defScope st) f cdv A outer s H E).nox (defBody st) t ∧ t { nx := fun _ H' => Q .non H', rt := Q } (start N vs) H) : FnOk P w K mg base CX0 (k + 1) f fd ps sp := by
  obtain ⟨oc, od, kV, doc, pm, an, cdv, ct, osl, rfl, lk, hcd⟩ := F.ex
  refine fn_of lk hcd S len fun A outer s H vs Q E hr hsp => ?_
  obtain ⟨t, h, q⟩ := hbody cdv A outer s H vs Q E hr hsp
  exact ⟨t, h.nox, q⟩
/-- how its arguments bind (no defaults): h is «fun _ _ _ _ _ _ us hl => match us, hl with | [_, _], _ => rfl», one _ a parameter -/
theorem Fun.binds {x qual : Str} {st : Stmt} {f : Addr} {fd : FuncData} {ps : List Str} (F : Fun K x qual st f fd)
    (h : ∀ (kV doc pm : Value) (an : Option Addr) (cdv ct : Value) (us : List Value), us.length = ps.length → bindArgs (PySem.W.fnOf x qual (defArgs st) (defBody st) (defScope st) .none kV doc pm an cdv ct) ⟨us, []⟩ = pure (ps.zip us)) : Binds K fd ps [] := by
  obtain ⟨oc, od, kV, doc, pm, an, cdv, ct, osl, rfl, lk, hcd⟩ := F.ex
  exact .all (h kV doc pm an cdv ct)
theorem fun_mk {x qual : Str} {st : Stmt} {f : Addr} {oc : Value} {od an : Option Addr} {osl : Array (Option Value)} {kV doc pm cdv ct : Value} (l : K.lookup f = some ⟨oc, od, .func (PySem.W.fnOf x qual (defArgs st) (defBody st) (defScope st) .none kV doc pm an cdv ct), osl⟩)
    (c : PySem.W.codeIn K cdv qual = true) (k : PySem.W.keepIn K (.ref f) = true) : Fun K x qual st f (PySem.W.fnOf x qual (defArgs st) (defBody st) (defScope st) .none kV doc pm an cdv ct) := ⟨⟨oc, od, kV, doc, pm, an, cdv, ct, osl, rfl, l, c⟩, k⟩
end
/-! ### expressions in short: the name that stands in the i-th slot -/
section
variable {X : Cx}
theorem pv (i : Nat) {x : Str} {pos : Pos} (hN : X.N[i]? = some x := by rfl) (hv : Vis X.env.scope x := by first | exact Or.inl rfl | exact Or.inr (Or.inl rfl) | exact Or.inr (Or.inr rfl)) (hd : (x == ("__debug__" : Str)) = false := by decide)
    (hcd : (x == ("__classdict__" : Str)) = false := by decide) : PE X (.Name x pos) (tVar i) := pe_var hN hv hd hcd
end

/-! ### tests -/
theorem iteF {A B : Prop} (h : B) : if false = true then A else B := by
  rw [if_neg Bool.false_ne_true]
  exact h
theorem iteT {A B : Prop} (h : A) : if true = true then A else B := by
  rw [if_pos rfl]
  exact h
theorem iteNS {c A B : Prop} [Decidable c] (hc : c) (h : B) : if (!decide c) = true then A else B := by
  rw [decide_eq_true hc]
  exact iteF h

/-! ### heaps -/
/-- all that was tracked is as it was -/
noncomputable def Same (H H' : Hp) : Prop := ∀ b o, H b = some o → H' b = some o
theorem Same.refl (H : Hp) : Same H H := fun _ _ h => h
theorem Same.trans {H H1 H2 : Hp} (a : Same H H1) (b : Same H1 H2) : Same H H2 := fun c o h => b c o (a c o h)
theorem Same.free {H H' : Hp} (e : Same H H') {l : Addr} (h : H' l = Option.none) : H l = Option.none := by
  cases q : H l with
  | none => rfl
  | some o =>
    rw [e l o q] at h
    cases h
theorem Same.seq {K : PySem.W.Frag} {H H' : Hp} {a : Addr} {xs : List V} (e : Same H H') (h : SqL K H a xs) : SqL K H' a xs := by
  rcases h with (h | ⟨o, h⟩) | h
  · exact .inl (.inl (e _ _ h))
  · exact .inl (.inr ⟨o, e _ _ h⟩)
  · exact .inr h

end L2

namespace Cv
/-! sizes -/
structure Sz (n : Nat) (x : Int) : Prop where
  lt : x.natAbs < 2 ^ n
theorem Sz.mono {n m : Nat} {x : Int} (h : Sz n x) (hm : n ≤ m) : Sz m x := ⟨Nat.lt_of_lt_of_le h.lt (Nat.pow_le_pow_right (by decide) hm)⟩
theorem Sz.le {n : Nat} {x y : Int} (h : Sz n x) (hy : y.natAbs ≤ x.natAbs) : Sz n y := ⟨Nat.lt_of_le_of_lt hy h.lt⟩
theorem Sz.mul {n m : Nat} {x y : Int} (h : Sz n x) (k : Sz m y) : Sz (n + m) (x * y) := by
  refine ⟨?_⟩
  rw [Int.natAbs_mul, Nat.pow_add]
  exact Nat.mul_lt_mul'' h.lt k.lt
theorem Sz.add {n m : Nat} {x y : Int} (h : Sz n x) (k : Sz m y) : Sz (max n m + 1) (x + y) := by
  refine ⟨?_⟩
  have h1 := (h.mono (Nat.le_max_left n m)).lt
  have h2 := (k.mono (Nat.le_max_right n m)).lt
  have h3 := Int.natAbs_add_le x y
  rw [Nat.pow_succ]
  omega
theorem Sz.neg {n : Nat} {x : Int} (h : Sz n x) : Sz n (-x) := ⟨by rw [Int.natAbs_neg]; exact h.lt⟩
theorem Sz.sub {n m : Nat} {x y : Int} (h : Sz n x) (k : Sz m y) : Sz (max n m + 1) (x - y) := by
  rw [Int.sub_eq_add_neg]
  exact h.add k.neg
theorem Sz.one : Sz 1 1 := ⟨by decide⟩
theorem Sz.zero : Sz 0 0 := ⟨by decide⟩
/-! a fraction's size -/
structure Bd (n : Nat) (q : Rat) : Prop where
  num : Sz n q.num
  den : Sz n (q.den : Int)
theorem Bd.mono {n m : Nat} {q : Rat} (h : Bd n q) (hm : n ≤ m) : Bd m q := ⟨h.num.mono hm, h.den.mono hm⟩
theorem num_le (a b : Int) (hb : b ≠ 0) : (Rat.divInt a b).num.natAbs ≤ a.natAbs ∧ (Rat.divInt a b).den ≤ b.natAbs := by
  refine ⟨?_, ?_⟩
  · rw [Rat.num_divInt]
    have h2 : (b.sign * a).natAbs = a.natAbs := by
      rw [Int.natAbs_mul, Int.natAbs_sign_of_ne_zero hb, Nat.one_mul]
    have hd : (b.gcd a : Int) ∣ b.sign * a := Int.dvd_mul_of_dvd_right (Int.gcd_dvd_right ..)
    rw [← h2]
    have := Int.natAbs_ediv_of_dvd hd
    rw [this]
    exact Nat.div_le_self _ _
  · rw [Rat.den_divInt, if_neg hb]
    exact Nat.div_le_self _ _
theorem Bd.of {n m : Nat} {a b : Int} (ha : Sz n a) (hb : Sz m b) (h0 : b ≠ 0) : Bd (max n m) (Rat.divInt a b) :=
  ⟨(ha.mono (Nat.le_max_left n m)).le (num_le a b h0).1, (hb.mono (Nat.le_max_right n m)).le (by rw [Int.natAbs_natCast]; exact (num_le a b h0).2)⟩
theorem den_ne (q : Rat) : (q.den : Int) ≠ 0 := by have := q.den_pos; omega
theorem add_eq (a b : Rat) : Rat.divInt (a.num * b.den + b.num * a.den) ((a.den : Int) * b.den) = a + b := by
  have := Rat.divInt_add_divInt a.num b.num (den_ne a) (den_ne b)
  rw [Rat.num_divInt_den, Rat.num_divInt_den] at this
  exact this.symm
theorem sub_eq (a b : Rat) : Rat.divInt (a.num * b.den - b.num * a.den) ((a.den : Int) * b.den) = a - b := by
  have := Rat.divInt_sub_divInt a.num b.num (den_ne a) (den_ne b)
  rw [Rat.num_divInt_den, Rat.num_divInt_den] at this
  exact this.symm
theorem mul_eq (a b : Rat) : Rat.divInt (a.num * b.num) ((a.den : Int) * b.den) = a * b := by
  have := Rat.divInt_mul_divInt a.num b.num (d₁ := a.den) (d₂ := b.den)
  rw [Rat.num_divInt_den, Rat.num_divInt_den] at this
  exact this.symm
theorem den_mul_ne (a b : Rat) : (a.den : Int) * b.den ≠ 0 := Int.mul_ne_zero (den_ne a) (den_ne b)
theorem Bd.add {n m : Nat} {a b : Rat} (h : Bd n a) (k : Bd m b) : Bd (n + m + 1) (a + b) := by
  rw [← add_eq]
  exact (Bd.of ((h.num.mul k.den).add (k.num.mul h.den)) (h.den.mul k.den) (den_mul_ne a b)).mono (by omega)
theorem Bd.sub {n m : Nat} {a b : Rat} (h : Bd n a) (k : Bd m b) : Bd (n + m + 1) (a - b) := by
  rw [← sub_eq]
  exact (Bd.of ((h.num.mul k.den).sub (k.num.mul h.den)) (h.den.mul k.den) (den_mul_ne a b)).mono (by omega)
theorem Bd.mul {n m : Nat} {a b : Rat} (h : Bd n a) (k : Bd m b) : Bd (n + m) (a * b) := by
  rw [← mul_eq]
  exact (Bd.of (h.num.mul k.num) (h.den.mul k.den) (den_mul_ne a b)).mono (by omega)
/-! the share of two whole numbers, as it is reckoned -/
theorem share_pos (t b : Int) (hb : 0 < b) : t.fdiv (Int.gcd t b) = (Rat.divInt t b).num ∧ b.fdiv (Int.gcd t b) = ((Rat.divInt t b).den : Int) := by
  rw [Rat.num_divInt, Rat.den_divInt, if_neg (by omega), Int.sign_eq_one_of_pos hb, Int.one_mul, Int.gcd_comm b t]
  refine ⟨Int.fdiv_eq_ediv_of_nonneg _ (Int.natCast_nonneg _), ?_⟩
  rw [Int.fdiv_eq_ediv_of_nonneg _ (Int.natCast_nonneg _), Int.natCast_ediv, Int.natAbs_of_nonneg (Int.le_of_lt hb)]
theorem share_neg (t b : Int) (hb : b < 0) : t.fdiv (-(Int.gcd t b : Int)) = (Rat.divInt t b).num ∧ b.fdiv (-(Int.gcd t b : Int)) = ((Rat.divInt t b).den : Int) := by
  have h := share_pos (-t) (-b) (by omega)
  rw [Rat.neg_divInt_neg, Int.neg_gcd, Int.gcd_neg] at h
  rw [← Int.neg_fdiv_neg, Int.neg_neg, ← Int.neg_fdiv_neg b, Int.neg_neg]
  exact h
theorem gcd_step (a b : Int) : Int.gcd b (a.fmod b) = Int.gcd a b := by
  rw [Int.fmod_def, Int.sub_eq_add_neg, ← Int.mul_neg, Int.gcd_add_mul_left_right, Int.gcd_comm]
theorem fmod_lt (a b : Int) (hb : b ≠ 0) : (a.fmod b).natAbs < b.natAbs := by
  rw [Int.fmod_eq_emod]
  have h1 := Int.emod_nonneg a hb
  have h2 := Int.emod_lt a hb
  by_cases h : 0 ≤ b ∨ b ∣ a
  · rw [if_pos h]; omega
  · rw [if_neg h]
    have h3 : a % b ≠ 0 := fun z => h (.inr (Int.dvd_of_emod_eq_zero z))
    omega
theorem gcd_zero (a : Int) : (if a < 0 then -a else a) = (Int.gcd a 0 : Int) := by
  rw [Int.gcd_zero]
  split <;> omega
theorem gcd_pos' (t b : Int) (hb : b ≠ 0) : (Int.gcd t b : Int) ≠ 0 := by
  have := Int.gcd_pos_of_ne_zero_right t hb
  omega
end Cv
namespace Cv
theorem divInt_cast (a b : Int) : Rat.divInt a b = (a : Rat) / (b : Rat) := Rat.divInt_eq_div a b
/-- a quotient of whole numbers, by what it is worth -/
theorem eq_divInt {q : Rat} {t b : Int} (hb : b ≠ 0) (h : q * (b : Rat) = (t : Rat)) : q = Rat.divInt t b := by
  rw [Rat.divInt_eq_div]
  have hb' : (b : Rat) ≠ 0 := by
    intro z
    exact hb (by exact_mod_cast z)
  grind
end Cv

namespace Cv
open PySem PySem.Spec PyProof.Rows L2
section
variable {X : Cx}
/-! ### products and quotients of greater numbers -/
noncomputable def CMulB (i j : Int) : Prop := ∃ n m, Sz n i ∧ Sz m j ∧ n + m ≤ 100000000
noncomputable def CDivB (_i j : Int) : Prop := j ≠ 0 ∧ Sz 9000 j
theorem op_fdivB : OpR X (binaryOp .FloorDiv) (rI CDivB fun i j => .int (i.fdiv j)) := opI fun i j _ _ _ _ _ hc q => by
  obtain ⟨h0, h1⟩ := hc
  refine floordiv_int h0 q (.inl (PyProof.noPylong_of_log2 ?_))
  have hp : j.natAbs ≠ 0 := by omega
  exact (Nat.log2_lt hp).mpr h1.lt
/-! ### isinstance -/
theorem vals_one {x : V} {us : List Value} (r : Vals [x] us) : ∃ u, us = [u] ∧ RelV x u := by
  cases r with
  | cons p q => cases q; exact ⟨_, rfl, p⟩
theorem vals_two {x y : V} {us : List Value} (r : Vals [x, y] us) : ∃ u v, us = [u, v] ∧ RelV x u ∧ RelV y v := by
  cases r with
  | cons p q =>
    obtain ⟨v, rfl, p'⟩ := vals_one q
    exact ⟨_, _, rfl, p, p'⟩
theorem call_isi : CallR X (.builtin "isinstance") (fun xs H Q => ∃ x T t b, xs = [x, .ty T] ∧ TyOf X.K H x t ∧ PySem.W.kitOne X.K t (.type T) = some b ∧ Q (.bl b) H) := by
  intro pins s σ H xs us Q I r h
  obtain ⟨x, T, t, b, rfl, ty, e, q⟩ := h
  obtain ⟨u, v, rfl, ru, rv⟩ := vals_two r
  cases rv
  exact isinst_ok I ru ty e fun tk => ⟨.bl b, H, I.tok tk, rfl, q⟩
/-! ### data -/
mutual
/-- v is the data d -/
noncomputable def Dn (K : PySem.W.Frag) (H : Hp) : PySem.W.Dat → V → Prop
  | .none, v => v = .non
  | .bool b, v => v = .bl b
  | .int i, v => v = .int i
  | .str x, v => v = .str x
  | .bytes _, _ => False
  | .tuple ds, v => ∃ a xs, v = .ref a ∧ SqT K H a xs ∧ DnAll K H ds xs
  | .list ds, v => ∃ a xs, v = .ref a ∧ SqL K H a xs ∧ DnAll K H ds xs
noncomputable def DnAll (K : PySem.W.Frag) (H : Hp) : List PySem.W.Dat → List V → Prop
  | [], xs => xs = []
  | d :: ds, xs => ∃ y ys, xs = y :: ys ∧ Dn K H d y ∧ DnAll K H ds ys
end
mutual
theorem dn_reads {pins : List (Addr × Obj)} {σ : L2.St} {H : Hp} {s : Shared} (I : Inv X pins σ H s) : ∀ (n : Nat) (d : PySem.W.Dat) (v : V) (u : Value), Dn X.K H d v → RelV v u → PySem.W.kqdOk n d = true → ∃ as, Reads s.heap u (PySem.W.kqdP d) as
  | n, .none, v, u, h, r, _ => by
    cases (show v = .non from by simpa [Dn] using h); cases r
    rw [PySem.W.kqdP]; exact ⟨_, Reads.none⟩
  | n, .bool b, v, u, h, r, _ => by
    cases (show v = .bl b from by simpa [Dn] using h); cases r
    rw [PySem.W.kqdP]; exact ⟨_, Reads.bool b⟩
  | n, .int i, v, u, h, r, _ => by
    cases (show v = .int i from by simpa [Dn] using h)
    obtain ⟨t, rfl⟩ := r
    rw [PySem.W.kqdP]; exact ⟨_, Reads.int i t⟩
  | n, .str x, v, u, h, r, _ => by
    cases (show v = .str x from by simpa [Dn] using h)
    obtain ⟨t, rfl⟩ := r
    rw [PySem.W.kqdP]; exact ⟨_, Reads.str x t⟩
  | n, .bytes b, v, u, h, r, _ => by simp [Dn] at h
  | 0, .tuple ds, v, u, h, r, hk => by simp [PySem.W.kqdOk] at hk
  | 0, .list ds, v, u, h, r, hk => by simp [PySem.W.kqdOk] at hk
  | n + 1, .tuple ds, v, u, h, r, hk => by
    rw [Dn] at h
    obtain ⟨a, xs, rfl, hs, hd⟩ := h
    cases r
    obtain ⟨its, rv, ⟨o, ho, hc, m, hdt⟩, hz⟩ := I.tuple hs
    obtain ⟨as, q⟩ := dn_readsAll I n ds xs its hd rv (by simpa [PySem.W.kqdOk] using hk)
    rw [PySem.W.kqdP]
    exact ⟨as, reads_tuple_at ho hc hdt (by simpa using q)⟩
  | n + 1, .list ds, v, u, h, r, hk => by
    rw [Dn] at h
    obtain ⟨a, xs, rfl, hs, hd⟩ := h
    cases r
    obtain ⟨its, rv, pl, hz⟩ := I.list hs
    obtain ⟨o, ho, hc, m, hdt⟩ := pl.isList
    obtain ⟨as, q⟩ := dn_readsAll I n ds xs its hd rv (by simpa [PySem.W.kqdOk] using hk)
    rw [PySem.W.kqdP]
    exact ⟨_, reads_list_at ho hc hdt (by simpa using q)⟩
theorem dn_readsAll {pins : List (Addr × Obj)} {σ : L2.St} {H : Hp} {s : Shared} (I : Inv X pins σ H s) : ∀ (n : Nat) (ds : List PySem.W.Dat) (xs : List V) (us : List Value), DnAll X.K H ds xs → Vals xs us → (∀ d ∈ ds, PySem.W.kqdOk n d = true) → ∃ as, ReadsAll s.heap us (PySem.W.kqdPs ds) as
  | n, [], xs, us, h, r, _ => by
    cases (show xs = [] from by simpa [DnAll] using h)
    cases r
    rw [PySem.W.kqdPs]; exact ⟨_, ReadsAll.nil⟩
  | n, d :: ds, xs, us, h, r, hk => by
    rw [DnAll] at h
    obtain ⟨y, ys, rfl, h1, h2⟩ := h
    cases r with
    | cons p q =>
      obtain ⟨as, r1⟩ := dn_reads I n d y _ h1 p (hk d (.head _))
      obtain ⟨bs, r2⟩ := dn_readsAll I n ds ys _ h2 q fun e he => hk e (.tail _ he)
      rw [PySem.W.kqdPs]
      exact ⟨_, ReadsAll.cons r1 r2⟩
end
theorem shaped_ok {d : PySem.W.Dat} (h : PySem.W.kqdOk 8 d = true) : SeqAt.shaped (PySem.W.kqdP d) = true := by
  have la := PySem.W.kqd_lay 8 d h
  unfold SeqAt.shaped; rw [la.1, Bool.true_and]; exact decide_eq_true (Nat.le_trans la.2 (by decide))
noncomputable def rEqD (K : PySem.W.Frag) : R2 := fun x y H Q => ∃ d e, Dn K H d x ∧ Dn K H e y ∧ PySem.W.kqdOk 8 d = true ∧ PySem.W.kqdOk 8 e = true ∧ ∀ b : Bool, (b = true ↔ d = e) → Q (.bl b) H
noncomputable def rNeD (K : PySem.W.Frag) : R2 := fun x y H Q => ∃ d e, Dn K H d x ∧ Dn K H e y ∧ PySem.W.kqdOk 8 d = true ∧ PySem.W.kqdOk 8 e = true ∧ ∀ b : Bool, (b = true ↔ d = e) → Q (.bl (!b)) H
theorem op_eqD (hu : X.A.units + 64 < cLine) : OpR X (compareOp .Eq) (rEqD X.K) := by
  intro pins s σ H x y v u Q I rx ry h
  obtain ⟨d, e, hd, he, k1, k2, q⟩ := h
  obtain ⟨as, r1⟩ := dn_reads I 8 d x v hd rx k1
  obtain ⟨bs, r2⟩ := dn_reads I 8 e y u he ry k2
  exact eq_dataH r1 r2 (shaped_ok k1) (shaped_ok k2) hu ⟨.bl _, H, I, rfl, q _ (PySem.W.kqd_eqv 8 d e 8 k1 k2)⟩
theorem op_neD (hu : X.A.units + 64 < cLine) : OpR X (compareOp .NotEq) (rNeD X.K) := by
  intro pins s σ H x y v u Q I rx ry h
  obtain ⟨d, e, hd, he, k1, k2, q⟩ := h
  obtain ⟨as, r1⟩ := dn_reads I 8 d x v hd rx k1
  obtain ⟨bs, r2⟩ := dn_reads I 8 e y u he ry k2
  exact ne_dataH r1 r2 (shaped_ok k1) (shaped_ok k2) hu ⟨.bl _, H, I, rfl, q _ (PySem.W.kqd_eqv 8 d e 8 k1 k2)⟩
end
/-! ### shares -/
noncomputable def ShV (H : Hp) (v : V) (q : Rat) : Prop := ∃ a, v = .ref a ∧ H a = some (.tup [.int q.num, .int (q.den : Int)])
theorem ShV.same {H H' : Hp} {v : V} {q : Rat} (h : ShV H v q) (e : Same H H') : ShV H' v q := by
  obtain ⟨a, rfl, h⟩ := h
  exact ⟨a, rfl, e _ _ h⟩
noncomputable def datSh (q : Rat) : PySem.W.Dat := .tuple [.int q.num, .int (q.den : Int)]
theorem datSh_inj {p q : Rat} : datSh p = datSh q ↔ p = q := by
  unfold datSh
  constructor
  · intro h
    simp at h
    exact Rat.ext h.1 (Int.ofNat.inj h.2)
  · intro h; rw [h]
theorem datSh_ok (q : Rat) (n : Nat) : PySem.W.kqdOk (n + 1) (datSh q) = true := by
  cases n <;> simp [datSh, PySem.W.kqdOk]
theorem ShV.dn {K : PySem.W.Frag} {H : Hp} {v : V} {q : Rat} (h : ShV H v q) : Dn K H (datSh q) v := by
  obtain ⟨a, rfl, h⟩ := h
  unfold datSh
  simp only [Dn, DnAll]
  exact ⟨a, _, rfl, SqT.of h, _, _, rfl, rfl, _, _, rfl, rfl, rfl⟩
theorem Same.new {H : Hp} {p : Addr} {o : HO} (h : H p = none) : Same H (upd H p o) := fun b u e => by
  rw [upd_ne (ne_of_none e h)]; exact e
end Cv

namespace Cv
open PySem PySem.Spec PyProof.Rows L2
/-! ### a def of the text, in one word -/
/-- a def of the module as the top left it -/
structure FunAt (K : PySem.W.Frag) (mg : Str → Option Value) (x : Str) (st : Stmt) (ps : List Str) : Prop where
  ex : ∃ (f : Addr) (fd : FuncData), Fun K x x st f fd ∧ mg x = some (.ref f) ∧ Binds K fd ps []
structure DefOk (P : Program) (w : World) (K : PySem.W.Frag) (mg : Str → Option Value) (base : Heap) (CX : CXT) (k : Nat) (x : Str) (ps : List Str) (sp : Sp) : Prop where
  ex : ∃ (f : Addr) (fd : FuncData), FnOk P w K mg base CX k f fd ps sp ∧ mg x = some (.ref f) ∧ PySem.W.keepIn K (.ref f) = true ∧ Binds K fd ps [] ∧
    ∃ (oc : Value) (od : Option Addr) (osl : Array (Option Value)), K.lookup f = some ⟨oc, od, .func fd, osl⟩
/-- the names that the module leaves to the builtins -/
structure Blt (mg : Str → Option Value) : Prop where
  len : mg "len" = none
  abs : mg "abs" = none
  range : mg "range" = none
  max : mg "max" = none
  min : mg "min" = none
  any : mg "any" = none
  all : mg "all" = none
  sum : mg "sum" = none
  isinstance : mg "isinstance" = none
  int : mg "int" = none
  bool : mg "bool" = none
  tuple : mg "tuple" = none
  list : mg "list" = none
  str : mg "str" = none
  ValueError : mg "ValueError" = none
  zip : mg "zip" = none
  reversed : mg "reversed" = none
  enumerate : mg "enumerate" = none
  sorted : mg "sorted" = none
  dict : mg "dict" = none
section
variable {P : Program} {w : World} {K : PySem.W.Frag} {mg : Str → Option Value} {base : Heap}
theorem FunAt.mk' {x : Str} {st : Stmt} {ps : List Str} {f : Addr} {oc : Value} {od an : Option Addr} {osl : Array (Option Value)} {kV doc pm cdv ct : Value} (hm : mg x = some (.ref f))
    (l : K.lookup f = some ⟨oc, od, .func (PySem.W.fnOf x x (defArgs st) (defBody st) (defScope st) .none kV doc pm an cdv ct), osl⟩)
    (c : PySem.W.codeIn K cdv x = true) (k : PySem.W.keepIn K (.ref f) = true)
    (h : ∀ (kV doc pm : Value) (an : Option Addr) (cdv ct : Value) (us : List Value), us.length = ps.length → bindArgs (PySem.W.fnOf x x (defArgs st) (defBody st) (defScope st) .none kV doc pm an cdv ct) ⟨us, []⟩ = pure (ps.zip us)) : FunAt K mg x st ps := by
  have F := fun_mk (st := st) l c k
  exact ⟨_, _, F, hm, F.binds h⟩
theorem def_ok {x : Str} {st : Stmt} {N ps : List Str} {k : Nat} {sp : Sp} (F : FunAt K mg x st ps) (S : FnScope N ps (defScope st)) (len : ∀ vs H Q E, sp vs H Q E → vs.length = ps.length)
    (hbody : ∀ (f : Addr) (cdv : Value) (A : Around) (outer : List Env) (s : Shared) (H : Hp) (vs : List V) (Q : VK) (E : XK), Room k (A.deeper (envOfC x (defScope st) s.heap.objs.size f cdv)) → sp vs H Q E →
      ∃ t, PSs (cxOf CX0 P w K mg base N x (defScope st) f cdv A outer s H E).nox (defBody st) t ∧ t { nx := fun _ H' => Q .non H', rt := Q } (start N vs) H) : DefOk P w K mg base CX0 (k + 1) x ps sp := by
  obtain ⟨f, fd, F, hm, hb⟩ := F.ex
  exact ⟨f, fd, F.ok S len fun cdv A outer s H vs Q E hr h => hbody f cdv A outer s H vs Q E hr h, hm, F.kp, hb, let ⟨oc, od, _, _, _, _, _, _, osl, _, l, _⟩ := F.ex; ⟨oc, od, osl, l⟩⟩
end
section
variable {X : Cx} {CX : CXT} {k j : Nat} {ps : List Str} {sp : Sp} {E : XK} {x : Str} {p pos : Pos} {e : Expr} {es : List Expr} {t : TA}
noncomputable def tFn (sp : Sp) (E : XK) (t : TA) : TE := fun σ H Q => t σ H fun vs H1 => sp vs H1 Q E
theorem pe_fn (D : DefOk X.prog X.w X.K X.mg X.base CX k x ps sp) (hr : Room j X.A) (hx : Passes CX X E) (ha : PA X (e :: es) t) (hk : k ≤ j := by decide) (hg : Gl X x := by rfl)
    (hdb : (x == ("__debug__" : Str)) = false := by decide) (he : starEach (e :: es) X.env = (false, eval e X.env) :: starEach es X.env := by rfl) (hpl : (backTo pos (starEach es X.env)).any (·.1) = false := by rfl) :
    PE X (.Call (.Name x p) (e :: es) [] pos) (tFn sp E t) := by
  obtain ⟨f, fd, F, hm, kp, hb, _⟩ := D.ex
  intro pins s σ H Q I h
  have q := pe_call (X := X) (p := p) (pos := pos) F (hr.mono hk) hg hm kp hb .nil hx ha hdb he hpl
  refine q pins s σ H Q I ?_
  unfold tCall
  have e : (fun (vs : List V) (H1 : Hp) => sp (vs ++ []) H1 Q E) = fun vs H1 => sp vs H1 Q E := by
    funext vs H1
    rw [List.append_nil]
  rw [e]
  exact h
end
end Cv

namespace Cv
open PySem PySem.Spec PyProof.Rows L2
section
variable {X : Cx}
noncomputable def CMulA (i j : Int) : Prop := CMul i j ∨ CMulB i j
theorem op_mulA : OpR X (binaryOp .Mult) (rI CMulA fun i j => .int (i * j)) := opI fun i j _ _ _ _ _ hc q => by
  rcases hc with hc | ⟨n, m, h1, h2, h3⟩
  · exact mul_int q hc.ok
  · exact mul_int q (IntMulOk.of_le (PySem.intBits_le_iff.mpr h1.lt) (PySem.intBits_le_iff.mpr h2.lt) (by omega))
end
theorem mulL {i j : Int} (h1 : -(2 ^ 64) < i) (h2 : i < 2 ^ 64) : CMulA i j := .inl (.inl ⟨h1, h2⟩)
theorem mulR {i j : Int} (h1 : -(2 ^ 64) < j) (h2 : j < 2 ^ 64) : CMulA i j := .inl (.inr ⟨h1, h2⟩)
theorem mulB {n m : Nat} {i j : Int} (h1 : Sz n i) (h2 : Sz m j) (h : n + m ≤ 100000000 := by decide) : CMulA i j := .inr ⟨n, m, h1, h2, h⟩
/-! ### the promises -/
noncomputable def spGcd : Sp := fun vs H Q _ => ∃ a b : Int, vs = [.int a, .int b] ∧ Q (.int (Int.gcd a b)) H
noncomputable def spShare : Sp := fun vs H Q _ => ∃ t b : Int, vs = [.int t, .int b] ∧ b ≠ 0 ∧ Sz 9000 b ∧ ∀ v H', Same H H' → ShV H' v (Rat.divInt t b) → Q v H'
noncomputable def spBin (f : Rat → Rat → Rat) (ok : Rat → Prop) : Sp := fun vs H Q _ => ∃ x y p q, vs = [x, y] ∧ ShV H x p ∧ ShV H y q ∧ Bd 4000 p ∧ Bd 4000 q ∧ ok q ∧ ∀ v H', Same H H' → ShV H' v (f p q) → Q v H'
noncomputable def spPlus : Sp := spBin (fun p q => p + q) fun _ => True
/-! the law's own helpers -/
noncomputable def spCell (K : PySem.W.Frag) : Sp := fun vs H Q _ => ∃ (a : Addr) (ns : List Int) (k : Int), vs = [.ref a, .int k] ∧ SqL K H a (ns.map V.int) ∧ 0 ≤ k ∧ ∀ z, Q (.int z) H
noncomputable def spLShare : Sp := fun vs H Q _ => ∃ t b : Int, vs = [.int t, .int b] ∧ 0 < b ∧ Sz 9000 b ∧ ∀ v H', Same H H' → ShV H' v (Rat.divInt t b) → Q v H'
noncomputable def spLaw (K : PySem.W.Frag) : Sp := fun vs H Q _ => ∃ (a : Addr) (ns : List Int), vs = [.ref a] ∧ SqL K H a (ns.map V.int) ∧ ns.length ≤ 63 ∧ ∀ H', Q (.bl true) H'
/-! ### tests -/
theorem ite_dec {c : Prop} [Decidable c] {A B : Prop} (h1 : c → A) (h2 : ¬ c → B) : if decide c = true then A else B := by
  by_cases h : c
  · rw [if_pos (decide_eq_true h)]; exact h1 h
  · rw [if_neg (by simp [h])]; exact h2 h
theorem ifT {b : Bool} {A B : Prop} (h : b = true) (k : A) : if b = true then A else B := by rw [if_pos h]; exact k
theorem ifF {b : Bool} {A B : Prop} (h : b = false) (k : B) : if b = true then A else B := by rw [if_neg (by rw [h]; decide)]; exact k
theorem ifB {b : Bool} {A B : Prop} (h1 : b = true → A) (h2 : b = false → B) : if b = true then A else B := by
  cases b
  · exact ifF rfl (h2 rfl)
  · exact ifT rfl (h1 rfl)
end Cv
namespace Cv
open PySem PySem.Spec PyProof.Rows L2
/-- the law's function is the one that the top left -/
theorem DefOk.law {P : Program} {w : World} {K : PySem.W.Frag} {mg : Str → Option Value} {base : Heap} {CX : CXT} {k : Nat} {x : Str} {ps : List Str} {sp : Sp} {f : Addr} {fd : FuncData} {oc : Value} {od : Option Addr} {osl : Array (Option Value)}
    (D : DefOk P w K mg base CX k x ps sp) (l : K.lookup f = some ⟨oc, od, .func fd, osl⟩) (hm : mg x = some (.ref f)) : FnOk P w K mg base CX k f fd ps sp := by
  obtain ⟨f', fd', FO, hm', _, _, oc', od', osl', l'⟩ := D.ex
  have e := hm.symm.trans hm'
  cases e
  have e2 := l.symm.trans l'
  have e3 : Data.func fd = Data.func fd' := congrArg (fun (o : Obj) => o.data) (Option.some.inj e2)
  cases e3
  exact FO
theorem walk {l : PySem.W.OpenLaw} {k : Nat} {CX : CXT} {sp : PySem.W.Frag → Sp} {q : Program} {loose : List Str} {XP : (Str → Option Value) → Heap → Prop} {YP : World → Heap → Prop} {d : DefRec} {K : Params → PySem.W.Frag} {x : Str} (hn : l.most = some 63) (hdf : d.params.defaults = []) (hr : Room k callerA)
    (hY : ∀ (w : World) (h : Heap), YP w h → (K w.params).In h)
    (F : ∀ (w : World) (mg : Str → Option Value) (fa : Addr) (h : Heap), (K w.params).In h → h.Ns mainGlobals mg → mg d.name = some (.ref fa) →
      ∃ fd : FuncData, (∀ (s : Shared) (u : Value), BindsTo s fd ⟨[u], []⟩ [(x, u)]) ∧ ∀ (P : Program) (base : Heap), (K w.params).In base → base.Ns mainGlobals mg → FnOk P w (K w.params) mg base CX k fa fd [x] (sp (K w.params)))
    (hsp : ∀ (K : PySem.W.Frag) (H : Hp) (a : Addr) (ns : List Int), ns.length ≤ 63 → Only H → SqL K H a (ns.map V.int) → sp K [.ref a] H (fun v _ => v = .bl true) fun _ _ _ => False)
    (hCX : ∀ (H : Hp) (s : Shared) (e : Value) (s' : Shared), CX [] H s (fun _ _ _ => False) e s' → False) :
    PySem.W.WalkO q loose XP YP l.row.toRowW d [] (fun f vs => PySem.call f vs) :=
  L2.walk_of (n := 63) (k := k) (x := x) (CX := fun _ => CX) (sp := fun w => sp (K w.params)) hn (by decide) hdf hr hY
    (fun w mg fa h a b c => let ⟨fd, h1, h2⟩ := F w mg fa h a b c; ⟨fd, h1, fun base => h2 l.prog base⟩) (fun w H a ns => hsp (K w.params) H a ns) fun _ H s e s' => hCX H s e s'
end Cv

namespace Cv
open PySem PySem.Spec PyProof.Rows L2
/-! small facts for the readings -/
theorem pl {j : Int} (h : 0 < j := by decide) : 0 < j := h
theorem at_map (xs : List Int) (k : Nat) (h : k < xs.length) : atI (xs.map V.int) (k : Int) = some (V.int (xs.getD k 0)) := by
  refine atI_nat ?_
  rw [List.getElem?_map, List.getElem?_eq_getElem h]
  simp [List.getD_eq_getElem?_getD, List.getElem?_eq_getElem h]
theorem at_mapZ (xs : List Int) (k : Int) (h0 : 0 ≤ k) (h : k < (xs.length : Int)) : atI (xs.map V.int) k = some (V.int (xs.getD k.toNat 0)) := by
  have e : k = ((k.toNat : Nat) : Int) := by omega
  have q := at_map xs k.toNat (by omega)
  rw [← e] at q
  exact q
theorem getD_nn {xs : List Int} (h : ∀ x ∈ xs, 0 ≤ x) (k : Nat) : 0 ≤ xs.getD k 0 := by
  rw [List.getD_eq_getElem?_getD]
  cases e : xs[k]? with
  | none => simp
  | some v => exact h v (List.mem_of_getElem? e)
theorem p30 : (10 : Int) ^ (30 : Int).toNat = 1000000000000000000000000000000 := by decide
theorem pos30 : (0 : Int) < (10 : Int) ^ (30 : Int).toNat := by rw [p30]; decide
theorem sz_of {n : Nat} {x : Int} {b : Nat} (h1 : x.natAbs ≤ b) (h2 : b < 2 ^ n) : Sz n x := ⟨Nat.lt_of_le_of_lt h1 h2⟩
/-- a drawn top -/
theorem gcd_abs (t b : Int) : Int.gcd (if t < 0 then -t else t) b = Int.gcd t b := by
  split
  · rw [Int.neg_gcd]
  · rfl
theorem emod_gcd (a b : Int) (hb : 0 < b) : Int.gcd b (a % b) = Int.gcd a b := by
  have := gcd_step a b
  rw [Int.fmod_eq_emod_of_nonneg a (by omega)] at this
  exact this
theorem dec_int_ne {a b : Int} (h : a ≠ b) : (!decide (V.int a = V.int b)) = true := by simp [h]
end Cv

namespace Cv
open PySem PySem.Spec PyProof.Rows L2
/-! ### an exception on its way, with none ahead of it -/
structure TrX (h B : Heap) (e : Addr) (cls fl : Value) : Prop where
  ex : ∃ (oe : Obj) (vs : Array Value) (T : Addr) (oT : Obj) (ts : Array Value), (h.get? e = some oe ∧ oe.cls = cls ∧ oe.data = .fields vs ∧ oe.dict = none) ∧ (vs[2]? = some .none ∧ vs[1]? = some (.ref T)) ∧ (B.get? T = none ∧ T ≠ e) ∧ h.get? T = some oT ∧ oT.data = .fields ts ∧ ts[3]? = some fl
structure FlyX (B : Heap) (l : List Env) (e : Addr) (cls fl : Value) (h : Heap) : Prop where
  stays : B.StaysIn h
  new : B.get? e = none
  frames : h.FunFrames B l
  tr : TrX h B e cls fl
theorem mf_dict (f : Array Value → Array Value) (o : Obj) : (Obj.mapFields f o).dict = o.dict := by
  unfold Obj.mapFields
  split <;> rfl
theorem FlyX.there {B h : Heap} {l : List Env} {e : Addr} {cls fl : Value} (x : FlyX B l e cls fl h) : ∃ o vs, h.get? e = some o ∧ o.cls = cls ∧ o.data = .fields vs ∧ vs[2]? = some .none ∧ o.dict = none := by
  obtain ⟨o, vs, _, _, _, ⟨a, b, c, f⟩, ⟨d, _⟩, _⟩ := x.tr.ex
  exact ⟨o, vs, a, b, c, d, f⟩
section
variable {M : Model} {A : Around} {E : Value → Shared → Prop} {s : Shared} {B : Heap} {env : Env} {outer : List Env} {L e : Addr}
theorem entX {oe : Obj} {vs : Array Value} {hd : Value} {b : Bool} {Q : Unit → Shared → Prop} (hfr : A.frames = some (env :: outer)) (hf : env.frame = some L) (st : B.StaysIn s.heap) (ne : B.get? e = none)
    (ff : s.heap.FunFrames B (env :: outer)) (he : s.heap.get? e = some oe) (dt : oe.data = .fields vs) (dn : oe.dict = none) (v2 : vs[2]? = some .none)
    (k : ∀ h', FlyX B (env :: outer) e oe.cls (rawInt L) h' → s.heap.UpToSlots h' → Q () { s with heap := h' }) :
    wpAny M A (frameOf env >>= fun a => entryPlaceOf L b >>= fun pl => EntryCells.newEntry hd a .none (rawInt L) .none pl >>= fun t => setField (.ref e) 1 t) Q E s := by
  have v2s : 2 < vs.size := (Array.getElem?_eq_some_iff.mp v2).1
  have nfr : e ∉ (env :: outer).filterMap (·.frame) := by
    intro hm
    obtain ⟨_, o, ho, q⟩ := ff.mem hm
    cases he.symm.trans ho
    exact q vs dt
  refine wpAny_bind (wpAny_frameOf_fun hfr ff hf fun h1 so => ?_)
  refine wpAny_bind (wpAny_entryPlaceOf fun pl ip => ?_)
  unfold EntryCells.newEntry newFields
  refine wpAny_bind (wpAny_newObj_type ?_ (ip.sizeOk5 _ _ _ _ _))
  have e1 : h1.get? e = some oe := (so.2.1 e nfr).trans he
  have st1 : B.StaysIn h1 := fun c o q => (so.2.1 c fun hm => by rw [(ff.mem hm).1] at q; cases q).trans (st c o q)
  have t3 : (([hd, Value.ref L, Value.none, rawInt L, Value.none] ++ (if pl.isEmpty then List.replicate 6 Value.none else pl)).toArray)[3]? = some (rawInt L) := by
    rw [List.getElem?_toArray]; rfl
  have tT : h1.objs.size ≠ e := Nat.ne_of_gt (Heap.lt_size e1)
  generalize hts : ([hd, Value.ref L, Value.none, rawInt L, Value.none] ++ (if pl.isEmpty then List.replicate 6 Value.none else pl)).toArray = ts at t3 ⊢
  have e2 := Heap.get?_push_of_some (h := h1) { cls := .type "traceback", dict := none, data := .fields ts } e1
  refine wpAny_setField e2 dt (by omega) (k _ ?_ ?_)
  all_goals
    have d3 := Obj.data_mapFields dt (·.setIfInBounds 1 (Value.ref h1.objs.size))
    have e3 := Heap.get?_update_self (Obj.mapFields (·.setIfInBounds 1 (Value.ref h1.objs.size))) e2 (Obj.isFreed_of_fields d3)
    have up : ∀ c o, c ≠ e → h1.get? c = some o → ((h1.push { cls := .type "traceback", dict := none, data := .fields ts }).update e (Obj.mapFields (·.setIfInBounds 1 (Value.ref h1.objs.size)))).get? c = some o := fun c o q z => by
      rw [Heap.get?_update_other _ _ (Ne.symm q)]; exact Heap.get?_push_of_some _ z
    have nr : ∀ c o, s.heap.get? c = some o → (∀ us, o.data ≠ .fields us) → c ≠ e := fun c o z nf q => by
      subst q; cases he.symm.trans z; exact nf vs dt
  · refine ⟨fun c o z => up c o (fun q => by rw [q, ne] at z; cases z) (st1 c o z), ne, ff.of_keeps fun c o z nf => ?_, ⟨_, _, h1.objs.size, _, _, ⟨e3, Obj.cls_mapFields _ _, d3, (mf_dict _ _).trans dn⟩, ⟨by rw [Array.getElem?_setIfInBounds_ne (by decide)]; exact v2, by simp [show 1 < vs.size by omega]⟩, ⟨st1.fresh, tT⟩, (Heap.get?_update_other _ _ (Ne.symm tT)).trans (Heap.get?_push_size h1 rfl), rfl, t3⟩⟩
    obtain ⟨sl, q⟩ := so.2.2 c o z
    exact ⟨_, up c _ (nr c o z nf) q, rfl⟩
  · intro c o z nf
    obtain ⟨sl, q⟩ := so.2.2 c o z
    exact ⟨sl, up c _ (nr c o z nf) q⟩
/-- the flight's mark is taken off -/
theorem offX {l : List Env} {cls fl : Value} {Q : Unit → Shared → Prop} (x : FlyX B l e cls fl s.heap) (k : ∀ h', FlyX B l e cls .none h' → s.heap.UpToSlots h' → Q () { s with heap := h' }) : wpAny M A (setFlight (.ref e) none) Q E s := by
  obtain ⟨oe, vs, T, oT, ts, ⟨a1, a2, a3, a4⟩, ⟨b1, b2⟩, ⟨c1, c2⟩, d1, d2, d3⟩ := x.tr.ex
  have t3 : 3 < ts.size := (Array.getElem?_eq_some_iff.mp d3).1
  unfold setFlight
  refine wpAny_bind (wpAny_field a1 a3 b2 ?_)
  rw [if_pos (by simp : (Value.ref T != Value.none) = true)]
  refine wpAny_setField d1 d2 t3 (k _ ?_ ?_)
  all_goals
    have ot : ∀ c, c ≠ T → (s.heap.update T (Obj.mapFields (·.setIfInBounds 3 ((none : Option Addr).elim Value.none fun f => rawInt f)))).get? c = s.heap.get? c := fun c q => Heap.get?_update_other _ _ (Ne.symm q)
    have nr : ∀ c o, s.heap.get? c = some o → (∀ us, o.data ≠ .fields us) → c ≠ T := fun c o z nf q => by
      subst q; cases d1.symm.trans z; exact nf ts d2
  · exact ⟨fun c o z => (ot c fun q => by rw [q, c1] at z; cases z).trans (x.stays c o z), x.new, x.frames.of_keeps fun c o z nf => ⟨o, (ot c (nr c o z nf)).trans z, rfl⟩,
      ⟨oe, vs, T, _, _, ⟨(ot e (Ne.symm c2)).trans a1, a2, a3, a4⟩, ⟨b1, b2⟩, ⟨c1, c2⟩, Heap.get?_update_self _ d1 (Obj.isFreed_of_fields (Obj.data_mapFields d2 _)), Obj.data_mapFields d2 _, by simp [t3]⟩⟩
  · exact fun c o z nf => ⟨o.slots, (ot c (nr c o z nf)).trans z⟩
/-- the next frame is noted -/
theorem noteX {cls : Value} {Q : Unit → Shared → Prop} (hfr : A.frames = some (env :: outer)) (hf : env.frame = some L) (x : FlyX B (env :: outer) e cls .none s.heap)
    (k : ∀ h', FlyX B (env :: outer) e cls (rawInt L) h' → s.heap.UpToSlots h' → Q () { s with heap := h' }) : wpAny M A (noteFrame (.ref e) env) Q E s := by
  obtain ⟨oe, vs, T, oT, ts, ⟨a1, a2, a3, a4⟩, ⟨b1, b2⟩, ⟨c1, c2⟩, d1, d2, d3⟩ := x.tr.ex
  subst a2
  have t3 : 3 < ts.size := (Array.getElem?_eq_some_iff.mp d3).1
  unfold noteFrame
  simp only [hf]
  refine wpAny_bind (wpAny_field a1 a3 b2 ?_)
  rw [if_pos (by simp : (Value.ref T != Value.none) = true)]
  refine wpAny_bind (wpAny_field d1 d2 d3 ?_)
  rw [if_neg (by simp [rawInt] : ¬ ((Value.none == rawInt L) = true))]
  refine wpAny_bind (wpAny_setField d1 d2 t3 ?_)
  have ot : ∀ c, c ≠ T → (s.heap.update T (Obj.mapFields (·.setIfInBounds 3 Value.none))).get? c = s.heap.get? c := fun c q => Heap.get?_update_other _ _ (Ne.symm q)
  have nr : ∀ c o, s.heap.get? c = some o → (∀ us, o.data ≠ .fields us) → c ≠ T := fun c o z nf q => by
    subst q; cases d1.symm.trans z; exact nf ts d2
  refine entX hfr hf (fun c o z => (ot c fun q => by rw [q, c1] at z; cases z).trans (x.stays c o z)) x.new (x.frames.of_keeps fun c o z nf => ⟨o, (ot c (nr c o z nf)).trans z, rfl⟩) ((ot e (Ne.symm c2)).trans a1) a3 a4 b1 fun h' f u => k h' f ?_
  exact fun c o z nf => u c o ((ot c (nr c o z nf)).trans z) nf
theorem FlyX.tail {cls fl : Value} {h : Heap} (x : FlyX B (env :: outer) e cls fl h) : FlyX B outer e cls fl h := by
  obtain ⟨a, b, ⟨_, _, c⟩, d⟩ := x
  exact ⟨a, b, c, d⟩
theorem leaveX {cls : Value} {Q : Unit → Shared → Prop} (hfr : A.frames = some (env :: outer)) (hf : env.frame = some L) (x : FlyX B (env :: outer) e cls .none s.heap)
    (k : ∀ h', FlyX B outer e cls .none h' → s.heap.UpToSlots h' → Q () { s with heap := h' }) : wpAny M A (leaving env (.ref e)) Q E s := by
  unfold leaving
  exact wpAny_bind (noteX hfr hf x fun h1 f1 u1 => offX f1 fun h2 f2 u2 => k h2 f2.tail (u1.trans u2))
theorem madeX {h : Heap} {cls : Value} {args : List Value} {Q : Unit → Shared → Prop} (hfr : A.frames = some (env :: outer)) (hf : env.frame = some L) (st : B.StaysIn h) (ff : h.FunFrames B (env :: outer)) (hx : Heap.MadeExcOf h s.heap e cls args)
    (k : ∀ h', FlyX B outer e cls .none h' → s.heap.UpToSlots h' → Q () { s with heap := h' }) : wpAny M A (leaving env (.ref e)) Q E s := by
  obtain ⟨t, he, _, _⟩ := hx.there
  have nb : B.get? e = none := by
    cases q : B.get? e with
    | none => rfl
    | some o => have := st e o q; rw [hx.new] at this; cases this
  unfold leaving noteFrame
  simp only [hf]
  refine wpAny_bind (wpAny_bind (wpAny_field he rfl (x := .none) rfl ?_))
  rw [if_neg (by decide)]
  refine entX hfr hf (fun c o z => hx.keeps c o (st c o z)) nb (ff.of_keeps fun c o z _ => ⟨o, hx.keeps c o z, rfl⟩) he rfl rfl rfl fun h1 f1 u1 => ?_
  exact offX f1 fun h2 f2 u2 => k h2 f2.tail (u1.trans u2)
end
end Cv

namespace Cv
open PySem PySem.Spec PyProof.Rows L2
/-! ### an exception that flies -/
/-- from a call's entry (H, h) to the flight: B holds all that stays, frames aside; h' is the heap of the flight -/
structure UnB (fs : List Addr) (H H' : Hp) (h B h' : Heap) : Prop where
  keep : ∀ b o, h.get? b = some o → H b = none → b ∉ fs → B.get? b = some o
  slot : ∀ b o, h.get? b = some o → H b = none → b ∈ fs → ∃ sl, h'.get? b = some { o with slots := sl }
  free : ∀ b o, h.get? b = some o → H b = none → H' b = none
  there : ∀ b o, h.get? b = some o → b ∉ fs → ∃ o', B.get? b = some o'
  tups : ∀ b xs, H b = some (.tup xs) → H' b = some (.tup xs)
  frzs : ∀ b o u, H b = some (.frz o u) → H' b = some (.frz o u)
  tbls : ∀ b ps, H b = some (.tbl ps) → ∃ more, H' b = some (.tbl (ps ++ more))
theorem UnB.un {fs : List Addr} {H H' : Hp} {h B h' : Heap} (u : UnB fs H H' h B h') (hB : B.StaysIn h') (hf : ∀ b ∈ fs, H b = none) : Un fs [] H H' h h' where
  keep := fun b o e n hb _ => hB b o (u.keep b o e n hb)
  slot := fun b o e n hb _ => u.slot b o e n hb
  free := fun b o e n _ => u.free b o e n
  there := fun b o e _ => by
    by_cases hb : b ∈ fs
    · obtain ⟨sl, q⟩ := u.slot b o e (hf b hb) hb
      exact ⟨_, q⟩
    · obtain ⟨o', q⟩ := u.there b o e hb
      exact ⟨o', hB b o' q⟩
  tups := u.tups
  frzs := u.frzs
  tbls := u.tbls
/-- the flight goes on: slots may change -/
theorem UnB.on {fs : List Addr} {H H' : Hp} {h B h' h'' : Heap} (u : UnB fs H H' h B h') (hf : ∀ b ∈ fs, ∀ o, h.get? b = some o → ∀ vs, o.data ≠ .fields vs) (up : h'.UpToSlots h'') : UnB fs H H' h B h'' where
  keep := u.keep
  slot := fun b o e n hb => by
    obtain ⟨sl, q⟩ := u.slot b o e n hb
    obtain ⟨sl', q'⟩ := up b _ q (hf b hb o e)
    exact ⟨sl', q'⟩
  free := u.free
  there := u.there
  tups := u.tups
  frzs := u.frzs
  tbls := u.tbls
noncomputable def CXx (P : Program) (w : World) : CXT := fun outer H s E e s' => ∃ (x : Addr) (cls : Value) (H' : Hp) (B : Heap), e = .ref x ∧ s'.os = s.os ∧ AllBare s'.gens ∧ UnB (frs outer) H H' s.heap B s'.heap ∧
  HOk P w H' B ∧ FlyX B outer x cls .none s'.heap ∧ E cls none H'
theorem passE0 {P : Program} {w : World} {X : Cx} : Passes (CXx P w) X E0 := fun _ _ _ _ _ _ _ ⟨_, _, _, _, _, _, _, _, _, _, h⟩ => h.elim
/-- a raise in the body of X reaches what X wants -/
noncomputable def Throws (X : Cx) (E : XK) : Prop := ∀ (pins : List (Addr × Obj)) (σ : L2.St) (H : Hp) (s : Shared) (e : Addr) (h' : Heap) (cls : Value) (vs : List Value), Inv X pins σ H s → Heap.MadeExcOf s.heap h' e cls vs → E cls none H → X.xe (.ref e) { s with heap := h' }
section
variable {X : Cx} {pins : List (Addr × Obj)} {σ : L2.St} {H H' : Hp} {s : Shared}
theorem fdata (I : Inv X pins σ H s) : ∀ b ∈ frs X.stack, ∀ o, s.heap.get? b = some o → ∀ vs, o.data ≠ .fields vs := fun b hb o e vs => by
  obtain ⟨_, o', e', d⟩ := I.stack.mem hb
  rw [e] at e'
  cases e'
  exact d vs
theorem hok_hide (I : Inv X pins σ H s) : HOk X.prog X.w H (PySem.W.hideAll s.heap (frs X.stack)) := fun a o e =>
  (I.hok a o e).stay (fun b u hb q => PySem.W.hideAll_get _ q fun hm => by
    have n := I.stkFree b hm
    rcases hb with rfl | hb
    · rw [e] at n; cases n
    · rw [hb] at n; cases n) (fun _ q => q) fun _ _ q => q
/-- a new exception, seen from a frame that is to be left or that catches -/
theorem made_un (I : Inv X pins σ H s) {e : Addr} {h' : Heap} {cls : Value} {vs : List Value} (hx : Heap.MadeExcOf s.heap h' e cls vs) : UnB (frs X.stack) H H s.heap (PySem.W.hideAll s.heap (frs X.stack)) h' where
  keep := fun b o q n hb => PySem.W.hideAll_get _ q hb
  slot := fun b o q n hb => ⟨o.slots, hx.keeps b o q⟩
  free := fun _ _ _ n => n
  there := fun b o q hb => ⟨o, PySem.W.hideAll_get _ q hb⟩
  tups := fun _ _ q => q
  frzs := fun _ _ _ q => q
  tbls := fun b ps q => ⟨#[], by rw [q]; simp⟩
/-- seen from the frame's own caller -/
theorem out_un {B h' : Heap} (I : Inv X pins σ H s) (hst : X.stack = X.env :: X.outer) (hfr : X.env.frame = some X.env.locals) (hex : X.ex = []) (u : UnB (frs X.stack) H H' s.heap B h') : UnB X.fs X.H₀ H' X.s₀.heap B h' := by
  have hs : frs X.stack = X.env.locals :: X.fs := by
    rw [hst]; unfold frs; rw [List.filterMap_cons, hfr]; rfl
  have nx : ∀ b, b ∉ X.ex := fun b z => by rw [hex] at z; cases z
  have ne : ∀ b o, X.s₀.heap.get? b = some o → b ≠ X.env.locals := fun b o e => Nat.ne_of_lt (Nat.lt_of_lt_of_le (Heap.lt_size e) I.ok.above)
  have nin : ∀ b o, X.s₀.heap.get? b = some o → b ∉ X.fs → b ∉ frs X.stack := fun b o e hb z => by
    rw [hs] at z
    rcases List.mem_cons.mp z with z | z
    · exact ne b o e z
    · exact hb z
  refine ⟨fun b o e n hb => ?_, fun b o e n hb => ?_, fun b o e n => ?_, fun b o e hb => ?_, fun b xs q => u.tups b xs (I.base.tups b xs q), fun b o xs q => u.frzs b o xs (I.base.frzs b o xs q), fun b ps q => ?_⟩
  · exact u.keep b o (I.base.keep b o e n hb (nx b)) (I.base.free b o e n (nx b)) (nin b o e hb)
  · obtain ⟨sl, q⟩ := I.base.slot b o e n hb (nx b)
    obtain ⟨sl', q'⟩ := u.slot b _ q (I.base.free b o e n (nx b)) (by rw [hs]; exact List.mem_cons_of_mem _ hb)
    exact ⟨sl', q'⟩
  · obtain ⟨o', q⟩ := I.base.there b o e (nx b)
    exact u.free b o' q (I.base.free b o e n (nx b))
  · obtain ⟨o', q⟩ := I.base.there b o e (nx b)
    exact u.there b o' q (nin b o e hb)
  · obtain ⟨m1, e1⟩ := I.base.tbls b ps q
    obtain ⟨m2, e2⟩ := u.tbls b _ e1
    exact ⟨m1 ++ m2, by rw [e2, Array.append_assoc]⟩
end
section
variable {P : Program} {w : World} {K : PySem.W.Frag} {mg : Str → Option Value} {base : Heap} {N : List Str} {qual : Str} {scope : Scope} {f : Addr} {cd : Value} {A : Around} {outer : List Env} {s : Shared} {H : Hp} {E : XK}
theorem throws_cx : Throws (cxOf (CXx P w) P w K mg base N qual scope f cd A outer s H E) E := by
  intro pins σ H1 s1 e h' cls vs I hx hE
  have hfr : (cxOf (CXx P w) P w K mg base N qual scope f cd A outer s H E).A.frames = some (cxOf (CXx P w) P w K mg base N qual scope f cd A outer s H E).stack := I.ok.frames
  have st : (PySem.W.hideAll s1.heap (frs (cxOf (CXx P w) P w K mg base N qual scope f cd A outer s H E).stack)).StaysIn s1.heap := fun b o q => PySem.W.of_hideAll _ q
  have ff : s1.heap.FunFrames (PySem.W.hideAll s1.heap (frs (cxOf (CXx P w) P w K mg base N qual scope f cd A outer s H E).stack)) (cxOf (CXx P w) P w K mg base N qual scope f cd A outer s H E).stack :=
    PySem.W.funFrames_hide I.stack fun env he b hb => List.mem_filterMap.mpr ⟨env, he, hb⟩
  refine madeX hfr rfl st ff hx fun h'' x1 x4 => ?_
  have u1 := made_un I hx
  have u2 : UnB (frs (cxOf (CXx P w) P w K mg base N qual scope f cd A outer s H E).stack) H1 H1 s1.heap _ h'' := u1.on (fdata I) x4
  exact ⟨e, cls, H1, _, rfl, I.os, I.bare, out_un I rfl rfl rfl u2, hok_hide I, x1, hE⟩
theorem passes_cx : Passes (CXx P w) (cxOf (CXx P w) P w K mg base N qual scope f cd A outer s H E) E := by
  rintro pins σ H1 s1 e s' I ⟨x, cls, H', B, rfl, hos, hb, u, hok, hfl, hE⟩
  have hfr : (cxOf (CXx P w) P w K mg base N qual scope f cd A outer s H E).A.frames = some (cxOf (CXx P w) P w K mg base N qual scope f cd A outer s H E).stack := I.ok.frames
  refine leaveX hfr rfl hfl fun h'' x1 x2 => ?_
  have u2 : UnB (frs (cxOf (CXx P w) P w K mg base N qual scope f cd A outer s H E).stack) H1 H' s1.heap B h'' := u.on (fdata I) x2
  exact ⟨x, cls, H', B, rfl, hos.trans I.os, hb, out_un I rfl rfl rfl u2, hok, x1, hE⟩
end

/-! ### a def whose exceptions fly on -/
section
variable {P : Program} {w : World} {K : PySem.W.Frag} {mg : Str → Option Value} {base : Heap}
theorem def_okX {x : Str} {st : Stmt} {N ps : List Str} {k : Nat} {sp : Sp} (F : FunAt K mg x st ps) (S : FnScope N ps (defScope st)) (len : ∀ vs H Q E, sp vs H Q E → vs.length = ps.length)
    (hbody : ∀ (f : Addr) (cdv : Value) (A : Around) (outer : List Env) (s : Shared) (H : Hp) (vs : List V) (Q : VK) (E : XK), Room k (A.deeper (envOfC x (defScope st) s.heap.objs.size f cdv)) → sp vs H Q E →
      ∃ t, PSs (cxOf (CXx P w) P w K mg base N x (defScope st) f cdv A outer s H E) (defBody st) t ∧ t { nx := fun _ H' => Q .non H', rt := Q } (start N vs) H) : DefOk P w K mg base (CXx P w) (k + 1) x ps sp := by
  obtain ⟨f, fd, F, hm, hb⟩ := F.ex
  obtain ⟨oc, od, kV, doc, pm, an, cdv, ct, osl, rfl, lk, hcd⟩ := F.ex
  exact ⟨f, _, fn_of lk hcd S len fun A outer s H vs Q E hr h => hbody f cdv A outer s H vs Q E hr h, hm, F.kp, hb, oc, od, osl, lk⟩
end
/-! ### the classes of refusals -/
noncomputable abbrev mroV : List Value := [.type "ValueError", .type "Exception", .type "BaseException", .type "object"]
/-- an own class of exceptions, as the top left it -/
structure XCls (K : PySem.W.Frag) (mg : Str → Option Value) (x : Str) (C : Addr) : Prop where
  bound : mg x = some (.ref C)
  obj : ∃ nm q N bs bm hdct sn sub ab col dd k0 k1 k2 k3 k5, K.lookup C = some (excClassObj nm q C N bs bm hdct sn sub ab col dd k0 k1 k2 k3 k5 "ValueError.__new__") ∧
    PySem.W.nsOkIn K N = true ∧ PySem.W.nsIn K N "__init__" = some none ∧ PySem.W.tailIn K mroV bm = true
theorem XCls.own {K : PySem.W.Frag} {mg : Str → Option Value} {x : Str} {C : Addr} {h : Heap} (c : XCls K mg x C) (X : K.In h) : OwnCls x C mroV "ValueError.__new__" mg h := by
  obtain ⟨nm, q, N, bs, bm, hdct, sn, sub, ab, col, dd, k0, k1, k2, k3, k5, l, h1, h2, h3⟩ := c.obj
  exact ⟨c.bound, bm, N, nm, q, bs, hdct, sn, sub, ab, col, dd, k0, k1, k2, k3, k5, _, X _ _ l, .of_isNs (PySem.W.isNs_of_in X h1), PySem.W.nsMap_none_of_in X h1 h2, PySem.W.tail_of_in X h3⟩
section
variable {X : Cx} {x : Str} {C : Addr} {np cpos pos : Pos} {E : XK} {e₀ : Expr} {ta : TA}
/-- raise x(e₀) -/
noncomputable def tRaise (E : XK) (C : Addr) (ta : TA) : TS := fun _ σ H => ta σ H fun vs H1 => vs.length ≤ sizeLine ∧ E (.ref C) none H1
theorem ps_raise (th : Throws X E) (c : XCls X.K X.mg x C) (ha : PA X [e₀] ta) (hc : X.calm = true := by rfl) (hg : Gl X x := by rfl) (he : starEach [e₀] X.env = [(false, eval e₀ X.env)] := by rfl)
    (hd : (x == ("__debug__" : Str)) = false := by decide) : PS X (.Raise (some (.Call (.Name x np) [e₀] [] cpos)) none pos) (tRaise E C ta) := by
  intro pins s σ H D I h
  have O : OwnCls x C mroV "ValueError.__new__" X.mg s.heap := c.own I.kIn
  obtain ⟨tl, N, nm, q, bs, hdct, sn, sub, ab, col, dd, k0, k1, k2, k3, k5, mN, hC, hN, hni, T⟩ := O.obj
  obtain ⟨tl', N', nm', q', bs', hdct', sn', sub', ab', col', dd', k0', k1', k2', k3', k5', mN', hC', hN', hni', T'⟩ := (c.own I.mod.kin).obj
  have FB := PySem.F.excBase_ValueError
  refine wpAny_Raise_call_subT (C := C) (nm := nm') (q := q') (N := N') (bs := bs') (bm := tl') (hdct := hdct') (sn := sn') (sub := sub') (ab := ab') (col := col') (dd := dd') (k0 := k0') (k1 := k1') (k2 := k2') (k3 := k3') (k5 := k5')
    FB (mN := mN') (T'.hasType FB.hasBase) (I.ok.hd hc) (by rw [he]; rfl) hni' (ld_glob I hg c.bound ⟨rfl, ?_⟩ hd)
  have h2 := ha cpos pins s σ H _ I h
  rw [he] at h2 ⊢
  exact Calls.evalArgs_plain (wpAny_mono h2 (fun us s2 ⟨vs, H2, I2, r, hz, hE⟩ => ⟨rfl, (by rw [← r.length]; exact hz), I2.bk _ _ hC', hN'.keeps I2.bk, T'.keeps I2.bk, fun h' e hm => th pins σ H2 s2 e h' _ _ I2 hm hE⟩) fun _ _ y => y)
end

/-! ### try, except C as n -/
theorem obj_some {P : Program} {w : World} {H : Hp} {h : Heap} {a : Addr} {o : HO} (x : ObjOk P w H h a o) : ∃ ob, h.get? a = some ob := by
  induction o with
  | lst xs => obtain ⟨_, _, _, _, e⟩ := x; exact ⟨_, e⟩
  | tup xs => obtain ⟨_, _, _, _, e, _⟩ := x; exact ⟨_, e⟩
  | dK kvs => obtain ⟨_, _, _, _, _, _, _, e, _⟩ := x; exact ⟨_, e⟩
  | dT kvs => obtain ⟨_, _, _, _, _, _, _, e, _⟩ := x; exact ⟨_, e⟩
  | set S n => obtain ⟨_, _, _, _, e, _⟩ := x; exact ⟨_, e⟩
  | ins C dx fs => obtain ⟨_, _, _, e, _⟩ := x; exact ⟨_, e⟩
  | own y => exact x
  | xd fs => obtain ⟨_, ⟨_, _, _, e, _⟩, _⟩ := x; exact ⟨_, e⟩
  | rng lo hi => obtain ⟨_, _, _, e⟩ := x; exact ⟨_, e⟩
  | frz ob u _ => exact ⟨_, x.1⟩
  | tbl ps => exact ⟨_, x⟩
  | met f y => exact ⟨_, x⟩
  | ext p => exact x.2.1
noncomputable abbrev tryX (X : Cx) (xe : Value → Shared → Prop) (pn : List (Addr × Obj)) : Cx := { X with xe := xe, pn := pn }
noncomputable abbrev suiteX (X : Cx) (x : Addr) : Cx := { X with A := X.A.mark (some (.ref x)), calm := false, xe := fun _ _ => False }
section
variable {X : Cx} {pins pins' : List (Addr × Obj)} {σ : L2.St} {H H' : Hp} {s : Shared}
theorem toTry (I : Inv X pins σ H s) (xe : Value → Shared → Prop) : Inv (tryX X xe (X.pn ++ pins)) pins σ H s :=
  ⟨⟨I.ok.mod, I.ok.kind, I.ok.glob, I.ok.blt, I.ok.above, I.ok.inj, I.ok.has, I.ok.cab, I.ok.hd, I.ok.frames, I.ok.stk, I.ok.exf, I.ok.bs, I.ok.bsz, I.ok.noex, I.ok.exfs, I.ok.funs, I.ok.frf⟩,
    I.os, I.bare, I.base, I.loc, I.cell, I.free, I.freeC, fun p hp => I.pin p ((List.mem_append.mp hp).elim id fun z => List.mem_append_right _ z), I.hok, I.len⟩
theorem ofTry {xe : Value → Shared → Prop} (I : Inv (tryX X xe (X.pn ++ pins)) pins' σ H s) : Inv X pins σ H s :=
  ⟨⟨I.ok.mod, I.ok.kind, I.ok.glob, I.ok.blt, I.ok.above, I.ok.inj, I.ok.has, I.ok.cab, I.ok.hd, I.ok.frames, I.ok.stk, I.ok.exf, I.ok.bs, I.ok.bsz, I.ok.noex, I.ok.exfs, I.ok.funs, I.ok.frf⟩,
    I.os, I.bare, I.base, I.loc, I.cell, I.free, I.freeC, fun p hp => I.pin p (List.mem_append_left _ hp), I.hok, I.len⟩
theorem toSuite (I : Inv X pins σ H s) (x : Addr) : Inv (suiteX X x) pins σ H s :=
  ⟨⟨I.ok.mod, I.ok.kind, I.ok.glob, I.ok.blt, I.ok.above, I.ok.inj, I.ok.has, I.ok.cab, fun z => absurd z Bool.false_ne_true, I.ok.frames, I.ok.stk, I.ok.exf, I.ok.bs, I.ok.bsz, I.ok.noex, I.ok.exfs, I.ok.funs, I.ok.frf⟩,
    I.os, I.bare, I.base, I.loc, I.cell, I.free, I.freeC, I.pin, I.hok, I.len⟩
theorem ofSuite {x : Addr} (hd : X.calm = true → X.A.handled = none) (I : Inv (suiteX X x) pins σ H s) : Inv X pins σ H s :=
  ⟨⟨I.ok.mod, I.ok.kind, I.ok.glob, I.ok.blt, I.ok.above, I.ok.inj, I.ok.has, I.ok.cab, hd, I.ok.frames, I.ok.stk, I.ok.exf, I.ok.bs, I.ok.bsz, I.ok.noex, I.ok.exfs, I.ok.funs, I.ok.frf⟩,
    I.os, I.bare, I.base, I.loc, I.cell, I.free, I.freeC, I.pin, I.hok, I.len⟩
/-- the frame's names are forgotten -/
theorem inv_forget {h' : Heap} {m' : Str → Option Value} {tk : Nat} (I : Inv X pins σ H s) (hn : h'.Ns X.env.locals m') (hs : Heap.SameBut X.env.locals s.heap h') : Inv X pins (List.replicate X.N.length none) H { s with heap := h', toks := tk } := by
  have old : ∀ b o, X.s₀.heap.get? b = some o → b ≠ X.env.locals := fun b o e => Nat.ne_of_lt (Nat.lt_of_lt_of_le (Heap.lt_size e) I.ok.above)
  refine ⟨I.ok, I.os, I.bare, ⟨fun b o e n hb hx => (hs.2 b (old b o e)).trans (I.base.keep b o e n hb hx), fun b o e n hb hx => ?_, I.base.free, fun b o e hx => ?_, I.base.tups, I.base.frzs, I.base.tbls⟩,
    ⟨m', hn, fun i y v _ e2 _ => ?_⟩, fun y c e => ?_, I.free, I.freeC, fun p hp => ?_, fun b o e => ?_, List.length_replicate⟩
  · obtain ⟨sl, q⟩ := I.base.slot b o e n hb hx
    exact ⟨sl, (hs.2 b (old b o e)).trans q⟩
  · obtain ⟨o', q⟩ := I.base.there b o e hx
    exact ⟨o', (hs.2 b (old b o e)).trans q⟩
  · rw [List.getElem?_replicate] at e2
    split at e2 <;> cases e2
  · obtain ⟨v, z⟩ := I.cell y c e
    exact ⟨v, z.sameBut hs (I.cne y c e)⟩
  · obtain ⟨e, n, ne, nf, d⟩ := I.pin p hp
    exact ⟨(hs.2 p.1 ne).trans e, n, ne, nf, d⟩
  · refine (I.hok b o e).stay (fun c u hc q => (hs.2 c fun z => ?_).trans q) (fun _ q => q) fun _ _ q => q
    have fr := I.free
    rcases hc with hc | hc
    · rw [← z, hc, e] at fr; cases fr
    · rw [← z, hc] at fr; cases fr
end
/-- an exception that was caught -/
noncomputable def ExcO (x : Addr) (cls : Value) : HO := .ext fun h => ∃ o vs, h.get? x = some o ∧ o.cls = cls ∧ o.data = .fields vs ∧ vs[2]? = some .none ∧ o.dict = none
section
variable {X : Cx}
end
end Cv

namespace Cv
open PySem PySem.Spec PyProof.Rows L2
/-! ### isinstance of a caught exception -/
/-- what is told of a class of exceptions, for what is none of another one -/
structure XNot (K : PySem.W.Frag) (C : Addr) : Prop where
  hg : PySem.W.findIn K (.ref C) "__getattribute__" = some (some (.builtin "BaseException.__getattribute__"))
  hk : PySem.W.findIn K (.ref C) "__getattr__" = some none
  hd : (PySem.W.clsIn K C).isSome = true
  ha : PySem.W.findIn K (.ref C) "__class__" = some (some (.builtin "object.__class__"))
  hn : PySem.W.specialIn K (.builtin "object.__class__") "__get__" = some (some (.builtin "getset_descriptor.__get__"))
  ht : PySem.W.takesIn K (.builtin "object.__class__") = some true
  hm : PySem.W.mroIn K C (.type "object") = some true
  hb : PySem.W.mroIn K C (.type "BaseException") = some true
theorem exc_cls {K : PySem.W.Frag} {x C : Addr} {prog : Program} {w : World} {A : Around} {E : Value → Shared → Prop} {s : Shared} {o : Obj} {Q : Option Value → Shared → Prop} (n : XNot K C) (KX : K.In s.heap) (I : PySem.W.InstAt s.heap x o C none)
    (hf : PySem.W.findObj K C none "__class__" = some (.bind (.builtin "getset_descriptor.__get__") (.builtin "object.__class__"))) (h : Q (some (.ref C)) { s with toks := s.toks + 1 }) : wpAny (model prog w) A (getAttr? (.ref x) "__class__") Q E s := by
  obtain ⟨hh, g, d, t, os⟩ := s
  have L0 := I.type (M := model prog w)
  have L1 := PySem.W.looks_findIn (M := model prog w) KX n.hg
  have L2 := PySem.W.looks_findIn (M := model prog w) KX n.hk
  have L3 := PySem.W.looks_find (M := model prog w) KX I hf
  have L4 := PySem.W.looks_mroIn (M := model prog w) KX n.hb
  have hx2 : (Value.builtin "BaseException.__getattribute__" == Value.builtin "object.__getattribute__") = false := by decide +kernel
  have hx1 : (onTheHeap (Value.ref C) && Value.builtin "BaseException.__getattribute__" == Value.builtin "object.__getattribute__") = false := by rw [hx2]; rfl
  have hb := F.excAttr_ValueError.ga.bind (.ref x)
  unfold getAttr? getAttrBy? getAttrBy
  refine wpAny_bind (wpAny_mkText (wpAny_bind (wpAny_attempt (wpAny_holding (wpAny_bind (L0.at (wpAny_bind (L1.at ?_))))))))
  dsimp only
  rw [hx1, if_neg Bool.false_ne_true]
  unfold getAttrByItsOwn hookBefore
  refine wpAny_bind (L2.at ?_)
  refine wpAny_bind (wpAny_attempt (wpAny_holding ?_))
  unfold callGetattribute boundAndCalled
  rw [Bool.false_and, if_neg Bool.false_ne_true, hb]
  refine wpAny_bind (wpAny_pure ?_)
  refine wpAny_call (codeAny_call_builtin F.excAttr_ValueError.ga.plain F.entry_bexc_ga ?_)
  have hk : builtinKind "BaseException.__getattribute__" = some .slot := by decide +kernel
  have hsp : splitId "BaseException.__getattribute__" = some ("BaseException", "__getattribute__") := by decide +kernel
  have hz := F.args_bexc_ga (.ref x) (.str "__class__" t)
  simp only [checkBuiltinCall, hk, hsp]
  refine wpAny_bind ?_
  unfold isInstance
  refine wpAny_bind (L0.at (L4.at ?_))
  repeat wp_step
  refine wpAny_loadPart I.at_ (wpAny_pure ?_)
  rw [I.cls]
  refine wpAny_bind (L3.at ?_)
  unfold Builtin.ObjectAttr.bindTo
  dsimp only
  refine wpAny_bind (wpAny_holding (wpAny_call (PySem.W.class_get (s := { heap := hh, gens := g, drawn := d, toks := t + 1, os := os }) (ox := o) (od := none) KX I n.hm ?_)))
  refine wpAny_pure ?_
  exact PySem.W.handed_on rfl (wpAny_pure h)
/-- an exception of an own class, as it lies there -/
noncomputable def XAt (x C : Addr) (h : Heap) : Prop := ∃ o vs, h.get? x = some o ∧ o.cls = .ref C ∧ o.data = .fields vs ∧ vs[2]? = some .none ∧ o.dict = none
theorem XAt.inst {x C : Addr} {h : Heap} (p : XAt x C h) : ∃ o, PySem.W.InstAt h x o C none := by
  obtain ⟨o, vs, a, b, c, _, d⟩ := p
  exact ⟨o, a, b, by unfold PySem.W.notCls; rw [c], by rw [d]; exact True.intro⟩
theorem cls_some {K : PySem.W.Frag} {C : Addr} (h : (PySem.W.clsIn K C).isSome = true) : ∃ c d cd sl, K.lookup C = some ⟨c, d, .cls cd, sl⟩ := by
  obtain ⟨cd, hc⟩ := Option.isSome_iff_exists.mp h
  unfold PySem.W.clsIn at hc
  split at hc
  · exact ⟨_, _, _, _, by assumption⟩
  · cases hc
theorem kitx_exc {K : PySem.W.Frag} {x C : Addr} (n : XNot K C) : PySem.W.KitX K (.ref x) (.ref C) (XAt x C) where
  ty := fun _ _ _ p => by obtain ⟨o, I⟩ := p.inst; exact I.type
  it := fun _ _ KX _ => by
    obtain ⟨c, d, cd, sl, hk⟩ := cls_some n.hd
    intro A' Q' E' s' kk q
    unfold isType loadHead
    exact wpAny_bind (wpAny_loadPart (kk _ _ (KX _ _ hk)) (wpAny_pure q))
  ne := fun h tp dd its m sl KX e => by
    obtain ⟨c, d, cd, sl', hk⟩ := cls_some n.hd
    refine Bool.eq_false_iff.mpr fun q => ?_
    cases Value.ref.inj (beq_iff_eq.mp q)
    cases (KX _ _ hk).symm.trans e
  ca := fun {_ _ _ _ _ s} KX p q => by
    obtain ⟨o, I⟩ := p.inst
    obtain ⟨c, d, cd, sl', hk⟩ := cls_some n.hd
    have hf : PySem.W.findObj K C none "__class__" = some (.bind (.builtin "getset_descriptor.__get__") (.builtin "object.__class__")) := by
      have hc : PySem.W.clsIn K C = some cd := by unfold PySem.W.clsIn; rw [hk]
      unfold PySem.W.findObj
      rw [hc, Option.bind_some, n.ha, Option.bind_some]
      simp [n.hn, n.ht]
    exact exc_cls n KX I hf q
section
variable {X : Cx}
/-- a class, as a value: one of the text's or a built-in one -/
noncomputable def clsOf : V → Option Value
  | .ref a => some (.ref a)
  | .ty n => some (.type n)
  | _ => none
theorem clsOf_rel {y : V} {c v : Value} (e : clsOf y = some c) (r : RelV y v) : v = c := by
  cases y with
  | ref a => cases e; exact r
  | ty n => cases e; exact r
  | _ => cases e
theorem call_isx : CallR X (.builtin "isinstance") (fun xs H Q => ∃ x C y c b, xs = [.ref x, y] ∧ H x = some (ExcO x (.ref C)) ∧ clsOf y = some c ∧ XNot X.K C ∧ PySem.W.kitOne X.K (.ref C) c = some b ∧ Q (.bl b) H) := by
  intro pins s σ H xs us Q I r h
  obtain ⟨x, C, y, c, b, rfl, hx, ry, n, e, q⟩ := h
  obtain ⟨u, v, rfl, ru, rv⟩ := vals_two r
  cases ru
  cases clsOf_rel ry rv
  have hO : XAt x C s.heap := (I.hok x _ hx).1
  exact PySem.W.kia_one (kitx_exc n) I.kIn hO e (fun z => nomatch z) fun tk => ⟨.bl b, H, I.tok tk, rfl, q⟩
end
end Cv
namespace Cv
open PySem PySem.Spec PyProof.Rows L2
/-! ### promises with refusals -/
theorem Bd.zero : Bd 4000 (0 : Rat) := ⟨Sz.zero.mono (by decide), Sz.one.mono (by decide)⟩
theorem Bd.one : Bd 4000 (1 : Rat) := ⟨Sz.one.mono (by decide), Sz.one.mono (by decide)⟩
theorem kit_self (K : PySem.W.Frag) (a : Addr) : PySem.W.kitOne K (.ref a) (.ref a) = some true := by
  unfold PySem.W.kitOne
  rw [if_pos (beq_self_eq_true _)]
end Cv

namespace Cv
open PySem PySem.Spec PyProof.Rows L2
/-! ### a list comprehension: one clause, no test -/
noncomputable abbrev cxComp (X : Cx) (scope : Scope) (cl : List (Str × Addr)) (Nc : List Str) (C : Addr) (s0 : Shared) (H0 : Hp) (fp : List Addr) : Cx where
  prog := X.prog
  w := X.w
  K := X.K
  mg := X.mg
  base := X.base
  A := X.A
  N := Nc
  s₀ := s0
  H₀ := H0
  env := compEnvC scope cl C X.env
  outer := X.stack
  stack := X.stack
  ex := fp
  fn := fun _ => false
  calm := X.calm
  pn := []
  xe := fun _ _ => False
noncomputable def capd (σ : L2.St) (ix : List Nat) : L2.St := ix.map fun j => (σ[j]?).getD none
section
variable {X : Cx}
end
end Cv

namespace Cv
open PySem PySem.Spec PyProof.Rows L2
/-! ### closures of a comprehension's block -/
theorem closure_go {env : Env} : ∀ (names : List (Str × NameKind)) (acc : List (Str × Addr)), (∀ y ∈ names, y.2 = .free → ∃ c, env.cells.lookup y.1 = some c) →
    ∃ cl, (forIn names acc fun (x : Str × NameKind) (r : List (Str × Addr)) => if (x.2 == NameKind.free) = true then (do let c ← cellOf env x.1; pure (ForInStep.yield ((x.1, c) :: r))) else pure (ForInStep.yield r) : Sem (List (Str × Addr))) = pure cl ∧
      ((∀ y c, acc.lookup y = some c → env.cells.lookup y = some c) → ∀ y c, cl.lookup y = some c → env.cells.lookup y = some c) ∧
      (∀ y, (∃ c, acc.lookup y = some c) → ∃ c, cl.lookup y = some c) ∧ ∀ y ∈ names, y.2 = .free → ∃ c, cl.lookup y.1 = some c
  | [], acc, _ => ⟨acc, by simp, fun h => h, fun _ h => h, fun _ h => nomatch h⟩
  | (n, k) :: r, acc, h => by
    rw [List.forIn_cons]
    by_cases hk : k = .free
    · subst hk
      obtain ⟨c, hc⟩ := h (n, .free) (.head _) rfl
      obtain ⟨cl, e, h1, h2, h3⟩ := closure_go (env := env) r ((n, c) :: acc) fun y hy => h y (.tail _ hy)
      refine ⟨cl, ?_, fun ha => h1 fun y d hd => ?_, fun y hy => h2 y ?_, fun y hy hf => ?_⟩
      · have ec : cellOf env n = pure c := by
          unfold cellOf
          have hc' : env.cells.lookup n = some c := hc
          rw [hc']
        simp only [ec]
        exact e
      · rw [List.lookup_cons] at hd
        by_cases hy : y == n
        · rw [hy] at hd
          cases hd
          rw [eq_of_beq hy]; exact hc
        · rw [Bool.not_eq_true] at hy
          rw [hy] at hd
          exact ha y d hd
      · rw [List.lookup_cons]
        by_cases hyn : y == n
        · rw [hyn]; exact ⟨_, rfl⟩
        · rw [Bool.not_eq_true] at hyn
          rw [hyn]; exact hy
      · rcases List.mem_cons.mp hy with rfl | hy
        · exact h2 n ⟨c, by rw [List.lookup_cons]; simp⟩
        · exact h3 y hy hf
    · obtain ⟨cl, e, h1, h2, h3⟩ := closure_go (env := env) r acc fun y hy => h y (.tail _ hy)
      refine ⟨cl, ?_, h1, h2, fun y hy hf => ?_⟩
      · have hk' : (k == NameKind.free) = false := by
          cases k <;> first | rfl | exact absurd rfl hk
        simp only [hk']
        exact e
      · rcases List.mem_cons.mp hy with rfl | hy
        · exact absurd hf hk
        · exact h3 y hy hf
theorem closure_of {scope : Scope} {env : Env} (h : ∀ y ∈ scope.names, y.2 = .free → ∃ c, env.cells.lookup y.1 = some c) :
    ∃ cl, closureFor scope env = pure cl ∧ (∀ y c, cl.lookup y = some c → env.cells.lookup y = some c) ∧ ∀ y ∈ scope.names, y.2 = .free → ∃ c, cl.lookup y.1 = some c := by
  obtain ⟨cl, e, h1, _, h3⟩ := closure_go (env := env) scope.names [] h
  refine ⟨cl, ?_, h1 (fun _ _ z => nomatch z), h3⟩
  unfold closureFor
  have := congrArg (fun (m : Sem (List (Str × Addr))) => m >>= fun r => pure r) e
  first
    | exact e
    | simpa using e
    | (simp only [bind_pure] at this ⊢; exact this)
/-- the names of the block, by their kinds in the def around it -/
theorem relabel_lookup {env : Env} : ∀ {names : List (Str × NameKind)} {y : Str} {k : NameKind}, (∀ z ∈ names, z.2 ≠ .cell) →
    (names.map fun (n, k) => if (k == NameKind.free && env.scope.kind == .function && env.kindOf n == some .cell) then (n, NameKind.cell) else (n, k)).lookup y = some k → (k = .cell ∨ k = .free) → (y, NameKind.free) ∈ names
  | [], _, _, _, h, _ => by simp at h
  | (n, q) :: r, y, k, hc, h, hk => by
    rw [List.map_cons] at h
    by_cases hy : y == n
    · have e : y = n := eq_of_beq hy
      subst e
      by_cases ht : (q == NameKind.free && env.scope.kind == .function && env.kindOf y == some .cell) = true
      · have : q = .free := by
          simp only [Bool.and_eq_true] at ht
          exact eq_of_beq ht.1.1
        rw [this]; exact .head _
      · simp only [ht] at h
        rw [List.lookup_cons] at h
        simp at h
        subst h
        rcases hk with rfl | rfl
        · exact absurd rfl (hc _ (.head _))
        · exact .head _
    · rw [Bool.not_eq_true] at hy
      refine .tail _ (relabel_lookup (env := env) (fun z hz => hc z (.tail _ hz)) ?_ hk)
      by_cases ht : (q == NameKind.free && env.scope.kind == .function && env.kindOf n == some .cell) = true
      · simp only [ht] at h
        rw [List.lookup_cons] at h
        have h' := h
        (simp [hy] at h'; simpa using h')
      · simp only [ht] at h
        rw [List.lookup_cons] at h
        have h' := h
        (simp [hy] at h'; simpa using h')
section
variable {prog : Program} {w : World} {A : Around} {R : Result → Shared → Prop} {s : Shared}
theorem compLoop_listG {elt target iter : Expr} {scope : Scope} {pos : Pos} {it acc : Value} {env : Env} (I : Nat → Shared → Prop)
    (turn : ∀ n s, I n s → wpAny (model prog w) A (pyNext it) (fun r s₁ => match r with
      | none => R (.ok .next) s₁
      | some v => wpAny (model prog w) A (letOwnedTupleGo target it v) (fun _ s₁' => wpAny (model prog w) A (assign target env v) (fun _ s₂ => wpAny (model prog w) A (eval elt env) (fun x s₃ =>
          wpAny (model prog w) A (call (.builtin "list.append") [acc, x]) (fun _ s₄ => ∃ m, m < n ∧ I m s₄) (notedBy (model prog w) A env fun e s' => R (.error e) s') s₃)
          (notedBy (model prog w) A env fun e s' => R (.error e) s') s₂) (notedBy (model prog w) A env fun e s' => R (.error e) s') s₁') (notedBy (model prog w) A env fun e s' => R (.error e) s') s₁) (notedBy (model prog w) A env fun e s' => R (.error e) s') s)
    (n : Nat) (h : I n s) :
    codeAny (model prog w) A (.compLoop (.ListComp elt [⟨target, iter, [], 0⟩] scope pos) 0 it acc env) R s := by
  refine codeAny_loop rfl I (fun n s hI => ?_) n h
  show wpAny _ _ ((compTurn (.ListComp elt [⟨target, iter, [], 0⟩] scope pos) 0 it acc env).onRaise (fun x => do noteFrame x env; theTreesLotGoes x)) _ _ s
  refine wpAny_noted ?_
  rw [compTurn_list1]
  refine wpAny_bind (wpAny_standAt (wpAny_bind (wpAny_mono (turn n s hI) (fun r s₁ h₁ => ?_) fun _ _ h' => h')))
  cases r with
  | none => exact wpAny_pure h₁
  | some v =>
    refine wpAny_bind (wpAny_mono h₁ (fun _ s₁' h₁' => ?_) fun _ _ h' => h')
    exact wpAny_bind (wpAny_mono h₁' (fun _ s₂ h₂ => wpAny_bind (wpAny_bind (wpAny_mono h₂ (fun x s₃ h₃ => wpAny_bind (wpAny_mono h₃
      (fun _ s₄ h₄ => wpAny_pure (wpAny_pure ⟨rfl, h₄⟩)) fun _ _ h' => h')) fun _ _ h' => h'))) fun _ _ h' => h')
end
noncomputable def CompGoal (k : Nat) (J : It) (H1 : Hp) (g : TG) (te : TE) (cs : L2.St) (Q : VK) : Prop := ∀ D, H1 D = none → ∃ W : Nat → Nat → List V → Hp → Prop, (∃ m, W 0 m [] (upd H1 D (.lst []))) ∧
  ∀ i m ys H2, W i m ys H2 → (J.stop i H2 ∧ Q (.ref D) H2) ∨ (J.go i H2 ∧ ∀ x H', J.yld i H2 x H' → ∀ own : L2.St, own.length = k → g x (own ++ cs) H' fun σ2 H4 => (∃ own' : L2.St, own'.length = k ∧ σ2 = own' ++ cs) ∧
    te σ2 H4 fun v H3 => H3 D = some (.lst ys) ∧ ys.length < sizeLine ∧ ∃ m', m' < m ∧ W (i + 1) m' (ys ++ [v]) (upd H3 D (.lst (ys ++ [v]))))
noncomputable def tCompG (k : Nat) (wi : TI) (g : TG) (te : TE) (ix : List Nat) : TE := fun σ H Q => wi σ H fun J H1 => CompGoal k J H1 g te (capd σ ix) Q
section
variable {X : Cx}
theorem comp_core {tg elt iter : Expr} {os : List Str} {pos ipos : Pos} {scope : Scope} {wi : TI} {g : TG} {te : TE} {caps : List (Nat × Str)} {pins : List (Addr × Obj)} {s : Shared} {σ : L2.St} {H : Hp} {Q : VK} {use : Option (Value → Sem Unit)} {R : Value → Shared → Prop} (hi : PI X tg iter wi)
    (hg : ∀ cl C s0 H0 fp, PG (cxComp X scope cl (os ++ caps.map (·.2)) C s0 H0 fp) tg g)
    (he : ∀ cl C s0 H0 fp, PE (cxComp X scope cl (os ++ caps.map (·.2)) C s0 H0 fp) elt te)
    (hfree : ∀ y ∈ scope.names, y.2 = .free → X.env.kindOf y.1 = some .cell)
    (hcap : ∀ p ∈ caps, X.N[p.1]? = some p.2 ∧ X.env.kindOf p.2 = some .cell ∧ ((relabel scope X.env).names.lookup p.2 = some .cell ∨ (relabel scope X.env).names.lookup p.2 = some .free))
    (hkind : scope.kind = .function) (hcell : ∀ y ∈ scope.names, y.2 ≠ .cell)
    (hnames : ∀ y ∈ scope.names, y.2 = .local → scope.names.lookup y.1 = some .local) (hc : X.calm = true) (hfs : ∀ v, foldedSetIterable iter X.env v = pure v)
    (hfin : ∀ D C H5 s6 m6, Inv X pins σ H5 s6 → s6.heap.Ns C m6 → FpOk X pins H5 C → Q (.ref D) H5 → compPost (model X.prog X.w) X.A X.xe use R (.ref D) C (.ok .next) s6)
    (I : Inv X pins σ H s) (h : tCompG os.length wi g te (caps.map (·.1)) σ H Q) :
    wpAny (model X.prog X.w) X.A (comprehension (.ListComp elt [⟨tg, iter, [], 0⟩] scope pos) scope X.env ipos (newList []) false (eval iter X.env) use) R X.xe s := by
  obtain ⟨cl, hclos, hcl, hin⟩ := closure_of (scope := scope) (env := X.env) fun y hy hf => I.ok.has y.1 (.inl (hfree y hy hf))
  have hhas : ∀ y, ((relabel scope X.env).names.lookup y = some .cell ∨ (relabel scope X.env).names.lookup y = some .free) → ∃ c, cl.lookup y = some c := fun y hy => by
    rcases hy with hy | hy
    · exact hin (y, .free) (relabel_lookup (env := X.env) hcell hy (.inl rfl)) rfl
    · exact hin (y, .free) (relabel_lookup (env := X.env) hcell hy (.inr rfl)) rfl
  refine wpAny_comprehension_free (use := use) rfl hfs hclos hkind hnames ?_
  refine thn (hi pins s σ H _ I h) fun v s1 h1 => thn h1 fun itv s2 h2 => ?_
  obtain ⟨it, fp, tn, J, H1, rfl, I2, T, st2, f2, rd⟩ := h2
  refine wpAny_newObj_type ?_ (by show 0 ≤ sizeLine; decide)
  have hD : H1 s2.heap.objs.size = none := I2.hok.fresh (Nat.le_refl _)
  obtain ⟨W, ⟨m0, w0⟩, turn⟩ := rd s2.heap.objs.size hD
  generalize eD : s2.heap.objs.size = D at hD w0 turn
  have I3 : Inv X pins σ (upd H1 D (.lst [])) { s2 with heap := s2.heap.push { cls := .type "list", data := .seq ([] : List Value).toArray } } := by
    subst eD
    exact I2.laid (t' := s2.toks) (fun b u e => Heap.get?_push_of_some _ e) (Nat.le_refl _) ⟨Nat.zero_le _, [], 0, .nil, Heap.get?_push_size _ rfl⟩
  generalize e3 : ({ s2 with heap := s2.heap.push { cls := .type "list", data := .seq ([] : List Value).toArray } } : Shared) = s3 at I3
  have hs3 : s3.heap.objs.size = D + 1 := by rw [← e3, ← eD]; simp
  have k23 : ∀ b o, s2.heap.get? b = some o → s3.heap.get? b = some o := fun b o e => by rw [← e3]; exact Heap.get?_push_of_some _ e
  refine wpAny_newFunctionEnv hcell (by intro y hy; simp at hy) (fun h4 hn4 hs4 => ?_) hkind
  have k34 : ∀ b o, s3.heap.get? b = some o → h4.get? b = some o := fun b o e => (hs4.2 b (Nat.ne_of_lt (Heap.lt_size e))).trans (Heap.get?_push_of_some _ e)
  generalize eC : s3.heap.objs.size = C at hn4 hs4
  have hfpC : ∀ b ∈ fp, b ≠ C := fun b hb z => by
    obtain ⟨o, e, _⟩ := T.obj 0 _ st2 b hb
    have h1 := Heap.lt_size e
    rw [z, ← eC, hs3, eD] at h1
    exact absurd h1 (Nat.not_lt.mpr (Nat.le_succ D))
  have hfps : ∀ b ∈ fp, b ∉ frs X.stack := fun b hb z => by
    rcases List.mem_cons.mp (I2.stkSub b z) with q | q
    · exact (f2 b hb).2.1 q
    · exact (f2 b hb).2.2.1 q
  have hfpD : ∀ b ∈ fp, b ≠ D := fun b hb z => by
    obtain ⟨o, e, _⟩ := T.obj 0 _ st2 b hb
    have h1 := Heap.lt_size e
    rw [z, eD] at h1
    exact Nat.lt_irrefl _ h1
  have okc : (cxComp X scope cl (os ++ caps.map (·.2)) C s3 (upd H1 D (.lst [])) fp).Ok := by
    refine ⟨I3.ok.mod, hkind, I3.ok.glob, I3.ok.blt, Nat.le_of_eq eC, fun y z c h1 h2 => I3.ok.inj y z c (hcl y c h1) (hcl z c h2), fun y hy => hhas y hy, fun y c hf => absurd hf Bool.false_ne_true, I3.ok.hd, I3.ok.frames, .inl rfl,
      fun b hb => ⟨hfpC b hb, fun y c e => (f2 b hb).2.2.2.2.1 y c (hcl y c e)⟩, I3.bs, Nat.le_trans I3.ok.bsz I3.sz, fun b o e hb => ?_, fun b hb => hfps b hb, I3.stack, I3.stkFree⟩
    rcases (f2 b hb).2.2.2.1 with z | z
    · exact I3.ok.noex b o e z
    · exact Nat.lt_irrefl _ (Nat.lt_of_lt_of_le (Heap.lt_size (I3.ok.bs b o e).1) z)
  have capS : (capd σ (caps.map (·.1))).length = caps.length := by unfold capd; rw [List.length_map, List.length_map]
  have Ic : Inv (cxComp X scope cl (os ++ caps.map (·.2)) C s3 (upd H1 D (.lst [])) fp) [] (List.replicate os.length none ++ capd σ (caps.map (·.1))) (upd H1 D (.lst [])) { s3 with heap := h4, toks := s3.toks + ([] : List (Str × Value)).length } := by
    refine ⟨okc, rfl, I3.bare, Un.kept k34, ⟨_, hn4, fun i y v e1 e2 e3' => ?_⟩, fun y c e => ?_, I3.hok.fresh (Nat.le_of_eq eC), fun y c e => I3.freeC y c (hcl y c e), fun p hp => absurd hp (by simp), I3.hok.kept k34, ?_⟩
    · by_cases hik : i < os.length
      · rw [List.getElem?_append_left (by rw [List.length_replicate]; exact hik), List.getElem?_replicate] at e2
        split at e2 <;> cases e2
      · have e1' : (caps.map (·.2))[i - os.length]? = some y := by
          have z : (os ++ caps.map (·.2))[i]? = some y := e1
          rw [List.getElem?_append_right (by omega)] at z
          exact z
        have e2' : (capd σ (caps.map (·.1)))[i - os.length]? = some (some v) := by
          rw [List.getElem?_append_right (by rw [List.length_replicate]; omega), List.length_replicate] at e2
          exact e2
        generalize i - os.length = i at e1' e2'
        rw [List.getElem?_map] at e1'
        unfold capd at e2'
        rw [List.getElem?_map, List.getElem?_map] at e2'
        cases q : caps[i]? with
        | none => rw [q] at e1'; cases e1'
        | some p =>
          rw [q] at e1' e2'
          have ey : p.2 = y := Option.some.inj e1'
          have ev : (σ[p.1]?).getD none = some v := Option.some.inj e2'
          have es : σ[p.1]? = some (some v) := by
            cases z : σ[p.1]? with
            | none => rw [z] at ev; cases ev
            | some w' => rw [z] at ev; exact congrArg some ev
          obtain ⟨hN, hk, hv⟩ := hcap p (List.mem_of_getElem? q)
          obtain ⟨m, _, hl⟩ := I3.loc
          obtain ⟨u, r, lk⟩ := hl p.1 p.2 v hN es (.inr (.inl hk))
          rw [ey] at hk hv lk
          refine ⟨u, r, .inr ⟨hv, ?_⟩⟩
          obtain ⟨c, hc'⟩ := hhas y hv
          rcases lk with ⟨z, _⟩ | ⟨_, c2, z, ic⟩
          · rw [hk] at z; cases z
          · have ec := (hcl y c hc').symm.trans z
            cases ec
            obtain ⟨o, ho, hd⟩ := ic
            exact ⟨c, hc', o, k34 _ _ ho, hd⟩
    · obtain ⟨v, o, ho, hd⟩ := I3.cell y c (hcl y c e)
      exact ⟨v, o, k34 _ _ ho, hd⟩
    · show (List.replicate os.length (none : Option V) ++ capd σ (caps.map fun p => p.1)).length = (os ++ caps.map fun p => p.2).length
      rw [List.length_append, List.length_append, List.length_replicate, capS, List.length_map]
  have fpc : ∀ H', (∀ b ∈ fp, H' b = none) → ∀ b ∈ fp, FpOk (cxComp X scope cl (os ++ caps.map (·.2)) C s3 (upd H1 D (.lst [])) fp) [] H' b := fun H' hn b hb =>
    ⟨hn b hb, hfpC b hb, hfps b hb, .inl hb, fun y c e => (f2 b hb).2.2.2.2.1 y c (hcl y c e), fun p hp => absurd hp (by simp)⟩
  have st4 : tn 0 h4 := T.keep _ _ _ (T.keep _ _ _ st2 fun b _ o e => k23 b o e) fun b _ o e => k34 b o e
  have fp0 : ∀ b ∈ fp, (upd H1 D (.lst [])) b = none := fun b hb => by rw [upd_ne (hfpD b hb)]; exact (f2 b hb).1
  have loop : codeAny (model X.prog X.w) X.A (.compLoop (.ListComp elt [⟨tg, iter, [], 0⟩] scope pos) 0 (.ref it) (.ref D) (compEnvC scope cl C X.env)) (compPost (model X.prog X.w) X.A X.xe use R (.ref D) C)
      { s3 with heap := h4, toks := s3.toks + ([] : List (Str × Value)).length } := by
    refine compLoop_listG (fun n s' => ∃ i ys own H', own.length = os.length ∧ Inv (cxComp X scope cl (os ++ caps.map (·.2)) C s3 (upd H1 D (.lst [])) fp) [] (own ++ capd σ (caps.map (·.1))) H' s' ∧ tn i s'.heap ∧ (∀ b ∈ fp, H' b = none) ∧ W i n ys H') ?_ m0 ⟨0, [], List.replicate os.length none, _, List.length_replicate, Ic, st4, fp0, w0⟩
    rintro n s5 ⟨i, ys, own, H5, ho5, I5, st5, fr5, w5⟩
    rcases turn i n ys H5 w5 with ⟨stop, qn⟩ | ⟨go, step⟩
    · refine thn (T.done (cxComp X scope cl (os ++ caps.map (·.2)) C s3 (upd H1 D (.lst [])) fp) rfl rfl rfl hc i [] s5 _ H5 _ I5 (fpc H5 fr5) st5 stop) fun r s6 ⟨hr, I6⟩ => ?_
      subst hr
      obtain ⟨m6, hn6, _⟩ := I6.loc
      have hs' : Heap.SameBut C s6.heap s6.heap := ⟨rfl, fun _ _ => rfl⟩
      generalize eh' : s6.heap = h' at hs'
      have hs' : Heap.SameBut C s6.heap h' := by rw [eh']; exact hs'
      have neC : ∀ b o, s3.heap.get? b = some o → b ≠ C := fun b o e => Nat.ne_of_lt (eC ▸ Heap.lt_size e)
      have ns : ∀ b o, s2.heap.get? b = some o → b ≠ D := fun b o e => Nat.ne_of_lt (eD ▸ Heap.lt_size e)
      have B := I6.base
      have uu : Un (frs X.stack) fp H1 H5 s2.heap h' := by
        refine ⟨fun b o e nn hb hf => ?_, fun b o e nn hb hf => ?_, fun b o e nn hf => ?_, fun b o e hf => ?_, fun b xs e => ?_, fun b o u' e => ?_, fun b ps e => ?_⟩
        · exact (hs'.2 b (neC b o (k23 b o e))).trans (B.keep b o (k23 b o e) (by show (upd H1 D _) b = none; rw [upd_ne (ns b o e)]; exact nn) hb hf)
        · obtain ⟨sl, z⟩ := B.slot b o (k23 b o e) (by show (upd H1 D _) b = none; rw [upd_ne (ns b o e)]; exact nn) hb hf
          exact ⟨sl, (hs'.2 b (neC b o (k23 b o e))).trans z⟩
        · exact B.free b o (k23 b o e) (by show (upd H1 D _) b = none; rw [upd_ne (ns b o e)]; exact nn) hf
        · obtain ⟨o', z⟩ := B.there b o (k23 b o e) hf
          exact ⟨o', (hs'.2 b (neC b o (k23 b o e))).trans z⟩
        · exact B.tups b xs (by show (upd H1 D _) b = _; rw [upd_ne (ne_of_none e hD)]; exact e)
        · exact B.frzs b o u' (by show (upd H1 D _) b = _; rw [upd_ne (ne_of_none e hD)]; exact e)
        · exact B.tbls b ps (by show (upd H1 D _) b = _; rw [upd_ne (ne_of_none e hD)]; exact e)
      have hok' : HOk X.prog X.w H5 h' := fun b o e => by
        refine (I6.hok b o e).stay (fun c' u' hc' z => (hs'.2 c' fun zz => ?_).trans z) (fun _ z => z) fun _ _ z => z
        have fr : H5 C = none := I6.free
        rcases hc' with hc' | hc'
        · rw [← zz, hc', e] at fr; cases fr
        · rw [← zz, hc'] at fr; cases fr
      have ho6 : s6.os = s2.os := I6.os.trans (by show s3.os = s2.os; rw [← e3])
      subst eh'
      have hC2 : s2.heap.objs.size ≤ C := by rw [← eC, hs3, eD]; exact Nat.le_succ D
      exact hfin D C H5 s6 m6 (I2.call' (s' := s6) (ch := fp) ho6 uu hok' I6.bare (fun b hb => ⟨(f2 b hb).2.2.2.1, (f2 b hb).2.1, (f2 b hb).2.2.2.2.1, (f2 b hb).2.2.2.2.2⟩)) hn6 (I2.fpOk hC2 I6.free) qn
    · refine thn (T.item (cxComp X scope cl (os ++ caps.map (·.2)) C s3 (upd H1 D (.lst [])) fp) rfl rfl rfl hc i [] s5 _ H5 _ I5 (fpc H5 fr5) st5 go) fun r s6 ⟨u, hr, h6⟩ => ?_
      subst hr
      refine (thn h6 fun _ s7 ⟨y, H7, I7, r7, y7, st7, fr7⟩ => ?_)
      have I7' := I7.pinned (fpc H7 fr7) (T.obj _ _ st7)
      refine wpAny_mono (hg cl C s3 _ fp _ s7 _ H7 y u _ I7' r7 (step y H7 y7 own ho5)) (fun _ s8 ⟨σ8, H8, I8, ⟨own', ho8, e8⟩, q8⟩ => ?_) fun _ _ z => z.elim
      subst e8
      refine wpAny_mono (he cl C s3 _ fp _ s8 _ H8 _ I8 q8) (fun xv s9 ⟨v9, H9, I9, r9, d9, l9, m9, lt9, w9⟩ => ?_) fun _ _ z => z.elim
      refine wpAny_mono (mt_append (X := (cxComp X scope cl (os ++ caps.map (·.2)) C s3 (upd H1 D (.lst [])) fp)) _ s9 _ H9 (.ref D) [v9] (.ref D) [xv] (fun _ H10 => H10 = upd H9 D (.lst (ys ++ [v9]))) I9 rfl (.cons r9 .nil) ⟨D, ys, v9, rfl, rfl, d9, l9, rfl⟩) (fun _ s10 ⟨_, H10, I10, _, e10⟩ => ?_) fun _ _ z => z.elim
      subst e10
      refine ⟨m9, lt9, i + 1, ys ++ [v9], own', _, ho8, I10.unpinned, T.keep _ _ _ st7 fun b hb o e => (I10.pin (b, o) (List.mem_append_right _ (List.mem_append_right _ (mem_pinsAt hb e)))).1, fun b hb => ?_, w9⟩
      obtain ⟨o, e, _⟩ := T.obj _ _ st7 b hb
      exact (I10.pin (b, o) (List.mem_append_right _ (List.mem_append_right _ (mem_pinsAt hb e)))).2.1
  exact codeAny_compStart_list loop (T.self _ 0 _ _ _ st4 loop)

theorem pe_compG {tg elt iter : Expr} {os : List Str} {pos : Pos} {scope : Scope} {wi : TI} {g : TG} {te : TE} {caps : List (Nat × Str)} (hi : PI X tg iter wi)
    (hg : ∀ cl C s0 H0 fp, PG (cxComp X scope cl (os ++ caps.map (·.2)) C s0 H0 fp) tg g)
    (he : ∀ cl C s0 H0 fp, PE (cxComp X scope cl (os ++ caps.map (·.2)) C s0 H0 fp) elt te)
    (hfree : ∀ y ∈ scope.names, y.2 = .free → X.env.kindOf y.1 = some .cell)
    (hcap : ∀ p ∈ caps, X.N[p.1]? = some p.2 ∧ X.env.kindOf p.2 = some .cell ∧ ((relabel scope X.env).names.lookup p.2 = some .cell ∨ (relabel scope X.env).names.lookup p.2 = some .free))
    (hkind : scope.kind = .function) (hcell : ∀ y ∈ scope.names, y.2 ≠ .cell)
    (hnames : ∀ y ∈ scope.names, y.2 = .local → scope.names.lookup y.1 = some .local) (hc : X.calm = true) (hfs : ∀ v, foldedSetIterable iter X.env v = pure v) :
    PE X (.ListComp elt [⟨tg, iter, [], 0⟩] scope pos) (tCompG os.length wi g te (caps.map (·.1))) := by
  intro pins s σ H Q I h
  rw [eval_ListComp]
  refine comp_core (Q := Q) (use := none) (R := EP X pins σ Q) hi hg he hfree hcap hkind hcell hnames hc hfs (fun D C H5 s6 m6 I6 n6 f6 q6 => ?_) I h
  refine ⟨m6, n6, fun h' hs' => ⟨.ref D, H5, ?_, rfl, q6⟩⟩
  exact I6.turned (t' := s6.toks) (fun b o hb e => (hs'.2 b hb).trans e) f6.1 f6.2.1 f6.2.2.2.1 f6.2.2.2.2.1 f6.2.2.2.2.2
/-- name = a comprehension, the name a plain local: the store comes ahead of the letting go -/
theorem ps_compG {tg elt iter : Expr} {os : List Str} {i : Nat} {y : Str} {py pos spos : Pos} {scope : Scope} {wi : TI} {g : TG} {te : TE} {caps : List (Nat × Str)} (hN : X.N.Nodup) (hy : X.N[i]? = some y) (hl : X.env.kindOf y = some .local) (hi : PI X tg iter wi)
    (hg : ∀ cl C s0 H0 fp, PG (cxComp X scope cl (os ++ caps.map (·.2)) C s0 H0 fp) tg g)
    (he : ∀ cl C s0 H0 fp, PE (cxComp X scope cl (os ++ caps.map (·.2)) C s0 H0 fp) elt te)
    (hfree : ∀ y ∈ scope.names, y.2 = .free → X.env.kindOf y.1 = some .cell)
    (hcap : ∀ p ∈ caps, X.N[p.1]? = some p.2 ∧ X.env.kindOf p.2 = some .cell ∧ ((relabel scope X.env).names.lookup p.2 = some .cell ∨ (relabel scope X.env).names.lookup p.2 = some .free))
    (hkind : scope.kind = .function) (hcell : ∀ y ∈ scope.names, y.2 ≠ .cell)
    (hnames : ∀ y ∈ scope.names, y.2 = .local → scope.names.lookup y.1 = some .local) (hc : X.calm = true) (hfs : ∀ v, foldedSetIterable iter X.env v = pure v)
    (hsw : swapsWith (.ListComp elt [⟨tg, iter, [], 0⟩] scope pos) (some (.Name y py)) spos.line X.env = pure true) :
    PS X (.Assign [.Name y py] (.ListComp elt [⟨tg, iter, [], 0⟩] scope pos) spos) (tAsg (tCompG os.length wi g te (caps.map (·.1))) (gName i)) := by
  intro pins s σ H D I h
  rw [exec_Assign_Name_used _ _ _ _ hsw]
  refine wpAny_bind (wpAny_standAt (wpAny_bind ?_))
  show wpAny _ X.A (do let _ ← comprehension (.ListComp elt [⟨tg, iter, [], 0⟩] scope pos) scope X.env _ (newList []) false (eval iter X.env) (some (assign (.Name y py) X.env))) _ _ s
  refine wpAny_bind (wpAny_mono (comp_core (Q := fun x H1 => gName i x σ H1 D.nx) (use := some (assign (.Name y py) X.env)) (R := fun _ s' => SP X pins D .next s') hi hg he hfree hcap hkind hcell hnames hc hfs (fun D' C H5 s6 m6 I6 n6 f6 q6 => ?_) I h) (fun _ s' hq => wpAny_pure (wpAny_pure hq)) fun _ _ e => e)
  show wpAny _ X.A (assign (.Name y py) X.env (.ref D')) _ _ s6
  obtain ⟨oC, es, ep, hoC, rC⟩ := n6
  have dC : ∀ v, oC.data ≠ .cell v := fun v z => by
    first
      | (rw [rC.2.1] at z; cases z)
      | (obtain ⟨_, hd, _⟩ := rC; rw [hd] at z; cases z)
      | (obtain ⟨hd, _⟩ := rC; rw [hd] at z; cases z)
  have Ip : Inv X (pins ++ [(C, oC)]) σ H5 s6 := I6.pins_of fun p hp => (List.mem_append.mp hp).elim (fun z => I6.pin p (List.mem_append_right _ z)) fun z => by
    have e : p = (C, oC) := by simpa using z
    subst e
    exact ⟨hoC, f6.1, f6.2.1, f6.2.2.1, dC⟩
  refine wpAny_assign_Name (store_ok Ip hN hy (.inl hl) (v := .ref D') rfl (fun s7 I7 => ?_) (.inr hl))
  have h7 := (I7.pin (C, oC) (List.mem_append_right _ (List.mem_append_right _ (by simp)))).1
  refine ⟨m6, ⟨oC, es, ep, h7, rC⟩, fun h' hs' => ⟨_, H5, ?_, q6⟩⟩
  have I8 := I7.unpinned
  exact I8.turned (t' := s7.toks) (fun b o hb e => (hs'.2 b hb).trans e) f6.1 f6.2.1 f6.2.2.2.1 f6.2.2.2.2.1 f6.2.2.2.2.2
end
end Cv

namespace Cv
open PySem PySem.Spec PyProof.Rows L2
/-! ### what a comprehension asks of the scopes, by one reckoning -/
noncomputable def compOk (N : List Str) (sc scope : Scope) (caps : List (Nat × Str)) : Bool :=
  decide (scope.kind = .function) && scope.names.all (fun y => decide (y.2 ≠ .cell) && (!decide (y.2 = .free) || decide (sc.names.lookup y.1 = some .cell)) && (!decide (y.2 = .local) || decide (scope.names.lookup y.1 = some .local))) &&
    caps.all fun p => decide (N[p.1]? = some p.2) && decide (sc.names.lookup p.2 = some .cell) && decide (scope.names.lookup p.2 = some .free)
theorem relabel_free {env : Env} : ∀ {names : List (Str × NameKind)} {y : Str}, names.lookup y = some .free →
    (names.map fun (n, k) => if (k == NameKind.free && env.scope.kind == .function && env.kindOf n == some .cell) then (n, NameKind.cell) else (n, k)).lookup y = some .cell ∨
    (names.map fun (n, k) => if (k == NameKind.free && env.scope.kind == .function && env.kindOf n == some .cell) then (n, NameKind.cell) else (n, k)).lookup y = some .free
  | [], _, h => by simp at h
  | (n, q) :: r, y, h => by
    rw [List.lookup_cons] at h
    rw [List.map_cons]
    by_cases hy : y == n
    · rw [hy] at h
      cases h
      by_cases ht : (NameKind.free == NameKind.free && env.scope.kind == .function && env.kindOf n == some .cell) = true
      · left; simp only [ht]; rw [List.lookup_cons]; simp [eq_of_beq hy]
      · right; simp only [ht]; rw [List.lookup_cons]; simp [eq_of_beq hy]
    · rw [Bool.not_eq_true] at hy
      rw [hy] at h
      have ih := relabel_free (env := env) h
      by_cases ht : (q == NameKind.free && env.scope.kind == .function && env.kindOf n == some .cell) = true
      · simp only [ht]; rw [List.lookup_cons]; simpa [hy] using ih
      · simp only [ht]; rw [List.lookup_cons]; simpa [hy] using ih
section
variable {X : Cx}
theorem pe_compS {tg elt iter : Expr} {os : List Str} {pos : Pos} {scope : Scope} {wi : TI} {g : TG} {te : TE} {caps : List (Nat × Str)} (N : List Str) (sc : Scope) (hi : PI X tg iter wi)
    (hg : ∀ cl C s0 H0 fp, PG (cxComp X scope cl (os ++ caps.map (·.2)) C s0 H0 fp) tg g)
    (he : ∀ cl C s0 H0 fp, PE (cxComp X scope cl (os ++ caps.map (·.2)) C s0 H0 fp) elt te)
    (ok : compOk N sc scope caps = true) (hN : X.N = N := by rfl) (hsc : X.env.scope = sc := by rfl) (hc : X.calm = true := by rfl) (hfs : ∀ v, foldedSetIterable iter X.env v = pure v := by intro _; rfl) :
    PE X (.ListComp elt [⟨tg, iter, [], 0⟩] scope pos) (tCompG os.length wi g te (caps.map (·.1))) := by
  subst hN hsc
  unfold compOk at ok
  simp only [Bool.and_eq_true, List.all_eq_true, decide_eq_true_eq, Bool.or_eq_true, Bool.not_eq_true', decide_eq_false_iff_not] at ok
  obtain ⟨⟨h1, h2⟩, h3⟩ := ok
  refine pe_compG hi hg he (fun y hy hf => ?_) (fun p hp => ?_) h1 (fun y hy => (h2 y hy).1.1) (fun y hy hl => ?_) hc hfs
  · rcases (h2 y hy).1.2 with z | z
    · exact absurd hf z
    · exact z
  · obtain ⟨⟨a, b⟩, c⟩ := h3 p hp
    exact ⟨a, b, relabel_free c⟩
  · rcases (h2 y hy).2 with z | z
    · exact absurd hl z
    · exact z
theorem ps_compS {tg elt iter : Expr} {os : List Str} {i : Nat} {y : Str} {py pos spos : Pos} {scope : Scope} {wi : TI} {g : TG} {te : TE} {caps : List (Nat × Str)} (N : List Str) (sc : Scope) (hNd : X.N.Nodup) (hy : X.N[i]? = some y) (hl : X.env.kindOf y = some .local) (hi : PI X tg iter wi)
    (hg : ∀ cl C s0 H0 fp, PG (cxComp X scope cl (os ++ caps.map (·.2)) C s0 H0 fp) tg g)
    (he : ∀ cl C s0 H0 fp, PE (cxComp X scope cl (os ++ caps.map (·.2)) C s0 H0 fp) elt te)
    (ok : compOk N sc scope caps = true) (hN : X.N = N := by rfl) (hsc : X.env.scope = sc := by rfl) (hc : X.calm = true := by rfl) (hfs : ∀ v, foldedSetIterable iter X.env v = pure v := by intro _; rfl)
    (hsw : swapsWith (.ListComp elt [⟨tg, iter, [], 0⟩] scope pos) (some (.Name y py)) spos.line X.env = pure true := by rfl) :
    PS X (.Assign [.Name y py] (.ListComp elt [⟨tg, iter, [], 0⟩] scope pos) spos) (tAsg (tCompG os.length wi g te (caps.map (·.1))) (gName i)) := by
  subst hN hsc
  unfold compOk at ok
  simp only [Bool.and_eq_true, List.all_eq_true, decide_eq_true_eq, Bool.or_eq_true, Bool.not_eq_true', decide_eq_false_iff_not] at ok
  obtain ⟨⟨h1, h2⟩, h3⟩ := ok
  refine ps_compG hNd hy hl hi hg he (fun y hy hf => ?_) (fun p hp => ?_) h1 (fun y hy => (h2 y hy).1.1) (fun y hy hl => ?_) hc hfs hsw
  · rcases (h2 y hy).1.2 with z | z
    · exact absurd hf z
    · exact z
  · obtain ⟨⟨a, b⟩, c⟩ := h3 p hp
    exact ⟨a, b, relabel_free c⟩
  · rcases (h2 y hy).2 with z | z
    · exact absurd hl z
    · exact z
end
/-! ### tuples never change -/
noncomputable def Tup (H H' : Hp) : Prop := ∀ b xs, H b = some (.tup xs) → H' b = some (.tup xs)
theorem _root_.L2.Same.tup {H H' : Hp} (h : Same H H') : Tup H H' := fun b xs e => h b _ e
theorem Tup.trans {H H1 H2 : Hp} (a : Tup H H1) (b : Tup H1 H2) : Tup H H2 := fun c xs e => b c xs (a c xs e)
theorem Tup.lst {H : Hp} {D : Addr} {ys : List V} {o : HO} (h : H D = some (.lst ys)) : Tup H (upd H D o) := fun b xs e => by
  rw [upd_ne (fun z => by rw [z, h] at e; cases e)]; exact e
theorem ShV.tup {H H' : Hp} {v : V} {q : Rat} (h : ShV H v q) (e : Tup H H') : ShV H' v q := by
  obtain ⟨a, rfl, h⟩ := h
  exact ⟨a, rfl, e _ _ h⟩
/-! ### comprehensions by what their items are -/
/-- an iterator of n items that are known ahead -/
noncomputable def Plain1 (J : It) (H1 : Hp) (n : Nat) (f : Nat → V) : Prop := ∀ H2, Same H1 H2 → ∀ i, (i < n → J.go i H2 ∧ ∀ x H', J.yld i H2 x H' → H' = H2 ∧ x = f i) ∧ (i = n → J.stop i H2)
/-- .. of n pairs (tuples that are new, or known ahead) -/
noncomputable def Plain2 (K : PySem.W.Frag) (J : It) (H1 : Hp) (n : Nat) (f g : Nat → V) : Prop := ∀ H2, Same H1 H2 → ∀ i, (i < n → J.go i H2 ∧ ∀ x H', J.yld i H2 x H' → Same H2 H' ∧ ∃ a, x = .ref a ∧ SqT K H' a [f i, g i]) ∧ (i = n → J.stop i H2)
theorem plain_list {K : PySem.W.Frag} {a : Addr} {xs : List V} {H1 : Hp} (h : SqL K H1 a xs) : Plain1 (Itl K a) H1 xs.length fun i => (xs[i]?).getD .non := fun H2 s i =>
  ⟨fun hi => ⟨⟨xs, xs[i], s.seq h, by simp [hi]⟩, fun x H' y => ⟨y.1, by show x = (xs[i]?).getD .non; rw [y.2 xs (s.seq h)]; rfl⟩⟩, fun e => by subst e; exact ⟨xs, s.seq h, Nat.le_refl _⟩⟩
theorem small_line {n : Nat} (h : n ≤ 100000) : n < sizeLine := Nat.lt_of_le_of_lt h (by rw [sizeLine_eq]; decide)
section
variable {K : PySem.W.Frag} {J : It} {H1 : Hp} {te : TE} {cs : L2.St} {Q : VK} {n : Nat}
theorem comp1 {f : Nat → V} (hJ : Plain1 J H1 n f) (hn : n ≤ 100000) (R : Nat → V → Hp → Prop) (hR : ∀ i v H H', Tup H H' → R i v H → R i v H')
    (he : ∀ i H2 (k : VK), i < n → Same H1 H2 → (∀ v H3, Same H2 H3 → R i v H3 → k v H3) → te (some (f i) :: cs) H2 k)
    (hq : ∀ D ys H2, H1 D = none → Same H1 H2 → H2 D = some (.lst ys) → ys.length = n → (∀ i v, ys[i]? = some v → R i v H2) → Q (.ref D) H2) :
    CompGoal 1 J H1 (gName 0) te cs Q := by
  intro D hD
  refine ⟨fun i m ys H2 => m = n - i ∧ i ≤ n ∧ ys.length = i ∧ Same H1 H2 ∧ H2 D = some (.lst ys) ∧ ∀ j v, ys[j]? = some v → R j v H2, ⟨n, by simp, Nat.zero_le _, rfl, Same.new hD, upd_same, fun j v e => by simp at e⟩, ?_⟩
  rintro i m ys H2 ⟨rfl, hi, hl, s2, d2, r2⟩
  by_cases hlt : i < n
  · refine .inr ⟨((hJ H2 s2 i).1 hlt).1, fun x H' y own ho => ?_⟩
    obtain ⟨rfl, rfl⟩ := ((hJ H2 s2 i).1 hlt).2 x H' y
    cases own with
    | nil => cases ho
    | cons o1 r =>
      cases r with
      | cons _ _ => cases ho
      | nil =>
        refine ⟨⟨[some (f i)], rfl, rfl⟩, he i _ _ hlt s2 fun v H3 s3 r3 => ⟨s3 _ _ d2, small_line (by omega), n - (i + 1), by omega, rfl, hlt, by rw [List.length_append, hl]; rfl, fun b o e => ?_, upd_same, fun j w e => ?_⟩⟩
        · rw [upd_ne (ne_of_none e hD)]; exact s3 _ _ (s2 _ _ e)
        · have t3 : Tup H3 (upd H3 D (.lst (ys ++ [v]))) := Tup.lst (s3 _ _ d2)
          by_cases hj : j < ys.length
          · rw [List.getElem?_append_left hj] at e
            exact hR _ _ _ _ (s3.tup.trans t3) (r2 j w e)
          · rw [List.getElem?_append_right (by omega)] at e
            have hj0 : j - ys.length = 0 := by
              cases q : j - ys.length with
              | zero => rfl
              | succ k => rw [q] at e; simp at e
            rw [hj0] at e
            have e' : v = w := by simpa using e
            have hji : j = i := by omega
            rw [← e', hji]
            exact hR _ _ _ _ t3 r3
  · have e : i = n := by omega
    subst e
    exact .inl ⟨(hJ H2 s2 i).2 rfl, hq D ys H2 hD s2 d2 hl r2⟩
theorem comp2 {f g : Nat → V} (hJ : Plain2 K J H1 n f g) (hn : n ≤ 100000) (R : Nat → V → Hp → Prop) (hR : ∀ i v H H', Tup H H' → R i v H → R i v H')
    (he : ∀ i H2 (k : VK), i < n → Same H1 H2 → (∀ v H3, Same H2 H3 → R i v H3 → k v H3) → te (some (f i) :: some (g i) :: cs) H2 k)
    (hq : ∀ D ys H2, H1 D = none → Same H1 H2 → H2 D = some (.lst ys) → ys.length = n → (∀ i v, ys[i]? = some v → R i v H2) → Q (.ref D) H2) :
    CompGoal 2 J H1 (gTup K 2 (gCons (gName 0) (gCons (gName 1) gNil))) te cs Q := by
  intro D hD
  refine ⟨fun i m ys H2 => m = n - i ∧ i ≤ n ∧ ys.length = i ∧ Same H1 H2 ∧ H2 D = some (.lst ys) ∧ ∀ j v, ys[j]? = some v → R j v H2, ⟨n, by simp, Nat.zero_le _, rfl, Same.new hD, upd_same, fun j v e => by simp at e⟩, ?_⟩
  rintro i m ys H2 ⟨rfl, hi, hl, s2, d2, r2⟩
  by_cases hlt : i < n
  · refine .inr ⟨((hJ H2 s2 i).1 hlt).1, fun x H' y own ho => ?_⟩
    obtain ⟨s2', a, rfl, ht⟩ := ((hJ H2 s2 i).1 hlt).2 x H' y
    cases own with
    | nil => cases ho
    | cons o1 r =>
      cases r with
      | nil => cases ho
      | cons o2 r =>
        cases r with
        | cons _ _ => cases ho
        | nil =>
          refine ⟨a, _, rfl, ht, rfl, _, _, rfl, _, _, rfl, rfl, ⟨[some (f i), some (g i)], rfl, rfl⟩, he i _ _ hlt (s2.trans s2') fun v H3 s3 r3 => ⟨s3 _ _ (s2' _ _ d2), small_line (by omega), n - (i + 1), by omega, rfl, hlt, by rw [List.length_append, hl]; rfl, fun b o e => ?_, upd_same, fun j w e => ?_⟩⟩
          · rw [upd_ne (ne_of_none e hD)]; exact s3 _ _ (s2' _ _ (s2 _ _ e))
          · have t3 : Tup H3 (upd H3 D (.lst (ys ++ [v]))) := Tup.lst (s3 _ _ (s2' _ _ d2))
            by_cases hj : j < ys.length
            · rw [List.getElem?_append_left hj] at e
              exact hR _ _ _ _ ((s2'.trans s3).tup.trans t3) (r2 j w e)
            · rw [List.getElem?_append_right (by omega)] at e
              have hj0 : j - ys.length = 0 := by
                cases q : j - ys.length with
                | zero => rfl
                | succ k => rw [q] at e; simp at e
              rw [hj0] at e
              have e' : v = w := by simpa using e
              have hji : j = i := by omega
              rw [← e', hji]
              exact hR _ _ _ _ t3 r3
  · have e : i = n := by omega
    subst e
    exact .inl ⟨(hJ H2 s2 i).2 rfl, hq D ys H2 hD s2 d2 hl r2⟩
end
/-! ### rules that name K plainly (a comprehension's block hands on no context) -/
section
variable {X : Cx}
theorem ix_listK (K : PySem.W.Frag) (h : X.K = K := by rfl) : IxR X (rIxL K) := by subst h; exact ix_list
theorem ix_tupK (K : PySem.W.Frag) (h : X.K = K := by rfl) : IxR X (rIxT K) := by subst h; exact ix_tup
theorem sl_listK (K : PySem.W.Frag) (h : X.K = K := by rfl) : SlR X (rSlL K) := by subst h; exact sl_list
theorem op_eqDK (K : PySem.W.Frag) (hu : X.A.units + 64 < cLine) (h : X.K = K := by rfl) : OpR X (compareOp .Eq) (rEqD K) := by subst h; exact op_eqD hu
theorem op_neDK (K : PySem.W.Frag) (hu : X.A.units + 64 < cLine) (h : X.K = K := by rfl) : OpR X (compareOp .NotEq) (rNeD K) := by subst h; exact op_neD hu
theorem call_lenK (K : PySem.W.Frag) (h : X.K = K := by rfl) : CallR X (.builtin "len") (fun xs H Q => ∃ p ys, xs = [.ref p] ∧ (SqL K H p ys ∨ SqT K H p ys) ∧ Q (.int ys.length) H) := by subst h; exact call_len_seq
theorem call_isiK (K : PySem.W.Frag) (h : X.K = K := by rfl) : CallR X (.builtin "isinstance") (fun xs H Q => ∃ x T t b, xs = [x, .ty T] ∧ TyOf K H x t ∧ PySem.W.kitOne K t (.type T) = some b ∧ Q (.bl b) H) := by subst h; exact call_isi
theorem pg_tupK (K : PySem.W.Frag) {es : List Expr} {k : Nat} {t : TGs} {n : Nat} {pos : Pos} (hc : X.calm = true) (h : PGs X es t) (hK : X.K = K := by rfl)
    (hn : (assignEach es X.env).length = n := by rfl) (hst : (assignEach es X.env).findIdx? (·.1) = none := by rfl) : PG X (.Tuple es k pos) (gTup K n t) := by subst hK; exact pg_tup hc h hn hst
end
end Cv

namespace Cv
open PySem PySem.Spec PyProof.Rows L2
/-! ### reversed of a list, walked -/
section
variable {X : Cx} {tg : Expr}
end
end Cv

namespace Cv
open PySem PySem.Spec PyProof.Rows L2
section
variable {prog : Program} {w : World} {A : Around} {E : Value → Shared → Prop} {s : Shared}
end
section
variable {X : Cx}
end
end Cv

namespace Cv
open PySem PySem.Spec PyProof.Rows L2
section
variable {X : Cx} {pins : List (Addr × Obj)} {σ : L2.St} {H : Hp} {s : Shared} {h' : Heap}
/-- untracked records of ours have turned, a new object is laid and tracked -/
theorem turnedLay {t' : Nat} {ch : List Addr} {a : Addr} {o : HO} (I : Inv X pins σ H s) (hf : ∀ b ∈ ch, FpOk X pins H b) (k : ∀ b o, b ∉ ch → s.heap.get? b = some o → h'.get? b = some o)
    (ha : s.heap.objs.size ≤ a) (new : ObjOk X.prog X.w (upd H a o) h' a o) : Inv X pins σ (upd H a o) { s with heap := h', toks := t' } := by
  have hna : H a = none := I.hok.fresh ha
  have nit : ∀ b u, H b = some u → b ∉ ch := fun b u e z => by rw [(hf b z).1] at e; cases e
  have up : ∀ b u, H b = some u → upd H a o b = some u := fun b u e => by rw [upd_ne (ne_of_none e hna)]; exact e
  refine I.step (g' := s.gens) (d' := s.drawn) (ch := ch) (fun b hb => ⟨(hf b hb).2.2.2.1, (hf b hb).2.1, (hf b hb).2.2.2.2.1, (hf b hb).2.2.2.2.2⟩) (fun b o _ _ hc e _ => k b o hc e) (fun b o _ _ hc e _ => ⟨o.slots, k b o hc e⟩) (fun b o _ e n => ?_)
    (fun b o hc e => ⟨o, k b o hc e⟩) (fun _ _ e => up _ _ e) (fun _ _ _ e => up _ _ e) (fun b ps e => ⟨#[], by rw [up _ _ e]; simp⟩) (fun m hm => ?_) (fun b u e => ?_) I.bare
  · rw [upd_ne (fun z => by rw [z] at e; exact absurd (Heap.lt_size e) (Nat.not_lt.mpr ha))]; exact n
  · obtain ⟨o, es, ep, ho, r⟩ := hm
    exact ⟨o, es, ep, k _ o (fun z => (hf _ z).2.1 rfl) ho, r⟩
  · by_cases hb : b = a
    · subst hb
      rw [upd_same] at e
      cases e
      exact new
    · rw [upd_ne hb] at e
      refine (I.hok b u e).stay (fun c v hc q => k c v ?_ q) (fun _ q => up _ _ q) fun _ _ q => up _ _ q
      rcases hc with z | z
      · rw [z]; exact nit b u e
      · exact nit c _ z
theorem turnedL {t' : Nat} {ch : List Addr} (I : Inv X pins σ H s) (hf : ∀ b ∈ ch, FpOk X pins H b) (k : ∀ b o, b ∉ ch → s.heap.get? b = some o → h'.get? b = some o) : Inv X pins σ H { s with heap := h', toks := t' } := by
  have nit : ∀ b u, H b = some u → b ∉ ch := fun b u e z => by rw [(hf b z).1] at e; cases e
  refine I.step (g' := s.gens) (d' := s.drawn) (ch := ch) (fun b hb => ⟨(hf b hb).2.2.2.1, (hf b hb).2.1, (hf b hb).2.2.2.2.1, (hf b hb).2.2.2.2.2⟩) (fun b o _ _ hc e _ => k b o hc e) (fun b o _ _ hc e _ => ⟨o.slots, k b o hc e⟩) (fun _ _ _ _ n => n)
    (fun b o hc e => ⟨o, k b o hc e⟩) (fun _ _ e => e) (fun _ _ _ e => e) (fun b ps e => ⟨#[], by rw [e]; simp⟩) (fun m hm => ?_) (fun b u e => ?_) I.bare
  · obtain ⟨o, es, ep, ho, r⟩ := hm
    exact ⟨o, es, ep, k _ o (fun z => (hf _ z).2.1 rfl) ho, r⟩
  · refine (I.hok b u e).stay (fun c v hc q => k c v ?_ q) (fun _ q => q) fun _ _ q => q
    rcases hc with z | z
    · rw [z]; exact nit b u e
    · exact nit c _ z
end
/-! ### zip of two lists, walked by pairs of names -/
noncomputable def Itz (K : PySem.W.Frag) (l1 l2 : Addr) : It :=
  ⟨fun i H => ∃ xs ys x y, SqL K H l1 xs ∧ SqL K H l2 ys ∧ xs[i]? = some x ∧ ys[i]? = some y,
   fun i H v H' => ∃ T a b, v = .ref T ∧ H T = none ∧ H' = upd H T (.tup [a, b]) ∧ (∀ xs, SqL K H l1 xs → xs[i]? = some a) ∧ ∀ ys, SqL K H l2 ys → ys[i]? = some b,
   fun i H => ∃ xs ys, SqL K H l1 xs ∧ SqL K H l2 ys ∧ (xs[i]? = none ∨ ys[i]? = none)⟩
theorem turn_zip {P : Program} {w : World} {K : PySem.W.Frag} {elts : List Expr} {k0 : Nat} {pos : Pos} {z TI TO i1 i2 l1 l2 : Addr} (D : ZipApart z TI TO i1 i2 l1 l2) : Turn P w K (.Tuple elts k0 pos) (Itz K l1 l2) [z, TI, TO, i1, i2] z
    (fun i h => IsZip h z TI TO .none ∧ IsPair h TI (.ref i1) (.ref i2) ∧ (∃ a b, IsPair h TO a b) ∧ h.IsListIter i1 l1 i ∧ h.IsListIter i2 l2 i) where
  mem := by simp
  obj := fun i h st b hb => by
    obtain ⟨hz, hTI, ⟨a, b', hTO⟩, ⟨o1, e1, c1, d1⟩, ⟨o2, e2, c2, d2⟩⟩ := st
    simp only [List.mem_cons, List.not_mem_nil, or_false] at hb
    rcases hb with rfl | rfl | rfl | rfl | rfl
    · exact ⟨_, hz, fun v q => by have q' : Data.fields _ = Data.cell v := q; cases q'⟩
    · exact ⟨_, hTI, fun v q => by have q' : Data.seq _ _ = Data.cell v := q; cases q'⟩
    · exact ⟨_, hTO, fun v q => by have q' : Data.seq _ _ = Data.cell v := q; cases q'⟩
    · exact ⟨_, e1, fun v q => by rw [d1] at q; cases q⟩
    · exact ⟨_, e2, fun v q => by rw [d2] at q; cases q⟩
  keep := fun i h h' st k => by
    obtain ⟨hz, hTI, ⟨a, b, hTO⟩, h1, h2⟩ := st
    exact ⟨k z (by simp) _ hz, k TI (by simp) _ hTI, ⟨a, b, k TO (by simp) _ hTO⟩, h1.at fun o e => k i1 (by simp) o e, h2.at fun o e => k i2 (by simp) o e⟩
  item := by
    intro X hP hw hK hc i pins s σ H E I hf st hg
    subst hP hw hK
    obtain ⟨xs, ys, x, y, hq1, hq2, hx, hy⟩ := hg
    obtain ⟨hz, hTI, ⟨a, b, hTO⟩, h1, h2⟩ := st
    obtain ⟨its1, rv1, p1, hz1⟩ := I.list hq1
    obtain ⟨its2, rv2, p2, hz2⟩ := I.list hq2
    obtain ⟨u1, hu1, ru1⟩ := rv1.get hx
    obtain ⟨u2, hu2, ru2⟩ := rv2.get hy
    refine wpAny_pyNext_zip_item D hz hTI hTO h1 h2 p1.isList p2.isList (x := u1) (y := u2) (by simpa using hu1) (by simpa using hu2) fun h' a1 a2 a3 a4 a5 a6 a7 => ?_
    refine ⟨_, rfl, wpAny_letOwnedTupleGo_zip a1 fun h'' b1 b2 => ?_⟩
    have hT : H s.heap.objs.size = none := I.hok.fresh (Nat.le_refl _)
    have neT : ∀ {c o}, s.heap.get? c = some o → c ≠ s.heap.objs.size := fun e => Nat.ne_of_lt (Heap.lt_size e)
    have kk : ∀ b o, b ∉ [z, TI, TO, i1, i2] → s.heap.get? b = some o → h''.get? b = some o := fun b o hb e => by
      simp only [List.mem_cons, List.not_mem_nil, or_false, not_or] at hb
      exact b2.extBut b o hb.1 (a7 b o hb.1 hb.2.2.1 hb.2.2.2.1 hb.2.2.2.2 e)
    have tT : h''.get? s.heap.objs.size = some { cls := .type "tuple", data := .seq #[u1, u2] } := b2.extBut _ _ (Ne.symm (neT hz)) a5
    have I1 := turnedLay (t' := s.toks) (a := s.heap.objs.size) (o := .tup [x, y]) (h' := h'') I hf kk (Nat.le_refl _) ⟨by show 2 ≤ sizeLine; decide, [u1, u2], .cons ru1 (.cons ru2 .nil), ⟨_, tT, rfl, _, rfl⟩⟩
    refine ⟨.ref s.heap.objs.size, _, I1, rfl, ⟨s.heap.objs.size, x, y, rfl, hT, rfl, fun xs' hx' => by rw [I.list_inj hx' hq1]; exact hx, fun ys' hy' => by rw [I.list_inj hy' hq2]; exact hy⟩, ?_, fun c hc => ?_⟩
    · exact ⟨b1, b2.extBut _ _ D.TIz (a7 _ _ D.TIz D.TITO D.TIi1 D.TIi2 hTI), ⟨_, _, b2.extBut _ _ D.TOz a2⟩, a3.extBut b2.extBut D.i1z, a4.extBut b2.extBut D.i2z⟩
    · have e0 := (hf c hc).1
      rw [upd_ne ?_]
      · exact e0
      · intro q
        obtain ⟨o1, e1, _⟩ := h1
        obtain ⟨o2, e2, _⟩ := h2
        simp only [List.mem_cons, List.not_mem_nil, or_false] at hc
        rcases hc with rfl | rfl | rfl | rfl | rfl
        · exact neT hz q
        · exact neT hTI q
        · exact neT hTO q
        · exact neT e1 q
        · exact neT e2 q
  done := by
    intro X hP hw hK hc i pins s σ H E I hf st hg
    subst hP hw hK
    obtain ⟨xs, ys, hq1, hq2, hend⟩ := hg
    obtain ⟨hz, hTI, ⟨a, b, hTO⟩, h1, h2⟩ := st
    obtain ⟨its1, rv1, p1, hz1⟩ := I.list hq1
    obtain ⟨its2, rv2, p2, hz2⟩ := I.list hq2
    refine wpAny_pyNext_zip_end (I.ok.hd hc) D hz hTI hTO h1 h2 p1.isList p2.isList (hend.imp (fun e => by simpa using rv1.none_of e) fun e => by simpa using rv2.none_of e) fun h' kk => ⟨rfl, turnedL (t' := s.toks) I hf fun b o hb e => ?_⟩
    simp only [List.mem_cons, List.not_mem_nil, or_false, not_or] at hb
    exact kk b o hb.1 hb.2.2.1 hb.2.2.2.1 hb.2.2.2.2 e
  self := fun _ _ _ _ _ st h => wpAny_pyIter_zip st.1 h
section
variable {X : Cx}
noncomputable def iZip (K : PySem.W.Frag) (ta : TA) : TI := fun σ H R => ta σ H fun vs H1 => ∃ l1 l2, vs = [.ref l1, .ref l2] ∧ (∃ xs, SqL K H1 l1 xs) ∧ (∃ ys, SqL K H1 l2 ys) ∧ R (Itz K l1 l2) H1
theorem pi_zip {a b : Expr} {ta : TA} {p pos ppos : Pos} {elts : List Expr} {k0 : Nat} (hg : Gl X "zip") (hm : X.mg "zip" = none) (ha : PA X [a, b] ta) (he : starEach [a, b] X.env = (false, eval a X.env) :: starEach [b] X.env := by rfl)
    (hpl : (backTo pos (starEach [b] X.env)).any (·.1) = false := by rfl) : PI X (.Tuple elts k0 ppos) (.Call (.Name "zip" p) [a, b] [] pos) (iZip X.K ta) := by
  intro pins s σ H R I h
  refine wpAny_Call_Name_kw (ld_blt I hg hm boot_zip ?_ (by decide) (by decide))
  refine PyProof.Rows.callWith_type1 (thn (ha pos pins s σ H _ I h) fun us s1 ⟨vs, H1, I1, r1, q1⟩ => ?_) he hpl
  obtain ⟨l1, l2, rfl, ⟨xs, hq1⟩, ⟨ys, hq2⟩, q⟩ := q1
  obtain ⟨u1, u2, rfl, e1, e2⟩ := vals_two r1
  cases e1; cases e2
  obtain ⟨its1, rv1, p1, hz1⟩ := I1.list hq1
  obtain ⟨its2, rv2, p2, hz2⟩ := I1.list hq2
  have a1 : l1 < s1.heap.objs.size := by obtain ⟨_, e, _⟩ := p1.isList; exact Heap.lt_size e
  have a2 : l2 < s1.heap.objs.size := by obtain ⟨_, e, _⟩ := p2.isList; exact Heap.lt_size e
  refine call_zip_2 p1.isList p2.isList fun h' hz hTI hTO hi1 hi2 _ hk => ?_
  refine wpAny_pyIter_zip hz ?_
  refine ⟨_, [s1.heap.objs.size + 4, s1.heap.objs.size + 2, s1.heap.objs.size + 3, s1.heap.objs.size, s1.heap.objs.size + 1], _, _, H1, rfl, I1.kept (t' := s1.toks) hk, turn_zip (zipApart_new a1 a2), ⟨hz, hTI, ⟨_, _, hTO⟩, hi1, hi2⟩, fun c hc => ?_, q⟩
  have hge : s1.heap.objs.size ≤ c := by
    simp only [List.mem_cons, List.not_mem_nil, or_false] at hc
    rcases hc with rfl | rfl | rfl | rfl | rfl <;> omega
  exact I1.fpOk hge (I1.hok.fresh hge)
theorem plain_zip {K : PySem.W.Frag} {l1 l2 : Addr} {xs ys : List V} {H1 : Hp} (h1 : SqL K H1 l1 xs) (h2 : SqL K H1 l2 ys) : Plain2 K (Itz K l1 l2) H1 (min xs.length ys.length) (fun i => (xs[i]?).getD .non) (fun i => (ys[i]?).getD .non) := fun H2 s i => by
  refine ⟨fun hi => ⟨⟨xs, ys, xs[i]'(by omega), ys[i]'(by omega), s.seq h1, s.seq h2, by simp [show i < xs.length by omega], by simp [show i < ys.length by omega]⟩, fun x H' y => ?_⟩, fun e => ⟨xs, ys, s.seq h1, s.seq h2, ?_⟩⟩
  · obtain ⟨T, a, b, rfl, hT, rfl, e1, e2⟩ := y
    refine ⟨Same.new hT, T, rfl, ?_⟩
    show SqT K _ T [(xs[i]?).getD .non, (ys[i]?).getD .non]
    rw [e1 xs (s.seq h1), e2 ys (s.seq h2)]
    exact SqT.of upd_same
  · rcases Nat.le_total xs.length ys.length with h | h
    · exact .inl (List.getElem?_eq_none (by omega))
    · exact .inr (List.getElem?_eq_none (by omega))
/-! ### all, any of a list of truths -/
theorem all_range (bs : List Bool) : (List.range bs.length).all (fun i => (bs[i]?).getD false) = bs.all id := by
  rw [Bool.eq_iff_iff, List.all_eq_true, List.all_eq_true]
  constructor
  · intro h b hb
    obtain ⟨i, hi, rfl⟩ := List.getElem_of_mem hb
    have := h i (List.mem_range.mpr hi)
    simpa [hi] using this
  · intro h i hi
    have hi' := List.mem_range.mp hi
    have := h bs[i] (List.getElem_mem hi')
    simpa [hi'] using this
theorem rel_bools {bs : List Bool} {us : List Value} (r : Vals (bs.map V.bl) us) : us = bs.map Value.bool := by
  induction bs generalizing us with
  | nil => cases r; rfl
  | cons b r' ih =>
    cases r with
    | cons p q => rw [List.map_cons, ← ih q]; cases p; rfl
theorem call_allB (hc : X.calm = true) : CallR X (.builtin "all") (fun xs H Q => ∃ (p : Addr) (bs : List Bool), xs = [.ref p] ∧ SqL X.K H p (bs.map V.bl) ∧ Q (.bl (bs.all id)) H) := by
  intro pins s σ H xs us Q I r h
  obtain ⟨p, bs, rfl, hq, q⟩ := h
  obtain ⟨u, rfl, ru⟩ := vals_one r
  cases ru
  obtain ⟨its, rv, pl, hz⟩ := I.list hq
  have e := rel_bools rv
  subst e
  have a1 : p < s.heap.objs.size := by obtain ⟨_, e, _⟩ := pl.isList; exact Heap.lt_size e
  have hne : p ≠ s.heap.objs.size := Nat.ne_of_lt a1
  refine call_all_walk (wpAny_pyIter_list pl.isList ⟨_, _, _, _, _, _, fun i => (bs[i]?).getD false, rfl, Walks.list (A := X.A.in1) (show X.A.in1.handled = none from I.ok.hd hc) _ p hne _, ⟨⟨_, Heap.get?_push_size _ rfl, rfl, rfl⟩, Heap.IsList.push pl.isList _⟩, fun i v s' Q' E' hv hQ => ?_, fun h' tk hk => ?_⟩)
  · have hv' : (bs.map Value.bool)[i]? = some v := by simpa using hv
    have hQ : Q' ((bs[i]?).getD false) s' := hQ
    rw [List.getElem?_map] at hv'
    cases eb : bs[i]? with
    | none => rw [eb] at hv'; cases hv'
    | some b =>
      rw [eb] at hv' hQ
      cases hv'
      exact wpAny_truthy_bool hQ
  · have ea : (List.range (bs.map Value.bool).toArray.size).all (fun i => (bs[i]?).getD false) = bs.all id := by
      rw [← all_range bs]; simp
    rw [ea]
    exact ⟨.bl _, H, I.kept (h' := h') (t' := tk) (fun b o eb => hk b o (by
      intro hm
      have : b = s.heap.objs.size := by simpa using hm
      rw [this] at eb
      exact absurd (Heap.lt_size eb) (Nat.lt_irrefl _)) (Heap.get?_push_of_some _ eb)), rfl, q⟩
end
end Cv

namespace Cv
open PySem PySem.Spec PyProof.Rows L2
section
set_option autoImplicit true
@[irreducible] noncomputable def PEi (X : Cx) (e : Expr) (t : TE) : Prop := PE X e t
@[irreducible] noncomputable def PAi (X : Cx) (e : List Expr) (t : TA) : Prop := PA X e t
@[irreducible] noncomputable def PTi (X : Cx) (e : Expr) (t : TT) : Prop := PT X e t
@[irreducible] noncomputable def PWi (X : Cx) (e : Expr) (t : TT) : Prop := PW X e t
@[irreducible] noncomputable def PSi (X : Cx) (e : Stmt) (t : TS) : Prop := PS X e t
@[irreducible] noncomputable def PSsi (X : Cx) (e : List Stmt) (t : TS) : Prop := PSs X e t
@[irreducible] noncomputable def PGi (X : Cx) (e : Expr) (t : TG) : Prop := PG X e t
@[irreducible] noncomputable def PGsi (X : Cx) (e : List Expr) (t : TGs) : Prop := PGs X e t
@[irreducible] noncomputable def PIi (X : Cx) (tg e : Expr) (t : TI) : Prop := PI X tg e t
@[irreducible] noncomputable def POi (X : Cx) (e : Option Expr) (t : TO) : Prop := PO X e t
theorem pvI  (i : Nat) {x : Str} {pos : Pos} (hN : X.N[i]? = some x := by rfl) (hv : Vis X.env.scope x := by first | exact Or.inl rfl | exact Or.inr (Or.inl rfl) | exact Or.inr (Or.inr rfl)) (hd : (x == ("__debug__" : Str)) = false := by decide) (hcd : (x == ("__classdict__" : Str)) = false := by decide) : PEi X (.Name x pos) (tVar i) := by with_unfolding_all exact pv (i := i) (hN := hN) (hv := hv) (hd := hd) (hcd := hcd)
theorem pe_intI  {i j pos} : PEi X (.Constant (.int i) j pos) (tC (.int i)) := by with_unfolding_all exact pe_int 
theorem pe_blI  {b j pos} : PEi X (.Constant (.bool b) j pos) (tC (.bl b)) := by with_unfolding_all exact pe_bl 
theorem pe_nonI  {j pos} : PEi X (.Constant .none j pos) (tC .non) := by with_unfolding_all exact pe_non 
theorem pe_strI  {x j pos} : PEi X (.Constant (.str x) j pos) (tC (.str x)) := by with_unfolding_all exact pe_str 
theorem pe_globI  {x : Str} {v : V} {u : Value} {pos : Pos} (hg : Gl X x) (hm : X.mg x = some u) (r : RelV v u) (hd : (x == ("__debug__" : Str)) = false := by decide) : PEi X (.Name x pos) (tC v) := by with_unfolding_all exact pe_glob (hg := hg) (hm := hm) (r := r) (hd := hd)
theorem pe_bltnI  {x : Str} {v : V} {u : Value} {pos : Pos} (hg : Gl X x) (hm : X.mg x = none) (hv : bootBuiltins x = some u) (r : RelV v u) (hn : x ≠ "__name__" := by decide) (hd : (x == ("__debug__" : Str)) = false := by decide) : PEi X (.Name x pos) (tC v) := by with_unfolding_all exact pe_bltn (hg := hg) (hm := hm) (hv := hv) (r := r) (hn := hn) (hd := hd)
theorem pe_opI  {op : Operator} {r : R2} (ho : OpR X (binaryOp op) r) (ha : PEi X a ta) (hb : PEi X b tb) : PEi X (.BinOp a op b pos) (tOp r ta tb) := by with_unfolding_all exact pe_op (ho := ho) (ha := ha) (hb := hb)
theorem pe_unI  {op : UnaryOp} {r : V → Hp → VK → Prop} (ho : UnR X (unaryOp op) r) (ha : PEi X a ta) : PEi X (.UnaryOp op a pos) (tUn r ta) := by with_unfolding_all exact pe_un (ho := ho) (ha := ha)
theorem pe_cmpRI  {op : CmpOp} {r : R2} (ho : OpR X (compareOp op) r) (ha : PEi X a ta) (hb : PEi X b tb) (hm : behindInMarks op b = false) : PEi X (.Compare a [op] [b] pos) (tOp r ta tb) := by with_unfolding_all exact pe_cmpR (ho := ho) (ha := ha) (hb := hb) (hm := hm)
theorem pe_andI {rest : List Expr} (ha : PEi X a ta) (hb : PEi X (.BoolOp .And (b :: rest) pos) tb) : PEi X (.BoolOp .And (a :: b :: rest) pos) (tAndV ta tb) := by with_unfolding_all exact pe_and (ha := ha) (hb := hb)
theorem pe_oneI  {op} {t : TE} (h : PEi X a t) : PEi X (.BoolOp op [a] pos) t := by with_unfolding_all exact pe_one (h := h)
theorem pe_notI  (ha : PEi X a ta) : PEi X (.UnaryOp .Not a pos) (tNotV ta) := by with_unfolding_all exact pe_not (ha := ha)
theorem pe_fnI  (D : DefOk X.prog X.w X.K X.mg X.base CX k x ps sp) (hr : Room j X.A) (hx : Passes CX X E) (ha : PAi X (e :: es) t) (hk : k ≤ j := by decide) (hg : Gl X x := by rfl) (hdb : (x == ("__debug__" : Str)) = false := by decide) (he : starEach (e :: es) X.env = (false, eval e X.env) :: starEach es X.env := by rfl) (hpl : (backTo pos (starEach es X.env)).any (·.1) = false := by rfl) : PEi X (.Call (.Name x p) (e :: es) [] pos) (tFn sp E t) := by with_unfolding_all exact pe_fn (D := D) (hr := hr) (hx := hx) (ha := ha) (hk := hk) (hg := hg) (hdb := hdb) (he := he) (hpl := hpl)
theorem pe_callBI {id : String} (hc : CallR X (.builtin id) r) (hg : Gl X x) (hm : X.mg x = none) (hv : bootBuiltins x = some (.builtin id)) (ha : PAi X (e :: es) t) (hn : x ≠ "__name__" := by decide) (hdb : (x == ("__debug__" : Str)) = false := by decide) (he : starEach (e :: es) X.env = (false, eval e X.env) :: starEach es X.env := by rfl) (hpl : (backTo pos (starEach es X.env)).any (·.1) = false := by rfl) : PEi X (.Call (.Name x p) (e :: es) [] pos) (tCB r t) := by with_unfolding_all exact pe_callB (hc := hc) (hg := hg) (hm := hm) (hv := hv) (ha := ha) (hn := hn) (hdb := hdb) (he := he) (hpl := hpl)
theorem pe_callTyI  (hc : CallR X (.type T) r) (hg : Gl X x) (hm : X.mg x = none) (hv : bootBuiltins x = some (.type T)) (ha : PAi X (e :: es) t) (hn : x ≠ "__name__" := by decide) (hdb : (x == ("__debug__" : Str)) = false := by decide) (he : starEach (e :: es) X.env = (false, eval e X.env) :: starEach es X.env := by rfl) (hpl : (backTo pos (starEach es X.env)).any (·.1) = false := by rfl) : PEi X (.Call (.Name x p) (e :: es) [] pos) (tCB r t) := by with_unfolding_all exact pe_callTy (hc := hc) (hg := hg) (hm := hm) (hv := hv) (ha := ha) (hn := hn) (hdb := hdb) (he := he) (hpl := hpl)
theorem pe_bmI {id : String} (pa : PlainAttrs T) (slot : Slot T name id) (hty : typeOf (.builtin id) = pure (.type "method_descriptor")) (hm : MtR X id r) (ho : PEi X o to) (ha : PAi X (e :: es) t) (hbase : attributeBase o name X.env (eval o X.env) = eval o X.env := by rfl) (hfew : ((backTo cpos (starEach (e :: es) X.env)).all (fun x => !x.1) && (backToKw cpos (keywordEach [] X.env)).all (fun x => x.1.isSome)
      && decide ((e :: es).length + ([] : List Keyword).length + (if ([] : List Keyword).isEmpty then 0 else 1) < 30)) = true := by rfl) (hline : (apos.endLine == cpos.line) = true := by rfl) (hs : starEach (e :: es) X.env = (false, eval e X.env) :: starEach es X.env := by rfl) (hplain : (backTo cpos (starEach es X.env)).any (·.1) = false := by rfl) : PEi X (.Call (.Attribute o name apos) (e :: es) [] cpos) (tBM X.K T r to t) := by with_unfolding_all exact pe_bm (pa := pa) (slot := slot) (hty := hty) (hm := hm) (ho := ho) (ha := ha) (hbase := hbase) (hfew := hfew) (hline := hline) (hs := hs) (hplain := hplain)
theorem pe_ixI  {r : R2} (hr : IxR X r) (ha : PEi X a ta) (hb : PEi X b tb) (hs : PlainIx b) : PEi X (.Subscript a b pos) (tOp r ta tb) := by with_unfolding_all exact pe_ix (hr := hr) (ha := ha) (hb := hb) (hs := hs)
theorem pe_sliceI {lo hi : Option Expr} {r : V → Option Int → Option Int → Hp → VK → Prop} (hr : SlR X r) (he : PEi X e te) (hl : POi X lo tl) (hu : POi X hi th) : PEi X (.Subscript e (.Slice lo hi none p2) pos) (tSl r te tl th) := by with_unfolding_all exact pe_slice (hr := hr) (he := he) (hl := hl) (hu := hu)
theorem pe_tupI  {x1} (h : PAi X es t) : PEi X (.Tuple es x1 pos) (tTup t) := by with_unfolding_all exact pe_tup (h := h)
theorem pe_lstI  (h : PAi X es t) : PEi X (.List es pos) (tLst t) := by with_unfolding_all exact pe_lst (h := h)
theorem pe_compSI  {tg elt iter : Expr} {os : List Str} {pos : Pos} {scope : Scope} {wi : TI} {g : TG} {te : TE} {caps : List (Nat × Str)} (N : List Str) (sc : Scope) (hi : PIi X tg iter wi) (hg : ∀ cl C s0 H0 fp, PGi (cxComp X scope cl (os ++ caps.map (·.2)) C s0 H0 fp) tg g) (he : ∀ cl C s0 H0 fp, PEi (cxComp X scope cl (os ++ caps.map (·.2)) C s0 H0 fp) elt te) (ok : compOk N sc scope caps = true) (hN : X.N = N := by rfl) (hsc : X.env.scope = sc := by rfl) (hc : X.calm = true := by rfl) (hfs : ∀ v, foldedSetIterable iter X.env v = pure v := by intro _; rfl) : PEi X (.ListComp elt [⟨tg, iter, [], 0⟩] scope pos) (tCompG os.length wi g te (caps.map (·.1))) := by with_unfolding_all exact pe_compS (N := N) (sc := sc) (hi := hi) (hg := hg) (he := he) (ok := ok) (hN := hN) (hsc := hsc) (hc := hc) (hfs := hfs)
theorem pa_nilI   : PAi X [] tNil := by with_unfolding_all exact pa_nil 
theorem pa_consI  (ha : PEi X e te) (hr : PAi X es t) (hs : starEach (e :: es) X.env = (false, eval e X.env) :: starEach es X.env := by rfl) : PAi X (e :: es) (tCons te t) := by with_unfolding_all exact pa_cons (ha := ha) (hr := hr) (hs := hs)
theorem pt_cmpRI  {op : CmpOp} {r : R2} (ho : OpR X (compareOp op) r) (ha : PEi X a ta) (hb : PEi X b tb) (hm : behindInMarks op b = false) : PTi X (.Compare a [op] [b] pos) (tTest (tOp r ta tb)) := by with_unfolding_all exact pt_cmpR (ho := ho) (ha := ha) (hb := hb) (hm := hm)
theorem pt_chainI  {op op' : CmpOp} {r r' : R2} (ho : OpR X (compareOp op) r) (ho' : OpR X (compareOp op') r') (ha : PEi X a ta) (hb : PEi X b tb) (hc : PEi X c tc) (hm : lastMarks [op, op'] [b, c] = false := by with_unfolding_all rfl) : PTi X (.Compare a [op, op'] [b, c] pos) (tTest (tChain r r' ta tb tc)) := by with_unfolding_all exact pt_chain (ho := ho) (ho' := ho') (ha := ha) (hb := hb) (hc := hc) (hm := hm)
theorem pt_notI  (ha : PTi X a tA) : PTi X (.UnaryOp .Not a pos) (tNot tA) := by with_unfolding_all exact pt_not (ha := ha)
theorem pt_valI  {e : Expr} {t : TE} (h : PEi X e t) (he : ∀ whole, isTrue e X.env whole = (do let v ← whole; standAt e.pos; holding [v] (truthy v)) := by intro _; rfl) : PTi X e (tB t) := by with_unfolding_all exact pt_val (h := h) (he := he)
theorem PW_ptI  {X : Cx} {e : Expr} {t : TT} (h : PWi X e t) : PTi X e t := by with_unfolding_all exact L2.PW.pt (h := h)
theorem pw_and1I  (ha : PTi X a tA) : PWi X (.BoolOp .And [a] pos) tA := by with_unfolding_all exact pw_and1 (ha := ha)
theorem pw_or1I  (ha : PTi X a tA) : PWi X (.BoolOp .Or [a] pos) tA := by with_unfolding_all exact pw_or1 (ha := ha)
theorem pw_andI {rest : List Expr} (ha : PTi X a tA) (hb : PWi X (.BoolOp .And (b :: rest) pos) tB') : PWi X (.BoolOp .And (a :: b :: rest) pos) (tAnd tA tB') := by with_unfolding_all exact pw_and (ha := ha) (hb := hb)
theorem pw_orI {rest : List Expr} (ha : PTi X a tA) (hb : PWi X (.BoolOp .Or (b :: rest) pos) tB') : PWi X (.BoolOp .Or (a :: b :: rest) pos) (tOr tA tB') := by with_unfolding_all exact pw_or (ha := ha) (hb := hb)
theorem pss_nilI   : PSsi X [] tNext := by with_unfolding_all exact pss_nil 
theorem pss_consI {st : Stmt} {rest : List Stmt} (h1 : PSi X st t) (h2 : PSsi X rest u) : PSsi X (st :: rest) (tSeq t u) := by with_unfolding_all exact pss_cons (h1 := h1) (h2 := h2)
theorem pss_oneI {st : Stmt} (h1 : PSi X st t) : PSsi X [st] t := by with_unfolding_all exact pss_one (h1 := h1)
theorem ps_exprI  (he : PEi X e te) (hs : swapsWith e none pos.line X.env = pure false := by rfl) : PSi X (.Expr e pos) (tDrop te) := by with_unfolding_all exact ps_expr (he := he) (hs := hs)
theorem ps_retI  (he : PEi X e te) : PSi X (.Return (some e) pos) (tRet te) := by with_unfolding_all exact ps_ret (he := he)
theorem ps_ifI  {c : Expr} {a b : List Stmt} {tc : TT} (hc : PTi X c tc) (ha : PSsi X a t) (hb : PSsi X b u) : PSi X (.If c a b pos) (tIfS tc t u) := by with_unfolding_all exact ps_if (hc := hc) (ha := ha) (hb := hb)
theorem ps_neverI {st : Stmt}  : PSi X st tNever := by with_unfolding_all exact ps_never 
theorem ps_asgI  {tg e : Expr} {te : TE} {g : TG} (he : PEi X e te) (hg : PGi X tg g) (hs : swapsWithSole [tg] e pos.line X.env = pure false := by rfl) (hw : swappedStores [tg] e X.env = pure none := by rfl) (h1 : (assignEach [tg] X.env).map (·.2) = [assign tg X.env] := by rfl) : PSi X (.Assign [tg] e pos) (tAsg te g) := by with_unfolding_all exact ps_asg (he := he) (hg := hg) (hs := hs) (hw := hw) (h1 := h1)
theorem ps_setI  {i : Nat} {x : Str} {e : Expr} {te : TE} {pos' : Pos} (hN : X.N.Nodup) (hi : X.N[i]? = some x) (hx : Loc X.env.scope x) (he : PEi X e te) (hs : swapsWith e (some (.Name x pos')) pos.line X.env = pure false := by rfl) (hf : X.fn x = true ∨ X.env.scope.names.lookup x = some .local := by first | exact .inl rfl | exact .inr rfl | assumption) : PSi X (.Assign [.Name x pos'] e pos) (tAsg te (gName i)) := by with_unfolding_all exact ps_set (hN := hN) (hi := hi) (hx := hx) (he := he) (hs := hs) (hf := hf)
theorem ps_parI  {i j : Nat} {x y : Str} {a b : Expr} {ta : TA} {px py pt : Pos} {kt k2 pt2} (hc : X.calm = true) (hN : X.N.Nodup) (hi : X.N[i]? = some x) (hj : X.N[j]? = some y) (hij : i ≠ j) (hx : X.env.scope.names.lookup x = some .local) (hy : X.env.scope.names.lookup y = some .local) (ha : PAi X [a, b] ta) (hw : swappedStores [.Tuple [.Name x px, .Name y py] kt pt] (.Tuple [a, b] k2 pt2) X.env = pure (some [x, y])) (hs : swapsWithSole [.Tuple [.Name x px, .Name y py] kt pt] (.Tuple [a, b] k2 pt2) pos.line X.env = pure false := by rfl) : PSi X (.Assign [.Tuple [.Name x px, .Name y py] kt pt] (.Tuple [a, b] k2 pt2) pos) (tPar i j ta) := by with_unfolding_all exact ps_par (hc := hc) (hN := hN) (hi := hi) (hj := hj) (hij := hij) (hx := hx) (hy := hy) (ha := ha) (hw := hw) (hs := hs)
theorem ps_whileI  {c : Expr} {body : List Stmt} {tc : TT} {tb : TS} (hp : PassesOwn (model X.prog X.w) X.A X.env X.xe) (hc : PTi X c tc) (hb : PSsi X body tb) : PSi X (.While c body [] pos) (tWhile tc tb) := by with_unfolding_all exact ps_while (hp := hp) (hc := hc) (hb := hb)
theorem ps_forI  {iter : Expr} {body : List Stmt} {wi : TI} {g : TG} {tb : TS} {pos : Pos} (hp : PassesOwn (model X.prog X.w) X.A X.env X.xe) (hc : X.calm = true) (hi : PIi X tg iter wi) (hg : PGi X tg g) (hb : PSsi X body tb) (hs : ∀ x, foldedSetIterable iter X.env x = pure x := by intro _; rfl) : PSi X (.For tg iter body [] pos) (tFor wi g tb) := by with_unfolding_all exact ps_for (hp := hp) (hc := hc) (hi := hi) (hg := hg) (hb := hb) (hs := hs)
theorem ps_compSI  {tg elt iter : Expr} {os : List Str} {i : Nat} {y : Str} {py pos spos : Pos} {scope : Scope} {wi : TI} {g : TG} {te : TE} {caps : List (Nat × Str)} (N : List Str) (sc : Scope) (hNd : X.N.Nodup) (hy : X.N[i]? = some y) (hl : X.env.kindOf y = some .local) (hi : PIi X tg iter wi) (hg : ∀ cl C s0 H0 fp, PGi (cxComp X scope cl (os ++ caps.map (·.2)) C s0 H0 fp) tg g) (he : ∀ cl C s0 H0 fp, PEi (cxComp X scope cl (os ++ caps.map (·.2)) C s0 H0 fp) elt te) (ok : compOk N sc scope caps = true) (hN : X.N = N := by rfl) (hsc : X.env.scope = sc := by rfl) (hc : X.calm = true := by rfl) (hfs : ∀ v, foldedSetIterable iter X.env v = pure v := by intro _; rfl) (hsw : swapsWith (.ListComp elt [⟨tg, iter, [], 0⟩] scope pos) (some (.Name y py)) spos.line X.env = pure true := by rfl) : PSi X (.Assign [.Name y py] (.ListComp elt [⟨tg, iter, [], 0⟩] scope pos) spos) (tAsg (tCompG os.length wi g te (caps.map (·.1))) (gName i)) := by with_unfolding_all exact ps_compS (N := N) (sc := sc) (hNd := hNd) (hy := hy) (hl := hl) (hi := hi) (hg := hg) (he := he) (ok := ok) (hN := hN) (hsc := hsc) (hc := hc) (hfs := hfs) (hsw := hsw)
theorem ps_raiseI  (th : Throws X E) (c : XCls X.K X.mg x C) (ha : PAi X [e₀] ta) (hc : X.calm = true := by rfl) (hg : Gl X x := by rfl) (he : starEach [e₀] X.env = [(false, eval e₀ X.env)] := by rfl) (hd : (x == ("__debug__" : Str)) = false := by decide) : PSi X (.Raise (some (.Call (.Name x np) [e₀] [] cpos)) none pos) (tRaise E C ta) := by with_unfolding_all exact ps_raise (th := th) (c := c) (ha := ha) (hc := hc) (hg := hg) (he := he) (hd := hd)
theorem pg_nameI  {i : Nat} {x : Str} (hN : X.N.Nodup) (hi : X.N[i]? = some x) (hx : Loc X.env.scope x) (hf : X.fn x = true ∨ X.env.scope.names.lookup x = some .local := by first | exact .inl rfl | exact .inr rfl | assumption) : PGi X (.Name x pos) (gName i) := by with_unfolding_all exact pg_name (hN := hN) (hi := hi) (hx := hx) (hf := hf)
theorem pgs_nilI   : PGsi X [] gNil := by with_unfolding_all exact pgs_nil 
theorem pgs_consI  {e : Expr} {es : List Expr} {t : TG} {u : TGs} (h1 : PGi X e t) (h2 : PGsi X es u) (hs : (assignEach (e :: es) X.env).map (·.2) = assign e X.env :: (assignEach es X.env).map (·.2) := by rfl) : PGsi X (e :: es) (gCons t u) := by with_unfolding_all exact pgs_cons (h1 := h1) (h2 := h2) (hs := hs)
theorem pg_tupKI  (K : PySem.W.Frag) {es : List Expr} {k : Nat} {t : TGs} {n : Nat} {pos : Pos} (hc : X.calm = true) (h : PGsi X es t) (hK : X.K = K := by rfl) (hn : (assignEach es X.env).length = n := by rfl) (hst : (assignEach es X.env).findIdx? (·.1) = none := by rfl) : PGi X (.Tuple es k pos) (gTup K n t) := by with_unfolding_all exact pg_tupK (K := K) (hc := hc) (h := h) (hK := hK) (hn := hn) (hst := hst)
theorem pi_listI  {l : Expr} {tl : TE} (hl : PEi X l tl) : PIi X tg l (iList X.K tl) := by with_unfolding_all exact pi_list (hl := hl)
theorem pi_range1I  {a : Expr} {ta : TA} {p pos : Pos} (hg : Gl X "range") (hm : X.mg "range" = none) (ha : PAi X [a] ta) (hs : starEach [a] X.env = [(false, eval a X.env)] := by rfl) : PIi X tg (.Call (.Name "range" p) [a] [] pos) (iRng1 ta) := by with_unfolding_all exact pi_range1 (hg := hg) (hm := hm) (ha := ha) (hs := hs)
theorem pi_zipI  {a b : Expr} {ta : TA} {p pos ppos : Pos} {elts : List Expr} {k0 : Nat} (hg : Gl X "zip") (hm : X.mg "zip" = none) (ha : PAi X [a, b] ta) (he : starEach [a, b] X.env = (false, eval a X.env) :: starEach [b] X.env := by rfl) (hpl : (backTo pos (starEach [b] X.env)).any (·.1) = false := by rfl) : PIi X (.Tuple elts k0 ppos) (.Call (.Name "zip" p) [a, b] [] pos) (iZip X.K ta) := by with_unfolding_all exact pi_zip (hg := hg) (hm := hm) (ha := ha) (he := he) (hpl := hpl)
theorem po_noneI   : POi X none tNoPart := by with_unfolding_all exact po_none 
theorem po_someI  (h : PEi X e te) : POi X (some e) (tPart te) := by with_unfolding_all exact po_some (h := h)
theorem def_okI {P : Program} {w : World} {K : PySem.W.Frag} {mg : Str → Option Value} {base : Heap} {x : Str} {st : Stmt} {N ps : List Str} {k : Nat} {sp : Sp} (F : FunAt K mg x st ps) (S : FnScope N ps (defScope st)) (len : ∀ vs H Q E, sp vs H Q E → vs.length = ps.length) (hbody : ∀ (f : Addr) (cdv : Value) (A : Around) (outer : List Env) (s : Shared) (H : Hp) (vs : List V) (Q : VK) (E : XK), Room k (A.deeper (envOfC x (defScope st) s.heap.objs.size f cdv)) → sp vs H Q E →
      ∃ t, PSsi (cxOf CX0 P w K mg base N x (defScope st) f cdv A outer s H E).nox (defBody st) t ∧ t { nx := fun _ H' => Q .non H', rt := Q } (start N vs) H) : DefOk P w K mg base CX0 (k + 1) x ps sp := by with_unfolding_all exact def_ok (F := F) (S := S) (len := len) (hbody := hbody)
theorem def_okXI {P : Program} {w : World} {K : PySem.W.Frag} {mg : Str → Option Value} {base : Heap} {x : Str} {st : Stmt} {N ps : List Str} {k : Nat} {sp : Sp} (F : FunAt K mg x st ps) (S : FnScope N ps (defScope st)) (len : ∀ vs H Q E, sp vs H Q E → vs.length = ps.length) (hbody : ∀ (f : Addr) (cdv : Value) (A : Around) (outer : List Env) (s : Shared) (H : Hp) (vs : List V) (Q : VK) (E : XK), Room k (A.deeper (envOfC x (defScope st) s.heap.objs.size f cdv)) → sp vs H Q E →
      ∃ t, PSsi (cxOf (CXx P w) P w K mg base N x (defScope st) f cdv A outer s H E) (defBody st) t ∧ t { nx := fun _ H' => Q .non H', rt := Q } (start N vs) H) : DefOk P w K mg base (CXx P w) (k + 1) x ps sp := by with_unfolding_all exact def_okX (F := F) (S := S) (len := len) (hbody := hbody)
end
end Cv

namespace Cv
open PySem PySem.Spec PyProof.Rows L2
/-! ### the end of a list while an exception is handled; any of a list of truths there -/
section
variable {prog : Program} {w : World} {A : Around} {E : Value → Shared → Prop} {s : Shared}
end
section
variable {X : Cx}
end
end Cv

namespace Cv
open PySem PySem.Spec PyProof.Rows L2
/-! ### promises of what is refused -/
/-! ### is, is not of two truths -/
section
variable {X : Cx}
end
end Cv
namespace Cv
open PySem PySem.Spec PyProof.Rows L2
/-! ### what goes on is read once -/
end Cv

namespace Cv
open PySem PySem.Spec PyProof.Rows L2
/-- a def's body read in two parts: the second one is hidden while the first one is read -/
theorem cutI {X : Cx} {body : List Stmt} {D : Ends} {σ : L2.St} {H : Hp} (rest : List Stmt) {t2 : TS} (h2 : PSsi X rest t2) (h1 : ∀ R, PSsi X rest R → R = t2 → ∃ t, PSsi X body t ∧ t D σ H) : ∃ t, PSsi X body t ∧ t D σ H := h1 t2 h2 rfl
theorem uln0 {α : Type} {P : List α → Prop} (h : P []) : ∀ us : List α, us.length = 0 → P us
  | [], _ => h
theorem ulnS {α : Type} {n : Nat} {P : List α → Prop} (h : ∀ a, ∀ us : List α, us.length = n → P (a :: us)) : ∀ us : List α, us.length = n + 1 → P us
  | [], e => nomatch e
  | a :: us, e => h a us (Nat.succ.inj e)
@[elab_as_elim] theorem uln1 {α : Type} {P : List α → Prop} (h : ∀ a, P [a]) (us : List α) (hl : us.length = 1) : P us := (ulnS fun a => uln0 (h a)) us hl
@[elab_as_elim] theorem uln2 {α : Type} {P : List α → Prop} (h : ∀ a b, P [a, b]) (us : List α) (hl : us.length = 2) : P us := (ulnS fun a => ulnS fun b => uln0 (h a b)) us hl
@[elab_as_elim] theorem uln3 {α : Type} {P : List α → Prop} (h : ∀ a b c, P [a, b, c]) (us : List α) (hl : us.length = 3) : P us := (ulnS fun a => ulnS fun b => ulnS fun c => uln0 (h a b c)) us hl
@[elab_as_elim] theorem uln4 {α : Type} {P : List α → Prop} (h : ∀ a b c d, P [a, b, c, d]) (us : List α) (hl : us.length = 4) : P us := (ulnS fun a => ulnS fun b => ulnS fun c => ulnS fun d => uln0 (h a b c d)) us hl
end Cv

namespace Cv
open PySem PySem.Spec PyProof.Rows L2
/-! ### loops whose turns do not see what goes on behind them -/
theorem for_listH {K : PySem.W.Frag} {a : Addr} {xs : List V} {g : TG} {tb : TS} {D : Ends} {σ : L2.St} {H : Hp} (Pv : Nat → L2.St → Hp → Prop) (h0 : Pv 0 σ H) (hl : ∀ i σ H, i ≤ xs.length → Pv i σ H → SqL K H a xs)
    (hs : ∀ (D' : Ends) (N : Nat → L2.St → Hp → Prop), (∀ i σ H, Pv i σ H → N i σ H) → (∀ v H, D.rt v H → D'.rt v H) → ∀ i x σ H, xs[i]? = some x → Pv i σ H → g x σ H fun σ2 H2 => tb { D' with nx := N (i + 1), ct := N (i + 1) } σ2 H2) (hd : ∀ σ H, Pv xs.length σ H → D.nx σ H) :
    ∃ W : Nat → Nat → L2.St → Hp → Prop, (∃ m, W 0 m σ H) ∧ ∀ i m σ H, W i m σ H →
      ((Itl K a).stop i H ∧ D.nx σ H) ∨ ((Itl K a).go i H ∧ ∃ N : L2.St → Hp → Prop, (∀ σ' H', N σ' H' → ∃ m', m' < m ∧ W (i + 1) m' σ' H') ∧ ∀ x H', (Itl K a).yld i H x H' → g x σ H' fun σ2 H2 => tb { D with nx := N, ct := N, bk := D.nx } σ2 H2) :=
  for_list Pv h0 hl (fun i x σ H hx hp => hs { D with bk := D.nx } Pv (fun _ _ _ h => h) (fun _ _ h => h) i x σ H hx hp) hd
end Cv
namespace Cv
open PySem PySem.Spec PyProof.Rows L2
end Cv
namespace Cv
open PySem PySem.Spec PyProof.Rows L2
section
variable {X : Cx}
theorem call_allBK (K : PySem.W.Frag) (hc : X.calm = true) (h : X.K = K := by rfl) : CallR X (.builtin "all") (fun xs H Q => ∃ (p : Addr) (bs : List Bool), xs = [.ref p] ∧ SqL K H p (bs.map V.bl) ∧ Q (.bl (bs.all id)) H) := by subst h; exact call_allB hc
theorem call_isxK (K : PySem.W.Frag) (h : X.K = K := by rfl) : CallR X (.builtin "isinstance") (fun xs H Q => ∃ x C y c b, xs = [.ref x, y] ∧ H x = some (ExcO x (.ref C)) ∧ clsOf y = some c ∧ XNot K C ∧ PySem.W.kitOne K (.ref C) c = some b ∧ Q (.bl b) H) := by subst h; exact call_isx
theorem call_list_ofKH (K : PySem.W.Frag) (h : X.K = K := by rfl) : CallR X (.type "list") (fun xs H Q => ∃ p ys, xs = [.ref p] ∧ (SqL K H p ys ∨ SqT K H p ys) ∧ ∀ l, H l = none → Q (.ref l) (upd H l (.lst ys))) := by subst h; exact call_list_of
end
end Cv
namespace Cv
open PySem PySem.Spec PyProof.Rows L2
/-! ### steps of a reading, each by one small word -/
end Cv

namespace Cv
open PySem PySem.Spec PyProof.Rows L2
/-! ### points and steps -/
noncomputable def PtV (H : Hp) (v : V) (x y : Rat) : Prop := ∃ a vx vy, v = .ref a ∧ H a = some (.tup [vx, vy]) ∧ ShV H vx x ∧ ShV H vy y
end Cv
namespace Cv
open PySem PySem.Spec PyProof.Rows L2
/-! ### pairs that are not in lowest terms, as the law reckons them -/
noncomputable def RwV (H : Hp) (v : V) (t b : Int) : Prop := ∃ a, v = .ref a ∧ H a = some (.tup [.int t, .int b])
theorem ShV.rw {H : Hp} {v : V} {q : Rat} (h : ShV H v q) : RwV H v q.num q.den := h
end Cv

namespace Cv
open PySem PySem.Spec PyProof.Rows L2
theorem upd_keep {H : Hp} {p b : Addr} {o x : HO} (h : H p = none) (e : H b = some x) : upd H p o b = some x := by rw [upd_ne (ne_of_none e h)]; exact e
theorem PtV.tup {H H' : Hp} {v : V} {x y : Rat} (h : PtV H v x y) (e : Tup H H') : PtV H' v x y := by
  obtain ⟨a, vx, vy, rfl, h, h1, h2⟩ := h
  exact ⟨a, vx, vy, rfl, e _ _ h, h1.tup e, h2.tup e⟩
theorem RwV.tup {H H' : Hp} {v : V} {x y : Int} (h : RwV H v x y) (e : Tup H H') : RwV H' v x y := by
  obtain ⟨a, rfl, h⟩ := h
  exact ⟨a, rfl, e _ _ h⟩
theorem SqL.same' {K : PySem.W.Frag} {H H' : Hp} {a : Addr} {xs : List V} (h : SqL K H a xs) (e : Same H H') : SqL K H' a xs := e.seq h
theorem at0 {α : Type} (x : α) (xs : List α) : atI (x :: xs) 0 = some x := atI_nat (j := 0) rfl
end Cv

namespace Cv
open PySem PySem.Spec PyProof.Rows L2
/-! ### pairs not in lowest terms, by what they are worth -/
noncomputable def RwQ (H : Hp) (v : V) (r : Rat) (n : Nat) : Prop := ∃ t b : Int, RwV H v t b ∧ 0 < b ∧ (t : Rat) = r * (b : Rat) ∧ Sz n t ∧ Sz n b
theorem RwQ.tup {H H' : Hp} {v : V} {r : Rat} {n : Nat} (h : RwQ H v r n) (e : Tup H H') : RwQ H' v r n := by
  obtain ⟨t, b, h1, h2⟩ := h
  exact ⟨t, b, h1.tup e, h2⟩
end Cv

namespace Cv
/-! ### curves by rows, over Rat -/
noncomputable abbrev Pt := Rat × Rat
/-! ### sizes: tops over one bottom -/
noncomputable def Ov (D : Int) (n : Nat) (x : Rat) : Prop := ∃ m : Int, x * (D : Rat) = (m : Rat) ∧ Sz n m
theorem Ov.mono {D : Int} {n k : Nat} {x : Rat} (h : Ov D n x) (hk : n ≤ k) : Ov D k x := by
  obtain ⟨m, e, z⟩ := h
  exact ⟨m, e, z.mono hk⟩
theorem Ov.bd {D : Int} {n d : Nat} {x : Rat} (h : Ov D n x) (hD : D ≠ 0) (hd : Sz d D) : Bd (max n d) x := by
  obtain ⟨m, e, z⟩ := h
  rw [eq_divInt hD e]
  exact Bd.of z hd hD
theorem Ov.mul {D E : Int} {n m : Nat} {x y : Rat} (hx : Ov D n x) (hy : Ov E m y) : Ov (D * E) (n + m) (x * y) := by
  obtain ⟨m1, e1, z1⟩ := hx
  obtain ⟨m2, e2, z2⟩ := hy
  refine ⟨m1 * m2, ?_, z1.mul z2⟩
  simp only [Rat.intCast_mul]
  rw [← e1, ← e2]; grind
noncomputable def OvP (D : Int) (n : Nat) (p : Pt) : Prop := Ov D n p.1 ∧ Ov D n p.2
end Cv

namespace Cv
open PySem PySem.Spec PyProof.Rows L2
/-! ### lists of points -/
structure PtsV (H : Hp) (vs : List V) (ps : List Pt) : Prop where
  len : vs.length = ps.length
  get : ∀ (i : Nat) v p, vs[i]? = some v → ps[i]? = some p → PtV H v p.1 p.2
theorem PtsV.tup {H H' : Hp} {vs : List V} {ps : List Pt} (h : PtsV H vs ps) (t : Tup H H') : PtsV H' vs ps := ⟨h.len, fun i v p e1 e2 => (h.get i v p e1 e2).tup t⟩
theorem PtsV.same {H H' : Hp} {vs : List V} {ps : List Pt} (h : PtsV H vs ps) (t : Same H H') : PtsV H' vs ps := h.tup t.tup
theorem PtsV.nil (H : Hp) : PtsV H [] [] := ⟨rfl, fun i v p e _ => by simp at e⟩
theorem PtsV.snoc {H : Hp} {vs : List V} {ps : List Pt} {v : V} {p : Pt} (h : PtsV H vs ps) (hv : PtV H v p.1 p.2) : PtsV H (vs ++ [v]) (ps ++ [p]) := by
  refine ⟨by simp [h.len], fun i w q e1 e2 => ?_⟩
  by_cases hi : i < vs.length
  · rw [List.getElem?_append_left hi] at e1
    rw [List.getElem?_append_left (by rw [← h.len]; exact hi)] at e2
    exact h.get i w q e1 e2
  · rw [List.getElem?_append_right (by omega)] at e1
    rw [List.getElem?_append_right (by rw [← h.len]; omega), ← h.len] at e2
    cases hk : i - vs.length with
    | zero =>
      rw [hk] at e1 e2
      simp at e1 e2
      subst e1 e2
      exact hv
    | succ k => rw [hk] at e1; simp at e1
theorem PtsV.at {H : Hp} {vs : List V} {ps : List Pt} (h : PtsV H vs ps) {i : Nat} {p : Pt} (hp : ps[i]? = some p) : ∃ v, vs[i]? = some v ∧ PtV H v p.1 p.2 := by
  have hi : i < ps.length := (List.getElem?_eq_some_iff.mp hp).1
  have e : vs[i]? = some (vs[i]'(by rw [h.len]; exact hi)) := List.getElem?_eq_getElem _
  exact ⟨_, e, h.get i _ p e hp⟩
theorem PtsV.of {H : Hp} {vs : List V} {ps : List Pt} (hl : vs.length = ps.length) (h : ∀ (i : Nat) v p, vs[i]? = some v → ps[i]? = some p → PtV H v p.1 p.2) : PtsV H vs ps := ⟨hl, h⟩
noncomputable def datPt (p : Pt) : PySem.W.Dat := .tuple [datSh p.1, datSh p.2]
noncomputable def datPts (ps : List Pt) : PySem.W.Dat := .list (ps.map datPt)
theorem datPt_inj {p q : Pt} : datPt p = datPt q ↔ p = q := by
  unfold datPt
  constructor
  · intro h
    simp only [PySem.W.Dat.tuple.injEq, List.cons.injEq, and_true] at h
    exact Prod.ext (datSh_inj.mp h.1) (datSh_inj.mp h.2)
  · intro h; rw [h]
theorem datPt_ok (p : Pt) (n : Nat) : PySem.W.kqdOk (n + 2) (datPt p) = true := by
  have h1 := datSh_ok p.1 n
  have h2 := datSh_ok p.2 n
  simp [datPt, PySem.W.kqdOk, h1, h2]
theorem datPts_ok (ps : List Pt) (n : Nat) : PySem.W.kqdOk (n + 3) (datPts ps) = true := by
  have h : ∀ p : Pt, PySem.W.kqdOk (n + 2) (datPt p) = true := fun p => datPt_ok p n
  simp [datPts, PySem.W.kqdOk, h]
theorem PtV.dn {K : PySem.W.Frag} {H : Hp} {v : V} {p : Pt} (h : PtV H v p.1 p.2) : Dn K H (datPt p) v := by
  obtain ⟨a, vx, vy, rfl, h, h1, h2⟩ := h
  unfold datPt
  simp only [Dn, DnAll]
  exact ⟨a, _, rfl, SqT.of h, _, _, rfl, h1.dn, _, _, rfl, h2.dn, rfl⟩
theorem dnAll_pts {K : PySem.W.Frag} {H : Hp} : ∀ {ps : List Pt} {vs : List V}, PtsV H vs ps → DnAll K H (ps.map datPt) vs
  | [], vs, h => by
    have : vs = [] := List.length_eq_zero_iff.mp h.len
    subst this
    simp [DnAll]
  | p :: ps, vs, h => by
    cases vs with
    | nil => have := h.len; simp at this
    | cons v vs =>
      simp only [List.map_cons, DnAll]
      exact ⟨v, vs, rfl, (h.get 0 v p rfl rfl).dn, dnAll_pts ⟨by have := h.len; simpa using this, fun i w q e1 e2 => h.get (i + 1) w q (by simpa using e1) (by simpa using e2)⟩⟩
theorem PtsV.dn {K : PySem.W.Frag} {H : Hp} {a : Addr} {vs : List V} {ps : List Pt} (h : PtsV H vs ps) (hs : SqL K H a vs) : Dn K H (datPts ps) (.ref a) := by
  unfold datPts
  simp only [Dn]
  exact ⟨a, vs, rfl, hs, dnAll_pts h⟩
/-! ### promises of the law's helpers -/
noncomputable def spStreamB : Sp := fun vs H Q _ => ∃ c : Int, ∃ n : Nat, vs = [.int c, .int (n : Int)] ∧ n ≤ 1000 ∧ ∀ (l : Addr) (xs : List Int) (H' : Hp), Same H H' → H' l = some (.lst (xs.map V.int)) → xs.length = n → (∀ x ∈ xs, 0 ≤ x) → Q (.ref l) H'
noncomputable def spLCurve : Sp := fun vs H Q _ => ∃ c m : Int, vs = [.int c, .int m] ∧ ∀ (l : Addr) (ws : List V) (ps : List Pt) (B : Int) (H' : Hp), Same H H' → H l = none → H' l = some (.lst ws) → PtsV H' ws ps → 1 ≤ ps.length → ps.length ≤ 12 → 0 < B → Sz 31 B → (∀ p ∈ ps, OvP B 110 p) → Q (.ref l) H'
theorem den_mul_pos (a b : Rat) : 0 < (a.den : Int) * b.den := Int.mul_pos (by have := a.den_pos; omega) (by have := b.den_pos; omega)
theorem atI_last' {α : Type} (xs : List α) (v : α) (h : xs[xs.length - 1]? = some v) (hl : 1 ≤ xs.length) : atI xs (-1) = some v := by
  rcases List.eq_nil_or_concat xs with rfl | ⟨ys, y, rfl⟩
  · simp at hl
  · have : (ys ++ [y])[ys.length]? = some v := by simpa using h
    have e : y = v := by simpa using this
    subst e
    have := atI_last ys y
    simpa using this
theorem atI_nat' {α : Type} {xs : List α} {j : Nat} {i : Int} {v : α} (e : i = (j : Int)) (h : xs[j]? = some v) : atI xs i = some v := by subst e; exact atI_nat h
end Cv

namespace Cv
open PySem PySem.Spec PyProof.Rows L2
theorem cut_from {α : Type} (f : α → V) (xs : List α) (k : Nat) (h : k ≤ xs.length) : cutV (xs.map f) (some (k : Int)) none = (xs.drop k).map f := by
  unfold cutV
  have e : HT.sIx (xs.map f).length 0 (some (k : Int)) = k := by
    have := HT.sIx_nat (xs.map f).length 0 k
    rw [List.length_map] at this
    rw [List.length_map]
    exact this.trans (by omega)
  rw [e, HT.sIx_none, ← List.map_drop]
  refine List.take_of_length_le ?_
  rw [List.length_map, List.length_drop, List.length_map]
  omega
theorem cut_fromI {α : Type} (f : α → V) (xs : List α) (k : Int) (n : Nat) (e : k = (n : Int)) (h : n ≤ xs.length) : cutV (xs.map f) (some k) none = (xs.drop n).map f := by subst e; exact cut_from f xs n h
theorem low_gcd {t b x : Int} (hx : 0 ≤ x) (e : Int.gcd x 0 = Int.gcd t b) : x = (Int.gcd t b : Int) := by
  rw [Int.gcd_zero] at e
  omega
theorem ov_divInt {B m : Int} {n : Nat} (hB : B ≠ 0) (h : Sz n m) : Ov B n (Rat.divInt m B) := by
  refine ⟨m, ?_, h⟩
  rw [Rat.divInt_eq_div]
  have hb' : (B : Rat) ≠ 0 := by
    intro z
    exact hB (by exact_mod_cast z)
  grind
/-- a list of lists of points -/
theorem getD_bnd {T : List Int} {lo hi : Int} (h : ∀ x ∈ T, lo ≤ x ∧ x ≤ hi) {j : Nat} (hj : j < T.length) : lo ≤ T.getD j 0 ∧ T.getD j 0 ≤ hi := by
  rw [List.getD_eq_getElem?_getD, List.getElem?_eq_getElem hj]
  exact h _ (List.getElem_mem hj)
/-- an item of a written table of numbers, and its bounds -/
theorem tab (T : List Int) (lo hi i : Int) (h : ∀ x ∈ T, lo ≤ x ∧ x ≤ hi) (h0 : 0 ≤ i) (h1 : i < (T.length : Int)) : ∃ v : Int, atI (T.map V.int) i = some (.int v) ∧ lo ≤ v ∧ v ≤ hi :=
  ⟨_, at_mapZ T i h0 h1, getD_bnd h (by omega)⟩
theorem sh_int (i : Int) : ((i : Rat).num = i) ∧ ((i : Rat).den = 1) := ⟨by simp, by simp⟩
theorem ShV.int {H : Hp} {a : Addr} {i : Int} (h : H a = some (.tup [.int i, .int 1])) : ShV H (.ref a) (i : Rat) := ⟨a, rfl, by rw [(sh_int i).1, (sh_int i).2]; exact h⟩
theorem Bd.intc {n : Nat} {i : Int} (h : Sz (n + 1) i) : Bd (n + 1) (i : Rat) := ⟨by rw [(sh_int i).1]; exact h, by rw [(sh_int i).2]; exact Sz.one.mono (by omega)⟩
theorem p9 : (10 : Int) ^ (9 : Int).toNat = 1000000000 := by decide
end Cv

namespace Cv
open PySem PySem.Spec PyProof.Rows L2
/-! ### maps -/
structure Mp where
  a : Rat
  b : Rat
  c : Rat
  d : Rat
  e : Rat
  f : Rat
noncomputable def MpV (H : Hp) (v : V) (m : Mp) : Prop := ∃ x v0 v1 v2 v3 v4 v5, v = .ref x ∧ H x = some (.tup [v0, v1, v2, v3, v4, v5]) ∧ ShV H v0 m.a ∧ ShV H v1 m.b ∧ ShV H v2 m.c ∧ ShV H v3 m.d ∧ ShV H v4 m.e ∧ ShV H v5 m.f
theorem MpV.tup {H H' : Hp} {v : V} {m : Mp} (h : MpV H v m) (t : Tup H H') : MpV H' v m := by
  obtain ⟨x, v0, v1, v2, v3, v4, v5, rfl, h, h0, h1, h2, h3, h4, h5⟩ := h
  exact ⟨x, v0, v1, v2, v3, v4, v5, rfl, t _ _ h, h0.tup t, h1.tup t, h2.tup t, h3.tup t, h4.tup t, h5.tup t⟩
/-! the mathematics -/
/-! shares in a list, each of a bounded size -/
noncomputable def ShsV (n : Nat) (H : Hp) (vs : List V) : Prop := ∀ (i : Nat) v, vs[i]? = some v → ∃ q, ShV H v q ∧ Bd n q
theorem ShsV.tup {n : Nat} {H H' : Hp} {vs : List V} (h : ShsV n H vs) (t : Tup H H') : ShsV n H' vs := fun i v e => let ⟨q, w, b⟩ := h i v e; ⟨q, w.tup t, b⟩
theorem ShsV.mono {n m : Nat} {H : Hp} {vs : List V} (h : ShsV n H vs) (hm : n ≤ m) : ShsV m H vs := fun i v e => let ⟨q, w, b⟩ := h i v e; ⟨q, w, b.mono hm⟩
theorem same_upd {H H' : Hp} {D : Addr} {o : HO} (h : H D = none) (s : Same H H') : Same H (upd H' D o) := fun b u e => by rw [upd_ne (ne_of_none e h)]; exact s b u e
theorem PtsV.one {H : Hp} {v : V} {p : Pt} (h : PtV H v p.1 p.2) : PtsV H [v] [p] := ⟨rfl, fun i w q e1 e2 => by
  cases i with
  | zero => simp at e1 e2; subst e1 e2; exact h
  | succ i => simp at e1⟩
theorem dnP {K : PySem.W.Frag} {H : Hp} {a : Addr} {vs : List V} {ps : List Pt} (hs : H a = some (.lst vs)) (h : PtsV H vs ps) : Dn K H (datPts ps) (.ref a) := h.dn (SqL.of hs)
end Cv

namespace Cv
/-! ### axes: tops over all the bottoms -/
/-! ### lowest terms, bottom by bottom -/
/-! ### a common bottom -/
end Cv

namespace Cv
open PySem PySem.Spec PyProof.Rows L2
/-! ### lists of shares, axes -/
structure ShL (H : Hp) (vs : List V) (qs : List Rat) : Prop where
  len : vs.length = qs.length
  get : ∀ (i : Nat) v q, vs[i]? = some v → qs[i]? = some q → ShV H v q
theorem ShL.tup {H H' : Hp} {vs : List V} {qs : List Rat} (h : ShL H vs qs) (t : Tup H H') : ShL H' vs qs := ⟨h.len, fun i v q e1 e2 => (h.get i v q e1 e2).tup t⟩
theorem ShL.at {H : Hp} {vs : List V} {qs : List Rat} (h : ShL H vs qs) {i : Nat} {q : Rat} (hq : qs[i]? = some q) : ∃ v, vs[i]? = some v ∧ ShV H v q := by
  have hi : i < qs.length := (List.getElem?_eq_some_iff.mp hq).1
  have e : vs[i]? = some (vs[i]'(by rw [h.len]; exact hi)) := List.getElem?_eq_getElem _
  exact ⟨_, e, h.get i _ q e hq⟩
noncomputable def AxV (H : Hp) (v : V) (n : Nat) (tops bs : List Int) : Prop := ∃ a lt lb, v = .ref a ∧ H a = some (.tup [.ref lt, .ref lb]) ∧ H lt = some (.lst (tops.map V.int)) ∧ H lb = some (.lst (bs.map V.int)) ∧ (∀ x ∈ tops, Sz n x) ∧ (∀ b ∈ bs, 0 < b ∧ Sz 9000 b) ∧ bs.length ≤ 100 ∧ tops.length ≤ 1000
/-! the mathematics of the loops -/
theorem ShL.map {H : Hp} {ys : List V} {ps : List Pt} {f : Pt → Rat} (hl : ys.length = ps.length) (h : ∀ (i : Nat) v, ys[i]? = some v → ∀ p, ps[i]? = some p → ShV H v (f p)) : ShL H ys (ps.map f) := by
  refine ⟨by rw [hl, List.length_map], fun i v q e1 e2 => ?_⟩
  rw [List.getElem?_map] at e2
  cases e3 : ps[i]? with
  | none => rw [e3] at e2; cases e2
  | some p => rw [e3] at e2; cases e2; exact h i v e1 p e3
end Cv

namespace Cv
open PySem PySem.Spec PyProof.Rows L2
/-! ### rows, polar points, cuts and stretches of the program -/
/-- a curve as the program takes it: its seats, a common bottom, sizes -/
theorem AxV.lst {H : Hp} {v : V} {n : Nat} {tops bs : List Int} {l : Addr} {ls : List Addr} {o : HO} (h : AxV H v n tops bs) (hl : H l = some (.lst (ls.map V.ref))) (h1 : 1 ≤ ls.length) : AxV (upd H l o) v n tops bs := by
  obtain ⟨a, lt, lb, e, g1, g2, g3, g4⟩ := h
  have ne : ∀ (b : Addr) (xs : List Int), H b = some (.lst (xs.map V.int)) → b ≠ l := fun b xs e z => by
    rw [z, hl] at e
    have e' : ls.map V.ref = xs.map V.int := by simpa using e
    cases ls with
    | nil => simp at h1
    | cons x r =>
      cases xs with
      | nil => simp at e'
      | cons y s => simp at e'
  have na : a ≠ l := fun z => by rw [z, hl] at g1; cases g1
  exact ⟨a, lt, lb, e, by rw [upd_ne na]; exact g1, by rw [upd_ne (ne _ _ g2)]; exact g2, by rw [upd_ne (ne _ _ g3)]; exact g3, g4⟩
end Cv

namespace Cv
open PySem PySem.Spec PyProof.Rows L2
/-! ### the order of the shares does not matter -/
/-! ### sizes -/
theorem cut_to (xs : List V) (k : Int) (n : Nat) (e : k = (n : Int)) : cutV xs none (some k) = xs.take n := by
  subst e
  unfold cutV
  rw [HT.sIx_nat, HT.sIx_none, List.drop_zero, Nat.sub_zero]
  rw [List.take_eq_take_iff]; omega
end Cv

namespace Cv
/-! ### polar points share by share: each goes between as the share does -/
/-! ### a stretch's rows -/
/-! ### at 0 and at 1 -/
end Cv

namespace Cv
/-! ### sizes of the halves -/
end Cv

namespace Cv
open PySem PySem.Spec PyProof.Rows L2
/-! ### curves the other way round, stretches of stretches -/
/-! ### the bottoms of a stretch's seats -/
end Cv

namespace Cv
open PySem PySem.Spec PyProof.Rows L2
/-! ### curves and shares drawn from the script's cells -/
section
variable {X : Cx}
end
theorem ShL.nil (H : Hp) : ShL H [] [] := ⟨rfl, fun i v q e => by simp at e⟩
end Cv

namespace Cv
open PySem PySem.Spec PyProof.Rows L2
/-! ### how many ways, sums, powers -/
noncomputable def ch : Nat → Nat → Nat
  | _, 0 => 1
  | 0, _ + 1 => 0
  | n + 1, k + 1 => ch n k + ch n (k + 1)
noncomputable def pw (x : Rat) : Nat → Rat
  | 0 => 1
  | n + 1 => pw x n * x
noncomputable def sm (f : Nat → Rat) : Nat → Rat
  | 0 => 0
  | n + 1 => sm f n + f n
/-! ### the weighted sum -/
/-! ### a walk over pairs -/
/-! ### promises -/
theorem cut_rest (xs : List V) (h : 1 ≤ xs.length) : cutV xs (some 1) none = xs.drop 1 := by
  have := cut_fromI (fun v : V => v) xs 1 1 rfl h
  simpa using this
end Cv

namespace Cv
open PySem PySem.Spec PyProof.Rows L2
section
variable {X : Cx}
end
/-! ### the weights -/
end Cv

namespace Cv
open PySem PySem.Spec PyProof.Rows L2
/-! ### enumerate of a list -/
section
variable {X : Cx}
end
/-! ### least and greatest of a list of whole numbers -/
section
variable {X : Cx}
end
end Cv

namespace Cv
open PySem PySem.Spec PyProof.Rows L2
/-! ### tuples that never change: ours, or the module's -/
noncomputable def TK (K : PySem.W.Frag) (H : Hp) (a : Addr) (xs : List V) : Prop := H a = some (.tup xs) ∨ ∃ (o : Obj) (its : Array Value) (n : Nat), K.lookup a = some o ∧ o.cls = .type "tuple" ∧ o.data = .seq its n ∧ its.size ≤ sizeLine ∧ Vals xs its.toList
theorem TK.of {K : PySem.W.Frag} {H : Hp} {a : Addr} {xs : List V} (h : H a = some (.tup xs)) : TK K H a xs := .inl h
theorem TK.tup {K : PySem.W.Frag} {H H' : Hp} {a : Addr} {xs : List V} (h : TK K H a xs) (t : Tup H H') : TK K H' a xs := by
  rcases h with h | h
  · exact .inl (t _ _ h)
  · exact .inr h
structure ShK (K : PySem.W.Frag) (H : Hp) (v : V) (q : Rat) : Prop where
  ex : ∃ a, v = .ref a ∧ TK K H a [.int q.num, .int (q.den : Int)]
structure PtK (K : PySem.W.Frag) (H : Hp) (v : V) (x y : Rat) : Prop where
  ex : ∃ a vx vy, v = .ref a ∧ TK K H a [vx, vy] ∧ ShK K H vx x ∧ ShK K H vy y
structure PtsK (K : PySem.W.Frag) (H : Hp) (vs : List V) (ps : List Pt) : Prop where
  len : vs.length = ps.length
  get : ∀ (i : Nat) v p, vs[i]? = some v → ps[i]? = some p → PtK K H v p.1 p.2
section
variable {K : PySem.W.Frag} {H H' : Hp} {v : V} {q x y : Rat} {vs : List V} {ps : List Pt}
theorem ShK.tup (h : ShK K H v q) (t : Tup H H') : ShK K H' v q := by obtain ⟨a, rfl, h⟩ := h; exact ⟨a, rfl, h.tup t⟩
theorem ShV.k (h : ShV H v q) : ShK K H v q := by obtain ⟨a, rfl, h⟩ := h; exact ⟨a, rfl, .inl h⟩
theorem PtK.tup (h : PtK K H v x y) (t : Tup H H') : PtK K H' v x y := by obtain ⟨a, vx, vy, rfl, h, h1, h2⟩ := h; exact ⟨a, vx, vy, rfl, h.tup t, h1.tup t, h2.tup t⟩
theorem PtV.k (h : PtV H v x y) : PtK K H v x y := by obtain ⟨a, vx, vy, rfl, h, h1, h2⟩ := h; exact ⟨a, vx, vy, rfl, .inl h, h1.k, h2.k⟩
theorem PtsK.tup (h : PtsK K H vs ps) (t : Tup H H') : PtsK K H' vs ps := ⟨h.len, fun i v p e1 e2 => (h.get i v p e1 e2).tup t⟩
theorem PtsV.k (h : PtsV H vs ps) : PtsK K H vs ps := ⟨h.len, fun i v p e1 e2 => (h.get i v p e1 e2).k⟩
theorem PtsK.nil (K : PySem.W.Frag) (H : Hp) : PtsK K H [] [] := ⟨rfl, fun i v p e _ => by simp at e⟩
theorem PtsK.at (h : PtsK K H vs ps) {i : Nat} {p : Pt} (hp : ps[i]? = some p) : ∃ v, vs[i]? = some v ∧ PtK K H v p.1 p.2 := by
  have hi : i < ps.length := (List.getElem?_eq_some_iff.mp hp).1
  have e : vs[i]? = some (vs[i]'(by rw [h.len]; exact hi)) := List.getElem?_eq_getElem _
  exact ⟨_, e, h.get i _ p e hp⟩
end
/-! ### differences -/
/-! sizes -/
theorem Ov.zero (D : Int) (n : Nat) : Ov D (n + 1) 0 := ⟨0, by simp, ⟨by show 0 < _; exact Nat.two_pow_pos _⟩⟩
/-! ### isinstance, also of the module's tuples -/
section
variable {X : Cx}
end
/-! ### promises -/
theorem ovp_bd4 {D : Int} {n d : Nat} {p : Pt} (hD : 0 < D) (zD : Sz d D) (h : OvP D n p) (k : Nat) (h1 : n ≤ k) (h2 : d ≤ k) : Bd k p.1 ∧ Bd k p.2 :=
  ⟨(h.1.bd (by omega) zD).mono (by omega), (h.2.bd (by omega) zD).mono (by omega)⟩
end Cv

namespace Cv
open PySem PySem.Spec PyProof.Rows L2
/-! ### a list is unpacked -/
section
variable {prog : Program} {w : World} {A : Around} {E : Value → Shared → Prop}
variable {s : Shared}
end
section
variable {X : Cx}
end
end Cv

namespace Cv
open PySem PySem.Spec PyProof.Rows L2
/-! ### places: pairs of whole numbers, in lists -/
noncomputable abbrev Pl := Int × Int
structure PlsV (H : Hp) (vs : List V) (pl : List Pl) : Prop where
  len : vs.length = pl.length
  get : ∀ (i : Nat) v p, vs[i]? = some v → pl[i]? = some p → RwV H v p.1 p.2
section
variable {H H' : Hp} {vs : List V} {pl : List Pl}
theorem PlsV.tup (h : PlsV H vs pl) (t : Tup H H') : PlsV H' vs pl := ⟨h.len, fun i v p e1 e2 => (h.get i v p e1 e2).tup t⟩
theorem PlsV.at (h : PlsV H vs pl) {i : Nat} {p : Pl} (hp : pl[i]? = some p) : ∃ a, vs[i]? = some (.ref a) ∧ H a = some (.tup [.int p.1, .int p.2]) := by
  have hi : i < pl.length := (List.getElem?_eq_some_iff.mp hp).1
  have e : vs[i]? = some (vs[i]'(by rw [h.len]; exact hi)) := List.getElem?_eq_getElem _
  obtain ⟨a, e2, h2⟩ := h.get i _ p e hp
  exact ⟨a, by rw [e, e2], h2⟩
end
structure WayV (H : Hp) (v : V) (B kd : Int) : Prop where
  ex : ∃ (a s b : Addr) (sx sy bx by_ : Int), v = .ref a ∧ H a = some (.tup [.int B, .int kd, .ref s, .ref b]) ∧ H s = some (.tup [.int sx, .int sy]) ∧ H b = some (.tup [.int bx, .int by_]) ∧ 1 ≤ B ∧ B ≤ 1000000007 ∧ sx.natAbs ≤ 20 ∧ sy.natAbs ≤ 20 ∧ bx.natAbs ≤ 3 ∧ by_.natAbs ≤ 3
noncomputable def ptsOf (B : Int) (pl : List Pl) : List Pt := pl.map fun p => (Rat.divInt p.1 B, Rat.divInt p.2 B)
/-! ### least and greatest -/
noncomputable def LeastQ (qs : List Rat) (m : Rat) : Prop := m ∈ qs ∧ ∀ q ∈ qs, m ≤ q
noncomputable def GreatQ (qs : List Rat) (m : Rat) : Prop := m ∈ qs ∧ ∀ q ∈ qs, q ≤ m
theorem LeastQ.one {qs : List Rat} {a b : Rat} (h1 : LeastQ qs a) (h2 : LeastQ qs b) : a = b := Rat.le_antisymm (h1.2 b h2.1) (h2.2 a h1.1)
theorem GreatQ.one {qs : List Rat} {a b : Rat} (h1 : GreatQ qs a) (h2 : GreatQ qs b) : a = b := Rat.le_antisymm (h2.2 a h1.1) (h1.2 b h2.1)
theorem LeastQ.of {qs rs : List Rat} {a : Rat} (h : LeastQ qs a) (e : ∀ q, q ∈ qs ↔ q ∈ rs) : LeastQ rs a := ⟨(e a).mp h.1, fun q hq => h.2 q ((e q).mpr hq)⟩
theorem GreatQ.of {qs rs : List Rat} {a : Rat} (h : GreatQ qs a) (e : ∀ q, q ∈ qs ↔ q ∈ rs) : GreatQ rs a := ⟨(e a).mp h.1, fun q hq => h.2 q ((e q).mpr hq)⟩
structure BoxV (H : Hp) (v : V) (xs ys : List Rat) : Prop where
  ex : ∃ (a : Addr) (v1 v2 v3 v4 : V) (q1 q2 q3 q4 : Rat), v = .ref a ∧ H a = some (.tup [v1, v2, v3, v4]) ∧ ShV H v1 q1 ∧ ShV H v2 q2 ∧ ShV H v3 q3 ∧ ShV H v4 q4 ∧ LeastQ xs q1 ∧ LeastQ ys q2 ∧ GreatQ xs q3 ∧ GreatQ ys q4
theorem BoxV.of {H : Hp} {v : V} {xs ys xs' ys' : List Rat} (h : BoxV H v xs ys) (e1 : ∀ q, q ∈ xs ↔ q ∈ xs') (e2 : ∀ q, q ∈ ys ↔ q ∈ ys') : BoxV H v xs' ys' := by
  obtain ⟨a, v1, v2, v3, v4, q1, q2, q3, q4, rfl, h0, h1, h2, h3, h4, r1, r2, r3, r4⟩ := h
  exact ⟨a, v1, v2, v3, v4, q1, q2, q3, q4, rfl, h0, h1, h2, h3, h4, r1.of e1, r2.of e2, r3.of e1, r4.of e2⟩
/-! ### lists of whole numbers -/
end Cv

/-! Texts: rules for strs (k80 to k85) -/
namespace Cv
open PySem PySem.Spec PyProof.Rows L2
section
variable {X : Cx}
/-- int(text) -/
theorem call_int_text : CallR X (.type "int") (fun xs H Q => ∃ x n, xs = [.str x] ∧ PySem.intText? x = some n ∧ x.length ≤ 640 ∧ Q (.int n) H) := by
  intro pins s σ H xs us Q I r h
  obtain ⟨x, n, rfl, h1, h2, q⟩ := h
  obtain ⟨u, rfl, t, rfl⟩ := vals_one r
  exact PySem.W.KIN.call_text h1 h2 ⟨.int n, H, I.tok _, ⟨_, rfl⟩, q⟩
/-- x.startswith(y) -/
theorem mt_starts : MtR X "str.startswith" (fun x vs H Q => ∃ a b, x = .str a ∧ vs = [.str b] ∧ Q (.bl (Txt.startswith a b)) H) := by
  intro pins s σ H x vs v us Q I rx rv h
  obtain ⟨a, b, rfl, rfl, q⟩ := h
  obtain ⟨t, rfl⟩ := rx
  obtain ⟨u, rfl, t', rfl⟩ := vals_one rv
  exact SC.startswith ⟨.bl _, H, I, rfl, q⟩
theorem strs_of : ∀ {ts : List Str} {us : List Value}, Vals (ts.map V.str) us → ∃ l : List (Str × Tok), l.map (·.1) = ts ∧ us = strValues l
  | [], _, .nil => ⟨[], rfl, rfl⟩
  | t :: ts, _, .cons r rs => by
    obtain ⟨tk, rfl⟩ := r
    obtain ⟨l, h1, h2⟩ := strs_of rs
    exact ⟨(t, tk) :: l, by rw [List.map_cons, h1], by rw [h2]; rfl⟩
theorem vals_strs : ∀ (l : List (Str × Tok)), Vals ((l.map (·.1)).map V.str) (strValues l)
  | [] => .nil
  | (x, t) :: l => .cons ⟨t, rfl⟩ (vals_strs l)
theorem mt_join : MtR X "str.join" (fun x vs H Q => ∃ (a : Str) (p : Addr) (ts : List Str), x = .str a ∧ vs = [.ref p] ∧ SqL X.K H p (ts.map V.str) ∧ JoinOk a ts = true ∧ Q (.str (Txt.join a ts)) H) := by
  intro pins s σ H x vs v us Q I rx rv h
  obtain ⟨a, p, ts, rfl, rfl, hq, hj, q⟩ := h
  obtain ⟨t, rfl⟩ := rx
  obtain ⟨u, rfl, ru⟩ := vals_one rv
  cases ru
  obtain ⟨its, r, pl, hz⟩ := I.list hq
  obtain ⟨l, h1, rfl⟩ := strs_of r
  exact SC.join pl.isList h1 hj fun t' k => ⟨.str _, H, I.tok _, ⟨_, rfl⟩, q⟩
end
section
variable {X : Cx}
theorem parts_len (x y : Str) : (Builtin.Str.partsBetween x (Builtin.Str.occurrences x y 0 x.length (x.length + 1)) y.length).length ≤ x.length + 2 := by
  have h := StrLaws.occ_length_le x y 0 x.length (x.length + 1)
  rw [StrLaws.partsBetween_eq]
  have : ∀ (cuts : List Nat) (a : Nat), (StrLaws.partsFrom x y.length a cuts).length = cuts.length + 1 := by
    intro cuts
    induction cuts with
    | nil => intro a; rfl
    | cons c cuts ih => intro a; simp [StrLaws.partsFrom, ih]
  rw [this]; omega
theorem mt_split : MtR X "str.split" (fun x vs H Q => ∃ a b, x = .str a ∧ vs = [.str b] ∧ (b.length == 0) = false ∧ a.length ≤ 50000 ∧ ∀ p, H p = none → Q (.ref p) (upd H p (.lst ((Txt.split a b).map V.str)))) := by
  intro pins s σ H x vs v us Q I rx rv h
  obtain ⟨x, y, rfl, rfl, hy, hl, q⟩ := h
  obtain ⟨t, rfl⟩ := rx
  obtain ⟨u, rfl, t', rfl⟩ := vals_one rv
  have z1 : x.length ≤ sizeLine := Nat.le_of_lt (small_line (by omega))
  have z2 : (Builtin.Str.partsBetween x (Builtin.Str.occurrences x y 0 x.length (x.length + 1)) y.length).length ≤ sizeLine := Nat.le_of_lt (small_line (by have := parts_len x y; omega))
  have hn : H s.heap.objs.size = none := I.hok.fresh (Nat.le_refl _)
  have fin : ∀ (l : List (Str × Tok)) (k : Nat), l.map (·.1) = Txt.split x y → l.length ≤ sizeLine → EP X pins σ Q (.ref s.heap.objs.size) { s with heap := s.heap.push { cls := .type "list", data := .seq (strValues l).toArray }, toks := k } := fun l k hl hz => by
    refine ⟨.ref s.heap.objs.size, _, I.lnew (ys := (Txt.split x y).map V.str) (by rw [← hl]; exact vals_strs l) (by rw [← hl, List.length_map, List.length_map]; exact hz), rfl, q _ hn⟩
  cases h1 : (decide (x.length < y.length) || decide (Builtin.Str.strKind x < Builtin.Str.strKind y))
  · cases hf : (Builtin.Str.occurrences x y 0 x.length (x.length + 1)).isEmpty
    · refine call_meets F.slot_str_split (typeIs_str _ _ _) F.entry_str_split (F.args_str_split_2 _ _) (meets_str_split_sep x y t t' h1 hy hf z1 z2) ?_
      show wants _ _ _ { s with toks := _, heap := s.heap.push { cls := .type "list", data := .seq (strsFrom s.toks (Builtin.Str.partsBetween x (Builtin.Str.occurrences x y 0 x.length (x.length + 1)) y.length)).toArray } }
      rw [strsFrom_eq]
      exact fin (numbered s.toks _) _ ((numbered_texts _ _).trans ((if_neg (ne_true_of_eq_false h1)).trans (if_neg (ne_true_of_eq_false hf))).symm) (by rw [← List.length_map (f := (·.1)), numbered_texts]; exact z2)
    · exact call_meets F.slot_str_split (typeIs_str _ _ _) F.entry_str_split (F.args_str_split_2 _ _) (meets_str_split_not_found x y t t' h1 hy hf) (fin [(x, t)] s.toks ((if_neg (ne_true_of_eq_false h1)).trans (if_pos hf)).symm (by show 1 ≤ sizeLine; decide))
  · exact call_meets F.slot_str_split (typeIs_str _ _ _) F.entry_str_split (F.args_str_split_2 _ _) (meets_str_split_cannot_occur x y t t' h1) (fin [(x, t)] s.toks (if_pos h1).symm (by show 1 ≤ sizeLine; decide))
/-- x[lo:hi] of a text -/
noncomputable def rSlS : V → Option Int → Option Int → Hp → VK → Prop := fun x lo hi H Q => ∃ z, x = .str z ∧ z.length ≤ 50000 ∧ Q (.str (StrLaws.sliceText z lo hi)) H
theorem sl_str : SlR X rSlS := by
  intro pins s σ H x v vl vu lo hi sl Q I rx hs pl pu h
  obtain ⟨z, rfl, hz, q⟩ := h
  obtain ⟨t, rfl⟩ := rx
  refine ⟨"str", _, F.slot_str_getitem.lookup, typeIs_str s z t, ?_⟩
  obtain ⟨l, rfl, el⟩ : ∃ l : Option (Int × Tok), vl = partValue l ∧ l.map (·.1) = lo := by
    cases pl with
    | none => exact ⟨none, rfl, rfl⟩
    | int i t => exact ⟨some (i, t), rfl, rfl⟩
  obtain ⟨u, rfl, eu⟩ : ∃ l : Option (Int × Tok), vu = partValue l ∧ l.map (·.1) = hi := by
    cases pu with
    | none => exact ⟨none, rfl, rfl⟩
    | int i t => exact ⟨some (i, t), rfl, rfl⟩
  refine wpAny_getItem_str_slice (l := l) (u := u) (st := none) hs rfl ?_
  unfold StrLaws.sliceText at q
  unfold sliceMade slicePicked
  rw [el, eu]
  show Made.post (if ((1 : Int) == 1 && (Builtin.Str.strSliceIndices lo hi 1 z.length).length == z.length) = true then _ else _) _ s
  by_cases c : ((1 : Int) == 1 && (Builtin.Str.strSliceIndices lo hi 1 z.length).length == z.length) = true
  · rw [if_pos c] at q ⊢
    exact ⟨.str z, H, I, ⟨t, rfl⟩, q⟩
  · rw [if_neg c] at q ⊢
    refine ⟨?_, .str _, H, I.tok _, ⟨_, rfl⟩, q⟩
    have h1 := indices_len_le lo hi z.length
    have h2 := List.length_filterMap_le (fun j => z.cps[j]?) (Builtin.Str.strSliceIndices lo hi 1 z.length)
    have h3 : z.length < sizeLine := small_line (by omega)
    show (List.toArray _).size ≤ sizeLine
    rw [List.size_toArray]
    exact Nat.le_trans h2 (Nat.le_trans h1 (Nat.le_of_lt h3))
/-- the signs of a text -/
noncomputable def Its (x : Str) : It := ⟨fun i _ => i < x.cps.size, fun i H v H' => H' = H ∧ ∃ c, x.cps[i]? = some c ∧ v = .str ⟨#[c]⟩, fun i _ => x.cps.size ≤ i⟩
theorem turn_str {P : Program} {w : World} {K : PySem.W.Frag} {tg : Expr} (it : Addr) (x : Str) (t : Tok) (ty : String)
    (hn : ["enumerate", "zip", "dict_itemiterator", "dict_reverseitemiterator", "odict_iterator", "itertools.zip_longest", "itertools.pairwise"].contains ty = false)
    (W : ∀ A' : Around, A'.handled = none → Walks P w A' it [it] [it] x.cps.size (SignAt x) (fun i h => h.IsStrIter it ty x t i))
    (hend : ∀ (A : Around) (i : Nat) (s : Shared) (Q : Option Value → Shared → Prop) (E : Value → Shared → Prop), A.handled = none → s.heap.IsStrIter it ty x t i → x.cps[i]? = none → (∀ h', Heap.ExtBut it s.heap h' → Q none { s with heap := h' }) → wpAny (model P w) A (pyNext (.ref it)) Q E s)
    (hself : ∀ (A : Around) (i : Nat) (s : Shared) (Q : Value → Shared → Prop) (E : Value → Shared → Prop), s.heap.IsStrIter it ty x t i → Q (.ref it) s → wpAny (model P w) A (pyIter (.ref it)) Q E s) :
    Turn P w K tg (Its x) [it] it (fun i h => h.IsStrIter it ty x t i) where
  mem := by simp
  obj := fun i h st b hb => by
    have e : b = it := by simpa using hb
    subst e
    obtain ⟨o, e, c, d⟩ := st
    exact ⟨o, e, fun v z => by rw [d] at z; cases z⟩
  keep := fun i h h' st k => by
    obtain ⟨o, e, r⟩ := st
    exact ⟨o, k it (by simp) o e, r⟩
  item := by
    intro X hP hw hK hc i pins s σ H E I hf st hg
    subst hP hw hK
    obtain ⟨f0, f1, f2, f3, f4, f5⟩ := hf it (by simp)
    refine (W X.A (I.ok.hd hc)).item i s _ _ hg st fun v h' tk hv st' kk => ?_
    obtain ⟨c, u, hc', rfl⟩ := hv
    have I1 : Inv X pins σ H { s with heap := h', toks := tk } := I.turned (fun b o hb e => kk b o (by simpa using hb) e) f0 f1 f3 f4 f5
    obtain ⟨o, e, c', d⟩ := id st'
    exact ⟨_, rfl, go_of (s := { s with heap := h', toks := tk }) e c' d hn ⟨.str ⟨#[c]⟩, H, I1, ⟨u, rfl⟩, ⟨rfl, c, hc', rfl⟩, st', fun b hb => (hf b hb).1⟩⟩
  done := by
    intro X hP hw hK hc i pins s σ H E I hf st hg
    subst hP hw hK
    obtain ⟨f0, f1, f2, f3, f4, f5⟩ := hf it (by simp)
    have hg' : x.cps.size ≤ i := hg
    exact hend X.A i s _ _ (I.ok.hd hc) st (by simp; omega) fun h' eb => ⟨rfl, I.turned (t' := s.toks) (fun b o hb e => eb b o hb e) f0 f1 f3 f4 f5⟩
  self := fun A i s Q E st h => hself A i s Q E st h
/-- for c in text -/
noncomputable def iStr (tl : TE) : TI := fun σ H R => tl σ H fun x H1 => ∃ z, x = .str z ∧ R (Its z) H1
theorem pi_str {tg l : Expr} {tl : TE} (hl : PE X l tl) : PI X tg l (iStr tl) := by
  intro pins s σ H R I h
  refine thn (hl pins s σ H _ I h) fun v s1 ⟨x, H1, I1, r1, q1⟩ => ?_
  obtain ⟨z, rfl, q⟩ := q1
  obtain ⟨t, rfl⟩ := r1
  have fp : ∀ b ∈ [s1.heap.objs.size], FpOk X pins H1 b := fun b hb => by
    have e : b = s1.heap.objs.size := by simpa using hb
    subst e
    exact I1.fpOk (Nat.le_refl _) (I1.hok.fresh (Nat.le_refl _))
  cases ha : z.cps.all (· < 128)
  · refine wpAny_pyIter_wide ha ?_
    refine ⟨s1.heap.objs.size, [s1.heap.objs.size], _, _, H1, rfl, I1.kept (t' := s1.toks) fun b o e => Heap.get?_push_of_some _ e, turn_str _ z t "str_iterator" (by decide) (fun A' hA => Walks.strWide hA _ z t) (fun A i s Q E hh st hx k => wpAny_pyNext_wide_end hh st hx k) (fun A i s Q E st k => wpAny_pyIter_striter_wide st k), ⟨_, Heap.get?_push_size _ rfl, rfl, rfl⟩, fp, q⟩
  · refine wpAny_pyIter_ascii ha ?_
    refine ⟨s1.heap.objs.size, [s1.heap.objs.size], _, _, H1, rfl, I1.kept (t' := s1.toks) fun b o e => Heap.get?_push_of_some _ e, turn_str _ z t "str_ascii_iterator" (by decide) (fun A' hA => Walks.strAscii hA _ z t) (fun A i s Q E hh st hx k => wpAny_pyNext_ascii_end hh st hx k) (fun A i s Q E st k => wpAny_pyIter_striter_ascii st k), ⟨_, Heap.get?_push_size _ rfl, rfl, rfl⟩, fp, q⟩
theorem plain_str (x : Str) (H1 : Hp) : Plain1 (Its x) H1 x.cps.size fun i => .str ⟨#[x.cps.getD i 0]⟩ := fun H2 _ i =>
  ⟨fun hi => ⟨hi, fun v H' y => ⟨y.1, by
    obtain ⟨_, c, h1, rfl⟩ := y
    have : x.cps.getD i 0 = c := by
      rw [Array.getD_eq_getD_getElem?, h1]; rfl
    show V.str ⟨#[c]⟩ = V.str ⟨#[x.cps.getD i 0]⟩
    rw [this]⟩⟩, fun e => by subst e; exact Nat.le_refl _⟩
end
section
variable {X : Cx}
theorem kit_ss (K : PySem.W.Frag) : PySem.W.kitOne K (.type "str") (.type "str") = some true := rfl
theorem pi_strI {tg l : Expr} {tl : TE} (hl : PEi X l tl) : PIi X tg l (iStr tl) := by with_unfolding_all exact pi_str (hl := hl)
theorem mt_joinK (K : PySem.W.Frag) (hK : X.K = K := by rfl) : MtR X "str.join" (fun x vs H Q => ∃ (a : Str) (p : Addr) (ts : List Str), x = .str a ∧ vs = [.ref p] ∧ SqL K H p (ts.map V.str) ∧ JoinOk a ts = true ∧ Q (.str (Txt.join a ts)) H) := by subst hK; exact mt_join
end
end Cv

/-! Mathematics of texts (k80 to k85) -/
namespace Cv
open PySem PySem.Spec PyProof.Rows L2
/-- the figures of a number -/
noncomputable def dg (m : Nat) : List Nat := (Nat.toDigits 10 m).map Char.toNat
noncomputable def tN (i : Int) : Str := Str.ofString (toString i)
theorem tN_nat (m : Nat) : (tN (m : Int)).cps.toList = dg m := PySem.W.KIN.signs_num m
theorem str_ext {a b : Str} (h : a.cps.toList = b.cps.toList) : a = b := by
  cases a; cases b
  simp at h
  rw [h]
theorem cps_app (a b : Str) : (a ++ b).cps.toList = a.cps.toList ++ b.cps.toList := by
  show (a.cps ++ b.cps).toList = _
  simp
theorem tN_neg (m : Nat) : (tN (-((m + 1 : Nat) : Int))).cps.toList = 45 :: dg (m + 1) := by
  have e : toString (-((m + 1 : Nat) : Int)) = "-" ++ toString (m + 1) := rfl
  unfold tN
  rw [e, signs_ofString]
  show ("-" ++ Nat.repr (m + 1)).toList.map Char.toNat = _
  rw [String.toList_append, List.map_append, Nat.toList_repr]
  rfl
theorem dg_step {n d : Nat} (hn : 0 < n) (hd : d < 10) : dg (10 * n + d) = dg n ++ [48 + d] := by
  unfold dg
  rw [← Nat.toDigits_append_toDigits (by decide) hn hd, List.map_append, Nat.toDigits_of_lt_base hd]
  congr 1
  have : ∀ d : Nat, d < 10 → [Nat.digitChar d].map Char.toNat = [48 + d] := by decide
  exact this d hd
theorem dg_lt {d : Nat} (hd : d < 10) : dg d = [48 + d] := by
  unfold dg
  rw [Nat.toDigits_of_lt_base hd]
  have : ∀ d : Nat, d < 10 → [Nat.digitChar d].map Char.toNat = [48 + d] := by decide
  exact this d hd
theorem dg_len_pos (m : Nat) : 1 ≤ (dg m).length := by
  unfold dg
  rw [List.length_map]
  exact PySem.toDigits_len_ge 10 m
theorem dg_len {k m : Nat} (hk : 1 ≤ k) (h : m < 10 ^ k) : (dg m).length ≤ k := by
  unfold dg
  rw [List.length_map]
  exact toDigits_len_pow (by decide) hk h
theorem dg_digit (m : Nat) : ∀ c ∈ dg m, 48 ≤ c ∧ c ≤ 57 := fun c hc => by
  unfold dg at hc
  obtain ⟨ch, h1, h2⟩ := List.mem_map.mp hc
  have r := digit_range (Nat.isDigit_of_mem_toDigits (by decide) (by decide) h1)
  rw [← h2]
  exact r
/-- the first figure is nought for nought alone -/
theorem dg_head : ∀ (m : Nat), 0 < m → ∃ c r, dg m = c :: r ∧ 49 ≤ c ∧ c ≤ 57 := by
  intro m
  induction m using Nat.strongRecOn with
  | _ m ih =>
    intro h
    by_cases h10 : m < 10
    · exact ⟨48 + m, [], dg_lt h10, by omega, by omega⟩
    · obtain ⟨c, r, e, h1, h2⟩ := ih (m / 10) (by omega) (by omega)
      have := dg_step (n := m / 10) (d := m % 10) (by omega) (Nat.mod_lt _ (by decide))
      rw [Nat.div_add_mod, e] at this
      exact ⟨c, _, this, h1, h2⟩
theorem tN_reads {m : Nat} (h : (dg m).length ≤ 640) : PySem.intText? (tN (m : Int)) = some (m : Int) := by
  have hc := tN_nat m
  have hd : PySem.NumText.AllDigits (tN (m : Int)).cps.toList := by
    rw [hc]
    intro c hc'
    exact dg_digit m c hc'
  have hne : (tN (m : Int)).cps.toList ≠ [] := by
    rw [hc]
    intro e
    have := dg_len_pos m
    rw [e] at this
    simp at this
  have e := PySem.intText_digits hd hne (by rw [Str.length, ← Array.length_toList, hc]; omega)
  rw [hc] at e
  have v : PySem.NumText.digitsVal (dg m) = m := PySem.W.KIN.val_back m
  rw [v] at e
  exact e
/-! ### split of what was joined -/
/-- a separator by which a text is parted at one sign alone: the sign at the place m, which stands not ahead of it -/
structure Sep (sep : Str) (c m : Nat) : Prop where
  at_ : sep.cps.toList[m]? = some c
  pre : ∀ j, j < m → sep.cps.toList[j]? ≠ some c
  len : 1 ≤ sep.length
noncomputable def jn (sep : List Nat) : List (List Nat) → List Nat
  | [] => []
  | [p] => p
  | p :: q :: r => p ++ sep ++ jn sep (q :: r)
theorem join_cps (sep : Str) : ∀ ts : List Str, (Str.join sep ts).cps.toList = jn sep.cps.toList (ts.map (·.cps.toList))
  | [] => rfl
  | [p] => rfl
  | p :: q :: r => by
    have ih := join_cps sep (q :: r)
    show (p ++ sep ++ Str.join sep (q :: r)).cps.toList = _
    rw [cps_app, cps_app, ih]
    rfl
theorem at_cps {x y : Str} {k : Nat} (h : StrLaws.At x y x.length k) : ∀ j (c : Nat), y.cps.toList[j]? = some c → x.cps.toList[k + j]? = some c := fun j c hj => by
  have h2 := h.2
  rw [StrLaws.subAt_eq] at h2
  have e : (x.cps.toList.drop k).take y.length = y.cps.toList := by simpa using h2
  have hj' : j < y.length := by
    have := (List.getElem?_eq_some_iff.mp hj).1
    simpa [Str.length] using this
  rw [← e, List.getElem?_take_of_lt hj', List.getElem?_drop] at hj
  exact hj
theorem cps_at {x y : Str} {k : Nat} (h : k + y.length ≤ x.length) (e : (x.cps.toList.drop k).take y.length = y.cps.toList) : StrLaws.At x y x.length k := by
  refine ⟨h, ?_⟩
  rw [StrLaws.subAt_eq, e]
  simp
theorem not_at {x sep : Str} {c m a : Nat} {p rest : List Nat} (S : Sep sep c m) (hp : c ∉ p) (hx : x.cps.toList.drop a = p ++ rest) (hr : ∀ j, j < m → rest[j]? ≠ some c) {k : Nat} (h1 : a ≤ k) (h2 : k < a + p.length) : ¬ StrLaws.At x sep x.length k := fun h => by
  have e := at_cps h m c S.at_
  have e2 : (x.cps.toList.drop a)[k - a + m]? = some c := by rw [List.getElem?_drop, show a + (k - a + m) = k + m by omega]; exact e
  rw [hx] at e2
  by_cases hlt : k - a + m < p.length
  · rw [List.getElem?_append_left hlt] at e2
    exact hp (List.mem_of_getElem? e2)
  · rw [List.getElem?_append_right (by omega)] at e2
    exact hr _ (by omega) e2
theorem no_at {x sep : Str} {c m a : Nat} {p : List Nat} (S : Sep sep c m) (hp : c ∉ p) (hx : x.cps.toList.drop a = p) {k : Nat} (h1 : a ≤ k) : ¬ StrLaws.At x sep x.length k := fun h => by
  have e := at_cps h m c S.at_
  have e2 : (x.cps.toList.drop a)[k - a + m]? = some c := by rw [List.getElem?_drop, show a + (k - a + m) = k + m by omega]; exact e
  rw [hx] at e2
  exact hp (List.mem_of_getElem? e2)
theorem parts_jn {x sep : Str} {c m : Nat} (S : Sep sep c m) : ∀ (ps : List (List Nat)) (a : Nat) (cuts : List Nat) (f : Nat), ps ≠ [] → (∀ p ∈ ps, c ∉ p) → a ≤ x.length → x.cps.toList.drop a = jn sep.cps.toList ps →
    StrLaws.ChainG x sep x.length a cuts f → (∀ k, f ≤ k → ¬ StrLaws.At x sep x.length k) → (StrLaws.partsFrom x sep.length a cuts).map (·.cps.toList) = ps
  | [], a, cuts, f, h, _, _, _, _, _ => absurd rfl h
  | [p], a, cuts, f, _, hf, ha, hx, hc, _ => by
    have hp := hf p (by simp)
    cases cuts with
    | cons c0 r => exact absurd hc.2.1 (no_at S hp hx hc.1)
    | nil =>
      show [(Builtin.Str.strSub x a x.length).cps.toList] = [p]
      rw [StrLaws.strSub_toList, hx]
      have : p.length ≤ x.length - a := by
        have := congrArg List.length hx
        rw [List.length_drop, Array.length_toList] at this
        show (jn sep.cps.toList [p]).length ≤ x.cps.size - a
        omega
      show [p.take (x.length - a)] = [p]
      rw [List.take_of_length_le this]
  | p :: q :: r, a, cuts, f, _, hf, ha, hx, hc, hend => by
    have hp := hf p (by simp)
    have hx' : x.cps.toList.drop a = p ++ (sep.cps.toList ++ jn sep.cps.toList (q :: r)) := by rw [hx]; show p ++ sep.cps.toList ++ _ = _; rw [List.append_assoc]
    have sl : sep.cps.toList.length = sep.length := by simp [Str.length]
    have hlen := congrArg List.length hx'
    rw [List.length_drop, List.length_append, List.length_append, Array.length_toList, sl] at hlen
    have hxl : x.cps.size = x.length := rfl
    rw [hxl] at hlen
    have hm : m < sep.cps.toList.length := (List.getElem?_eq_some_iff.mp S.at_).1
    have hat : StrLaws.At x sep x.length (a + p.length) := by
      refine cps_at (by omega) ?_
      rw [← List.drop_drop, hx', List.drop_left', ← sl, List.take_left']
      · rfl
      · rfl
    have hnot : ∀ k, a ≤ k → k < a + p.length → ¬ StrLaws.At x sep x.length k := fun k h1 h2 => not_at S hp hx' (fun j hj => by rw [List.getElem?_append_left (by omega)]; exact S.pre j hj) h1 h2
    cases cuts with
    | nil =>
      have e : f = a := hc
      subst e
      exact absurd hat (hend _ (by omega))
    | cons c0 r' =>
      obtain ⟨h1, h2, h3, h4⟩ := hc
      have e0 : c0 = a + p.length := by
        rcases Nat.lt_trichotomy c0 (a + p.length) with z | z | z
        · exact absurd h2 (hnot c0 h1 z)
        · exact z
        · exact absurd hat (h3 _ (by omega) z)
      subst e0
      have hd : x.cps.toList.drop (a + p.length + sep.length) = jn sep.cps.toList (q :: r) := by
        rw [← List.drop_drop, ← List.drop_drop, hx', List.drop_left', ← sl, List.drop_left']
        · rfl
        · rfl
      have ih := parts_jn S (q :: r) (a + p.length + sep.length) r' f (by simp) (fun p' h' => hf p' (List.mem_cons_of_mem _ h')) (by omega) hd h4 hend
      show (Builtin.Str.strSub x a (a + p.length)).cps.toList :: (StrLaws.partsFrom x sep.length (a + p.length + sep.length) r').map (·.cps.toList) = _
      rw [ih, StrLaws.strSub_toList, hx', show a + p.length - a = p.length by omega, List.take_left']
      rfl
theorem kind_ge (x : Str) : 1 ≤ Builtin.Str.strKind x := by
  unfold Builtin.Str.strKind
  split
  · decide
  · split <;> decide
theorem split_jn {x sep : Str} {c m : Nat} (S : Sep sep c m) (hk : Builtin.Str.strKind sep = 1) {ps : List (List Nat)} (hne : ps ≠ []) (hf : ∀ p ∈ ps, c ∉ p) (hx : x.cps.toList = jn sep.cps.toList ps) : (Txt.split x sep).map (·.cps.toList) = ps := by
  obtain ⟨f, hc, hend⟩ := StrLaws.occ_tight x sep S.len
  have key := parts_jn S ps 0 _ f hne hf (Nat.zero_le _) (by rw [List.drop_zero]; exact hx) hc hend
  have one : ∀ h : StrLaws.ChainG x sep x.length 0 [] f, [x].map (·.cps.toList) = ps := fun h => by
    have := parts_jn S ps 0 [] f hne hf (Nat.zero_le _) (by rw [List.drop_zero]; exact hx) h hend
    rw [← this]
    show [x.cps.toList] = [(Builtin.Str.strSub x 0 x.length).cps.toList]
    rw [StrLaws.sub_whole]
  have kx := kind_ge x
  unfold Txt.split
  by_cases h1 : (decide (x.length < sep.length) || decide (Builtin.Str.strKind x < Builtin.Str.strKind sep)) = true
  · rw [if_pos h1]
    have hl : x.length < sep.length := by
      simp only [Bool.or_eq_true, decide_eq_true_eq] at h1
      omega
    refine one ?_
    cases he : Builtin.Str.occurrences x sep 0 x.length (x.length + 1) with
    | nil => rw [he] at hc; exact hc
    | cons c0 r =>
      rw [he] at hc
      have := hc.2.1.1
      omega
  · rw [if_neg h1]
    by_cases h2 : (Builtin.Str.occurrences x sep 0 x.length (x.length + 1)).isEmpty = true
    · rw [if_pos h2]
      refine one ?_
      rw [List.isEmpty_iff.mp h2] at hc
      exact hc
    · rw [if_neg h2, StrLaws.partsBetween_eq]
      exact key
end Cv

namespace Cv
open PySem PySem.Spec PyProof.Rows L2
section
variable {X : Cx}
end
section
variable {K : PySem.W.Frag} {J : It} {H1 : Hp} {te : TE} {cs : L2.St} {Q : VK} {n : Nat}
end
end Cv

namespace Cv
open PySem PySem.Spec PyProof.Rows L2
/-! ### a list comprehension of two clauses -/
section
variable {prog : Program} {w : World} {A : Around} {R : Result → Shared → Prop} {s : Shared}
end
section
variable {X : Cx}
end
end Cv

namespace Cv
open PySem PySem.Spec PyProof.Rows L2
/-! ### lists of new lists -/
structure LsV (H1 H2 : Hp) (D : Addr) (ys : List V) (R : Nat → List V → Hp → Prop) : Prop where
  get : ∀ (i : Nat) (v : V), ys[i]? = some v → ∃ (l : Addr) (xs : List V), v = V.ref l ∧ H1 l = none ∧ l ≠ D ∧ H2 l = some (HO.lst xs) ∧ R i xs H2
  one : ∀ (i j : Nat) (v : V), ys[i]? = some v → ys[j]? = some v → i = j
section
variable {K : PySem.W.Frag} {J : It} {H1 : Hp} {te : TE} {cs : L2.St} {Q : VK} {n : Nat}
theorem compL {f : Nat → V} (hJ : Plain1 J H1 n f) (hn : n ≤ 100000) (R : Nat → List V → Hp → Prop) (hR : ∀ i v H H', Tup H H' → R i v H → R i v H')
    (he : ∀ i H2 (k : VK), i < n → Same H1 H2 → (∀ l xs H3, Same H2 H3 → H2 l = none → H3 l = some (.lst xs) → R i xs H3 → k (.ref l) H3) → te (some (f i) :: cs) H2 k)
    (hq : ∀ D ys H2, H1 D = none → Same H1 H2 → H2 D = some (.lst ys) → ys.length = n → LsV H1 H2 D ys R → Q (.ref D) H2) :
    CompGoal 1 J H1 (gName 0) te cs Q := by
  intro D hD
  refine ⟨fun i m ys H2 => m = n - i ∧ i ≤ n ∧ ys.length = i ∧ Same H1 H2 ∧ H2 D = some (.lst ys) ∧ LsV H1 H2 D ys R, ⟨n, by simp, Nat.zero_le _, rfl, Same.new hD, upd_same, ⟨fun j v e => by simp at e, fun i j v e => by simp at e⟩⟩, ?_⟩
  rintro i m ys H2 ⟨rfl, hi, hl, s2, d2, r2⟩
  by_cases hlt : i < n
  · refine .inr ⟨((hJ H2 s2 i).1 hlt).1, fun x H' y own ho => ?_⟩
    obtain ⟨rfl, rfl⟩ := ((hJ H2 s2 i).1 hlt).2 x H' y
    cases own with
    | nil => cases ho
    | cons o1 r =>
      cases r with
      | cons _ _ => cases ho
      | nil =>
        refine ⟨⟨[some (f i)], rfl, rfl⟩, he i _ _ hlt s2 fun l xs H3 s3 hl0 hl3 r3 => ⟨s3 _ _ d2, small_line (by omega), n - (i + 1), by omega, rfl, hlt, by rw [List.length_append, hl]; rfl, fun b o e => ?_, upd_same, ?_⟩⟩
        · rw [upd_ne (ne_of_none e hD)]; exact s3 _ _ (s2 _ _ e)
        · have t3 : Tup H3 (upd H3 D (.lst (ys ++ [V.ref l]))) := Tup.lst (s3 _ _ d2)
          have nD : l ≠ D := fun e => by rw [e, d2] at hl0; cases hl0
          have snocc : ∀ j w, (ys ++ [V.ref l])[j]? = some w → (ys[j]? = some w ∧ j < i) ∨ (j = i ∧ w = V.ref l) := fun j w e => by
            by_cases hj : j < ys.length
            · rw [List.getElem?_append_left hj] at e
              exact .inl ⟨e, by omega⟩
            · rw [List.getElem?_append_right (by omega)] at e
              have hj0 : j - ys.length = 0 := by
                cases q : j - ys.length with
                | zero => rfl
                | succ k => rw [q] at e; simp at e
              rw [hj0] at e
              exact .inr ⟨by omega, by simpa using e.symm⟩
          refine ⟨fun j w e => ?_, fun j1 j2 w e1 e2 => ?_⟩
          · rcases snocc j w e with ⟨e, _⟩ | ⟨rfl, rfl⟩
            · obtain ⟨l', xs', rfl, a1, a2, a3, a4⟩ := r2.get j w e
              exact ⟨l', xs', rfl, a1, a2, by rw [upd_ne a2]; exact s3 _ _ a3, hR _ _ _ _ (s3.tup.trans t3) a4⟩
            · exact ⟨l, xs, rfl, s2.free hl0, nD, by rw [upd_ne nD]; exact hl3, hR _ _ _ _ t3 r3⟩
          · rcases snocc j1 w e1 with ⟨f1, g1⟩ | ⟨rfl, rfl⟩
            · rcases snocc j2 w e2 with ⟨f2, g2⟩ | ⟨rfl, rfl⟩
              · exact r2.one j1 j2 w f1 f2
              · obtain ⟨l', xs', e', a1, a2, a3, a4⟩ := r2.get j1 _ f1
                cases e'
                rw [a3] at hl0; cases hl0
            · rcases snocc j2 _ e2 with ⟨f2, g2⟩ | ⟨rfl, _⟩
              · obtain ⟨l', xs', e', a1, a2, a3, a4⟩ := r2.get j2 _ f2
                cases e'
                rw [a3] at hl0; cases hl0
              · rfl
  · have e : i = n := by omega
    subst e
    exact .inl ⟨(hJ H2 s2 i).2 rfl, hq D ys H2 hD s2 d2 hl r2⟩
end
theorem LsV.base {H0 H1 H2 : Hp} {D : Addr} {ys : List V} {R : Nat → List V → Hp → Prop} (h : LsV H1 H2 D ys R) (s : Same H0 H1) : LsV H0 H2 D ys R :=
  ⟨fun i v e => by obtain ⟨l, xs, e1, e2, e3⟩ := h.get i v e; exact ⟨l, xs, e1, s.free e2, e3⟩, h.one⟩
end Cv

namespace Cv
open PySem PySem.Spec PyProof.Rows L2
section
variable {X : Cx}
theorem pi_listKI (K : PySem.W.Frag) {tg l : Expr} {tl : TE} (hl : PEi X l tl) (hK : X.K = K := by rfl) : PIi X tg l (iList K tl) := by subst hK; exact pi_listI hl
end
end Cv

namespace Cv
open PySem PySem.Spec PyProof.Rows L2
/-! ### a class of the module and its methods -/
structure ClsK (K : PySem.W.Frag) (mg : Str → Option Value) (x : Str) (C : Addr) : Prop where
  cl : Cls K C
  makes : PySem.W.makesIn K C = true
  kp : PySem.W.keepIn K (.ref C) = true
  at_ : mg x = some (.ref C)
structure MthAt (K : PySem.W.Frag) (C : Addr) (m q : Str) (st : Stmt) (ps : List Str) : Prop where
  ex : ∃ (f : Addr) (fd : FuncData), Fun K m q st f fd ∧ Meth K C m f ∧ Binds K fd ps []
structure MthOk (P : Program) (w : World) (K : PySem.W.Frag) (mg : Str → Option Value) (base : Heap) (CX : CXT) (k : Nat) (C : Addr) (m : Str) (ps : List Str) (sp : Sp) : Prop where
  ex : ∃ (f : Addr) (fd : FuncData), FnOk P w K mg base CX k f fd ps sp ∧ Meth K C m f ∧ Binds K fd ps []
section
variable {P : Program} {w : World} {K : PySem.W.Frag} {mg : Str → Option Value} {base : Heap}
theorem MthAt.mk' {C : Addr} {m q : Str} {st : Stmt} {ps : List Str} {f : Addr} {oc : Value} {od an : Option Addr} {osl : Array (Option Value)} {kV doc pm cdv ct : Value} (hm : PySem.W.findIn K (.ref C) m = some (some (.ref f))) (hi : PySem.W.isFn K (.ref f) = true)
    (l : K.lookup f = some ⟨oc, od, .func (PySem.W.fnOf m q (defArgs st) (defBody st) (defScope st) .none kV doc pm an cdv ct), osl⟩)
    (c : PySem.W.codeIn K cdv q = true) (k : PySem.W.keepIn K (.ref f) = true)
    (h : ∀ (kV doc pm : Value) (an : Option Addr) (cdv ct : Value) (us : List Value), us.length = ps.length → bindArgs (PySem.W.fnOf m q (defArgs st) (defBody st) (defScope st) .none kV doc pm an cdv ct) ⟨us, []⟩ = pure (ps.zip us)) : MthAt K C m q st ps := by
  have F := fun_mk (st := st) l c k
  exact ⟨_, _, F, ⟨hm, hi, k⟩, F.binds h⟩
theorem mth_ok {C : Addr} {m q : Str} {st : Stmt} {N ps : List Str} {k : Nat} {sp : Sp} (F : MthAt K C m q st ps) (S : FnScope N ps (defScope st)) (len : ∀ vs H Q E, sp vs H Q E → vs.length = ps.length)
    (hbody : ∀ (f : Addr) (cdv : Value) (A : Around) (outer : List Env) (s : Shared) (H : Hp) (vs : List V) (Q : VK) (E : XK), Room k (A.deeper (envOfC q (defScope st) s.heap.objs.size f cdv)) → sp vs H Q E →
      ∃ t, PSsi (cxOf CX0 P w K mg base N q (defScope st) f cdv A outer s H E).nox (defBody st) t ∧ t { nx := fun _ H' => Q .non H', rt := Q } (start N vs) H) : MthOk P w K mg base CX0 (k + 1) C m ps sp := by
  obtain ⟨f, fd, F, hm, hb⟩ := F.ex
  refine ⟨f, fd, F.ok S len fun cdv A outer s H vs Q E hr h => ?_, hm, hb⟩
  obtain ⟨t, h1, h2⟩ := hbody f cdv A outer s H vs Q E hr h
  exact ⟨t, by unfold PSsi at h1; exact h1, h2⟩
theorem mth_okX {C : Addr} {m q : Str} {st : Stmt} {N ps : List Str} {k : Nat} {sp : Sp} (F : MthAt K C m q st ps) (S : FnScope N ps (defScope st)) (len : ∀ vs H Q E, sp vs H Q E → vs.length = ps.length)
    (hbody : ∀ (f : Addr) (cdv : Value) (A : Around) (outer : List Env) (s : Shared) (H : Hp) (vs : List V) (Q : VK) (E : XK), Room k (A.deeper (envOfC q (defScope st) s.heap.objs.size f cdv)) → sp vs H Q E →
      ∃ t, PSsi (cxOf (CXx P w) P w K mg base N q (defScope st) f cdv A outer s H E) (defBody st) t ∧ t { nx := fun _ H' => Q .non H', rt := Q } (start N vs) H) : MthOk P w K mg base (CXx P w) (k + 1) C m ps sp := by
  obtain ⟨f, fd, F, hm, hb⟩ := F.ex
  obtain ⟨oc, od, kV, doc, pm, an, cdv, ct, osl, rfl, lk, hcd⟩ := F.ex
  refine ⟨f, _, fn_of lk hcd S len fun A outer s H vs Q E hr h => ?_, hm, hb⟩
  obtain ⟨t, h1, h2⟩ := hbody f cdv A outer s H vs Q E hr h
  exact ⟨t, by unfold PSsi at h1; exact h1, h2⟩
end
section
variable {X : Cx} {CX : CXT} {k j : Nat} {ps : List Str} {sp : Sp} {E : XK} {x m : Str} {p pos apos : Pos} {o e : Expr} {es : List Expr} {t : TA} {ta : TE} {C : Addr}
noncomputable def tMk (C : Addr) (sp : Sp) (E : XK) (t : TA) : TE := fun σ H Q => t σ H fun vs H1 => ∀ x dx, H1 x = none → H1 dx = none → dx ≠ x →
  sp (.ref x :: vs) (upd (upd H1 dx (.own x)) x (.ins C dx [])) (fun v H2 => v = .non ∧ Q (.ref x) H2) E
theorem pe_mk (T : ClsK X.K X.mg x C) (D : MthOk X.prog X.w X.K X.mg X.base CX k C "__init__" ps sp) (hr : Room j X.A) (hx : Passes CX X E) (ha : PA X (e :: es) t) (hk : k + 1 ≤ j := by decide) (hg : Gl X x := by rfl)
    (hdb : (x == ("__debug__" : Str)) = false := by decide) (he : starEach (e :: es) X.env = (false, eval e X.env) :: starEach es X.env := by rfl) (hpl : (backTo pos (starEach es X.env)).any (·.1) = false := by rfl) :
    PE X (.Call (.Name x p) (e :: es) [] pos) (tMk C sp E t) := by
  obtain ⟨f, fd, F, hm, hb⟩ := D.ex
  intro pins s σ H Q I h
  have q := pe_make (X := X) (p := p) (pos := pos) ⟨T.makes, hm.at_, hm.fn, T.kp⟩ F (hr.mono hk) hg T.at_ hb .nil hx ha hdb he hpl
  refine q pins s σ H Q I ?_
  unfold tMk at h
  have e : (fun (vs : List V) (H1 : Hp) => ∀ x dx, H1 x = none → H1 dx = none → dx ≠ x → sp (.ref x :: (vs ++ [])) (upd (upd H1 dx (.own x)) x (.ins C dx [])) (fun v H2 => v = .non ∧ Q (.ref x) H2) E) = fun vs H1 => ∀ x dx, H1 x = none → H1 dx = none → dx ≠ x → sp (.ref x :: vs) (upd (upd H1 dx (.own x)) x (.ins C dx [])) (fun v H2 => v = .non ∧ Q (.ref x) H2) E := by
    funext vs H1
    rw [List.append_nil]
  unfold tMake
  rw [e]
  exact h
noncomputable def tMth (C : Addr) (m : Str) (sp : Sp) (E : XK) (ta : TE) (t : TA) : TE := fun σ H Q => ta σ H fun x H1 => ∃ a dx fs, x = .ref a ∧ H1 a = some (.ins C dx fs) ∧ fs.lookup m = none ∧ t σ H1 fun vs H2 => sp (x :: vs) H2 Q E
theorem pe_mth0 {pl : Sem Bool} (T : ClsK X.K X.mg x C) (D : MthOk X.prog X.w X.K X.mg X.base CX k C m ps sp) (he : PE X o ta) (hr : Room j X.A) (hx : Passes CX X E) (hk : k ≤ j := by decide)
    (ht : eval (.Call (.Attribute o m apos) [] [] pos) X.env = (do
      let ov ← eval o X.env
      standAt apos.atName
      let (f, first) ← holding [ov] (getMethod ov m pl)
      callWith pos f first (backTo pos (starEach [] X.env)) (backToKw pos (keywordEach [] X.env))) := by rfl) :
    PE X (.Call (.Attribute o m apos) [] [] pos) (tMth C m sp E ta tNil) := by
  obtain ⟨f, fd, F, hm, hb⟩ := D.ex
  intro pins s σ H Q I h
  refine pe_meth0 (X := X) (pos := pos) (apos := apos) (pl := pl) he T.cl hm F (hr.mono hk) hb .nil hx ht pins s σ H Q I ?_
  unfold tMth at h
  unfold tMeth
  simp only [List.append_nil]
  exact h
theorem pe_mkI (T : ClsK X.K X.mg x C) (D : MthOk X.prog X.w X.K X.mg X.base CX k C "__init__" ps sp) (hr : Room j X.A) (hx : Passes CX X E) (ha : PAi X (e :: es) t) (hk : k + 1 ≤ j := by decide) (hg : Gl X x := by rfl)
    (hdb : (x == ("__debug__" : Str)) = false := by decide) (he : starEach (e :: es) X.env = (false, eval e X.env) :: starEach es X.env := by rfl) (hpl : (backTo pos (starEach es X.env)).any (·.1) = false := by rfl) :
    PEi X (.Call (.Name x p) (e :: es) [] pos) (tMk C sp E t) := by with_unfolding_all exact pe_mk T D hr hx ha hk hg hdb he hpl
theorem pe_mth0I {pl : Sem Bool} (T : ClsK X.K X.mg x C) (D : MthOk X.prog X.w X.K X.mg X.base CX k C m ps sp) (he : PEi X o ta) (hr : Room j X.A) (hx : Passes CX X E) (hk : k ≤ j := by decide)
    (ht : eval (.Call (.Attribute o m apos) [] [] pos) X.env = (do
      let ov ← eval o X.env
      standAt apos.atName
      let (f, first) ← holding [ov] (getMethod ov m pl)
      callWith pos f first (backTo pos (starEach [] X.env)) (backToKw pos (keywordEach [] X.env))) := by rfl) :
    PEi X (.Call (.Attribute o m apos) [] [] pos) (tMth C m sp E ta tNil) := by with_unfolding_all exact pe_mth0 (pl := pl) T D he hr hx hk ht
theorem pe_fldI {f : Str} (he : PEi X e ta) (hb : attributeBase e f X.env (eval e X.env) = eval e X.env := by rfl) : PEi X (.Attribute e f pos) (tFld X.K ta f) := by with_unfolding_all exact pe_fld he hb
theorem ps_fldI {f : Str} {pos' : Pos} {value : Expr} {tv : TE} (ha : PEi X o ta) (hv : PEi X value tv) (hs : swapsWith value (some (.Attribute o f pos')) pos.line X.env = pure false := by rfl) : PSi X (.Assign [.Attribute o f pos'] value pos) (sFld X.K ta tv f) := by with_unfolding_all exact ps_fld ha hv hs
end
/-! ### isinstance of an exception and a tuple of classes -/
section
variable {X : Cx}
end
end Cv

namespace Cv
open PySem PySem.Spec PyProof.Rows L2
/-! ### list(zip(a, b)): a zip whose tuples are kept -/
section
variable {prog : Program} {w : World} {A : Around} {E : Value → Shared → Prop} {s : Shared}
end
section
variable {X : Cx} {pins : List (Addr × Obj)} {σ : L2.St} {A : Around}
end
end Cv

namespace Cv
open PySem PySem.Spec PyProof.Rows L2
/-! ### powers of an axis: whole numbers -/
/-! ### seats of powers: sums -/
/-! ### the point by powers -/
/-! ### sizes -/
/-! ### promises -/
theorem AxV.mono {H : Hp} {v : V} {n m : Nat} {t b : List Int} (h : AxV H v n t b) (hn : n ≤ m) : AxV H v m t b := by
  obtain ⟨a, lt, lb, e, h1, h2, h3, h4, r⟩ := h
  exact ⟨a, lt, lb, e, h1, h2, h3, fun x hx => (h4 x hx).mono hn, r⟩
end Cv

namespace Cv
open PySem PySem.Spec PyProof.Rows L2
/-! ### range that goes down by one -/
section
variable {X : Cx} {tg : Expr}
end
/-! ### raising -/
/-- the k-th raised number -/
noncomputable def rr (N : Nat) (g : Nat → Rat) (k : Nat) : Rat := ((((N : Int) : Rat) - ((k : Int) : Rat)) * g k + ((k : Int) : Rat) * g (k - 1)) / ((N : Int) : Rat)
/-! promises -/
end Cv

namespace Cv
open PySem PySem.Spec PyProof.Rows L2
/-! ### joins: powers behind the end -/
noncomputable def sg : Nat → Rat
  | 0 => 1
  | k + 1 => -(sg k)
/-! ### speeds by whole numbers -/
/-- how often they are alike -/
structure Cnt (E : Nat → Prop) (most : Nat) (r : Int) : Prop where
  lo : -1 ≤ r
  hi : r ≤ most
  all : ∀ j : Nat, (j : Int) ≤ r → E j
  stop : r = most ∨ ¬ E (r + 1).toNat
theorem Cnt.one {E : Nat → Prop} {most : Nat} {r s : Int} (h1 : Cnt E most r) (h2 : Cnt E most s) : r = s := by
  have key : ∀ {r s : Int}, Cnt E most r → Cnt E most s → ¬ r < s := fun {r s} h1 h2 hlt => by
    have := h1.lo
    have := h2.hi
    rcases h1.stop with q | q
    · omega
    · exact q (h2.all _ (by omega))
  have a := key h1 h2
  have b := key h2 h1
  omega
/-! ### differences of places -/
theorem PlsV.nil (H : Hp) : PlsV H [] [] := ⟨rfl, fun i v p e => by simp at e⟩
/-! ### promises -/
section
variable {X : Cx}
end
theorem PlsV.drop {H : Hp} {vs : List V} {p : List Pl} (h : PlsV H vs p) (n : Nat) : PlsV H (vs.drop n) (p.drop n) := by
  have hl := h.len
  refine ⟨by rw [List.length_drop, List.length_drop, hl], fun i v r e1 e2 => ?_⟩
  rw [List.getElem?_drop] at e1 e2
  exact h.get _ v r e1 e2
end Cv

namespace Cv
open PySem PySem.Spec PyProof.Rows L2
/-! ### lists of shares, the module's among them -/
structure ShLK (K : PySem.W.Frag) (H : Hp) (vs : List V) (qs : List Rat) : Prop where
  len : vs.length = qs.length
  get : ∀ (i : Nat) v q, vs[i]? = some v → qs[i]? = some q → ShK K H v q
section
variable {K : PySem.W.Frag} {H H' : Hp} {vs : List V} {qs : List Rat}
theorem ShLK.tup (h : ShLK K H vs qs) (t : Tup H H') : ShLK K H' vs qs := ⟨h.len, fun i v q e1 e2 => (h.get i v q e1 e2).tup t⟩
theorem ShL.k (h : ShL H vs qs) : ShLK K H vs qs := ⟨h.len, fun i v q e1 e2 => (h.get i v q e1 e2).k⟩
theorem ShLK.map {ps : List Pt} {f : Pt → Rat} {ys : List V} (hl : ys.length = ps.length) (h : ∀ (i : Nat) v, ys[i]? = some v → ∀ p, ps[i]? = some p → ShK K H v (f p)) : ShLK K H ys (ps.map f) := by
  refine ⟨by rw [hl, List.length_map], fun i v q e1 e2 => ?_⟩
  rw [List.getElem?_map] at e2
  cases e3 : ps[i]? with
  | none => rw [e3] at e2; cases e2
  | some p =>
    rw [e3] at e2
    cases e2
    exact h i v e1 p e3
end
/-! ### onward -/
/-! ### promises -/
end Cv

namespace Cv
open PySem PySem.Spec PyProof.Rows L2
/-! ### reversed(range(n)), walked -/
section
variable {prog : Program} {w : World} {A : Around} {E : Value → Shared → Prop} {s : Shared}
end
section
variable {X : Cx} {tg : Expr}
end
/-! ### e[:0:-1], a list -/
section
variable {X : Cx}
end
end Cv

namespace Cv
open PySem PySem.Spec PyProof.Rows L2
/-! ### through points: the steps beside them, by whole numbers -/
end Cv
namespace Cv
open PySem PySem.Spec PyProof.Rows L2
/-! ### the lists of steps_beside -/
end Cv
namespace Cv
open PySem PySem.Spec PyProof.Rows L2
end Cv
namespace Cv
open PySem PySem.Spec PyProof.Rows L2
end Cv
namespace Cv
open PySem PySem.Spec PyProof.Rows L2
end Cv

namespace Cv
open PySem PySem.Spec PyProof.Rows L2
/-! ### the curves through points -/
end Cv
namespace Cv
open PySem PySem.Spec PyProof.Rows L2
end Cv
namespace Cv
open PySem PySem.Spec PyProof.Rows L2
end Cv

namespace Cv
/-! ### stretches by halving whole numbers -/
noncomputable def toP (dx dy : Int) (c : List Pl) : List Pt := c.map fun p => (Rat.divInt p.1 dx, Rat.divInt p.2 dy)
noncomputable def Dvs (k : Nat) (c : List Pl) : Prop := ∀ p ∈ c, (2 : Int) ^ k ∣ p.1 ∧ (2 : Int) ^ k ∣ p.2
noncomputable def SzQ (n : Nat) (c : List Pl) : Prop := ∀ p ∈ c, Sz n p.1 ∧ Sz n p.2
theorem toP_len (dx dy : Int) (c : List Pl) : (toP dx dy c).length = c.length := by unfold toP; rw [List.length_map]
theorem two_dvd {j k : Nat} (h : j ≤ k) : (2 : Int) ^ j ∣ 2 ^ k := ⟨2 ^ (k - j), by rw [← Int.pow_add]; congr 1; omega⟩
theorem Dvs.mono {k j : Nat} {c : List Pl} (h : Dvs k c) (hj : j ≤ k) : Dvs j c := fun p hp =>
  ⟨Int.dvd_trans (two_dvd hj) (h p hp).1, Int.dvd_trans (two_dvd hj) (h p hp).2⟩
noncomputable def hp : Nat → Rat
  | 0 => 1
  | d + 1 => hp d * (1 / 2)
end Cv

namespace Cv
open PySem PySem.Spec PyProof.Rows L2
/-! ### promises of the stretches -/
/-- a list of lists of places -/
structure CsV (H : Hp) (D : Option Addr) (ys : List V) (css : List (List Pl)) : Prop where
  len : ys.length = css.length
  get : ∀ (i : Nat) (v : V) (c : List Pl), ys[i]? = some v → css[i]? = some c → ∃ (l : Addr) (us : List V), v = .ref l ∧ some l ≠ D ∧ H l = some (.lst us) ∧ PlsV H us c
theorem CsV.at {H : Hp} {D : Option Addr} {ys : List V} {css : List (List Pl)} (h : CsV H D ys css) {i : Nat} {c : List Pl} (hc : css[i]? = some c) : ∃ (l : Addr) (us : List V), ys[i]? = some (.ref l) ∧ H l = some (.lst us) ∧ PlsV H us c := by
  have hi : i < css.length := (List.getElem?_eq_some_iff.mp hc).1
  have e : ys[i]? = some (ys[i]'(by rw [h.len]; exact hi)) := List.getElem?_eq_getElem _
  obtain ⟨l, us, r1, r2, r3, r4⟩ := h.get i _ c e hc
  exact ⟨l, us, by rw [e, r1], r3, r4⟩
/-! ### the halves of each of a list of curves -/
theorem CsV.upd {H : Hp} {D : Addr} {ys zs ws : List V} {css : List (List Pl)} (h : CsV H (some D) ys css) (hD : H D = some (.lst zs)) : CsV (upd H D (.lst ws)) (some D) ys css := by
  refine ⟨h.len, fun i v c e1 e2 => ?_⟩
  obtain ⟨l, us, r1, r2, r3, r4⟩ := h.get i v c e1 e2
  have n : l ≠ D := fun z => r2 (by rw [z])
  exact ⟨l, us, r1, r2, by rw [upd_ne n]; exact r3, r4.tup (Tup.lst hD)⟩
end Cv
namespace Cv
open PySem PySem.Spec PyProof.Rows L2
theorem Plain2.congr {K : PySem.W.Frag} {J : It} {H1 : Hp} {n m : Nat} {f g f' g' : Nat → V} (h : Plain2 K J H1 n f g) (hn : n = m) (hf : ∀ i, i < n → f i = f' i) (hg : ∀ i, i < n → g i = g' i) : Plain2 K J H1 m f' g' := fun H2 s i => by
  subst hn
  refine ⟨fun hi => ⟨((h H2 s i).1 hi).1, fun x H' y => ?_⟩, (h H2 s i).2⟩
  have q := ((h H2 s i).1 hi).2 x H' y
  rw [hf i hi, hg i hi] at q
  exact q
end Cv
namespace Cv
open PySem PySem.Spec PyProof.Rows L2
end Cv
namespace Cv
open PySem PySem.Spec PyProof.Rows L2
theorem LsV.mono {H1 H2 : Hp} {D : Addr} {ys : List V} {R R' : Nat → List V → Hp → Prop} (h : LsV H1 H2 D ys R) (f : ∀ i xs, i < ys.length → R i xs H2 → R' i xs H2) : LsV H1 H2 D ys R' :=
  ⟨fun i v e => by obtain ⟨l, xs, e1, e2, e3, e4, e5⟩ := h.get i v e; exact ⟨l, xs, e1, e2, e3, e4, f i xs (List.getElem?_eq_some_iff.mp e).1 e5⟩, h.one⟩
end Cv
namespace Cv
open PySem PySem.Spec PyProof.Rows L2
/-! ### the law's two curves -/
end Cv
namespace Cv
open PySem PySem.Spec PyProof.Rows L2
/-! ### lists of curves, compared -/
noncomputable def PssV (H : Hp) (us : List V) (n : Nat) (qs : Nat → List Pt) : Prop := us.length = n ∧ ∀ (i : Nat) (v : V), us[i]? = some v → ∃ (l : Addr) (xs : List V), v = .ref l ∧ H l = some (.lst xs) ∧ PtsV H xs (qs i)
theorem PssV.same {H H' : Hp} {us : List V} {n : Nat} {qs : Nat → List Pt} (h : PssV H us n qs) (s : Same H H') : PssV H' us n qs :=
  ⟨h.1, fun i v e => by obtain ⟨l, xs, e1, e2, e3⟩ := h.2 i v e; exact ⟨l, xs, e1, s _ _ e2, e3.same s⟩⟩
theorem PssV.at {H : Hp} {us : List V} {n : Nat} {qs : Nat → List Pt} (h : PssV H us n qs) {i : Nat} (hi : i < n) : ∃ (l : Addr) (xs : List V), us[i]? = some (.ref l) ∧ H l = some (.lst xs) ∧ PtsV H xs (qs i) := by
  have e : us[i]? = some (us[i]'(by rw [h.1]; exact hi)) := List.getElem?_eq_getElem _
  obtain ⟨l, xs, e1, e2, e3⟩ := h.2 i _ e
  exact ⟨l, xs, by rw [e, e1], e2, e3⟩
noncomputable def datCs (qs : List (List Pt)) : PySem.W.Dat := .list (qs.map datPts)
theorem datCs_ok (qs : List (List Pt)) (n : Nat) : PySem.W.kqdOk (n + 4) (datCs qs) = true := by
  have h : ∀ p : List Pt, PySem.W.kqdOk (n + 3) (datPts p) = true := fun p => datPts_ok p n
  simp [datCs, PySem.W.kqdOk, h]
theorem dnAll_cs {K : PySem.W.Frag} {H : Hp} : ∀ {n : Nat} {qs : Nat → List Pt} {vs : List V}, PssV H vs n qs → DnAll K H (((List.range n).map qs).map datPts) vs
  | 0, qs, vs, h => by
    have : vs = [] := List.length_eq_zero_iff.mp h.1
    subst this
    simp [DnAll]
  | n + 1, qs, vs, h => by
    cases vs with
    | nil => have := h.1; simp at this
    | cons v vs =>
      rw [List.range_succ_eq_map, List.map_cons, List.map_cons, List.map_map (g := qs)]
      simp only [DnAll]
      obtain ⟨l, xs, rfl, hl, hP⟩ := h.2 0 v rfl
      exact ⟨_, vs, rfl, dnP hl hP, dnAll_cs (n := n) (qs := qs ∘ Nat.succ) ⟨by have := h.1; simpa using this, fun i w e => h.2 (i + 1) w (by simpa using e)⟩⟩
theorem dnCs {K : PySem.W.Frag} {H : Hp} {a : Addr} {n : Nat} {qs : Nat → List Pt} {vs : List V} (hs : H a = some (.lst vs)) (h : PssV H vs n qs) : Dn K H (datCs ((List.range n).map qs)) (.ref a) := by
  unfold datCs
  simp only [Dn]
  exact ⟨a, vs, rfl, SqL.of hs, dnAll_cs h⟩
theorem PssV.drop {H : Hp} {us : List V} {n k : Nat} {qs : Nat → List Pt} (h : PssV H us n qs) (hk : k ≤ n) : PssV H (us.drop k) (n - k) (fun i => qs (k + i)) :=
  ⟨by rw [List.length_drop, h.1], fun i v e => by rw [List.getElem?_drop] at e; exact h.2 (k + i) v e⟩
end Cv
namespace Cv
open PySem PySem.Spec PyProof.Rows L2
/-- all but the first i of the told lists stays -/
structure But (us : List V) (i : Nat) (H H' : Hp) : Prop where
  keep : ∀ b o, H b = some o → (∀ j, j < i → us[j]? ≠ some (.ref b)) → H' b = some o
theorem But.tup {us : List V} {i : Nat} {H H' : Hp} (h : But us i H H') (hl : ∀ (j : Nat) (l : Addr), us[j]? = some (.ref l) → ∃ xs, H l = some (.lst xs)) : Tup H H' := fun b xs e => h.keep b _ e fun j hj z => by
  obtain ⟨ys, hy⟩ := hl j b z
  rw [e] at hy; cases hy
theorem But.first {us : List V} {i : Nat} {H0 H H' : Hp} {f : Addr} {qs : Nat → List Pt} (h : But us i H H') (hL : LsV H0 H f us fun i xs H => PtsV H xs (qs i)) {n : Nat} (hn : us.length = n) (hi : i ≤ n) : PssV H' (us.drop i) (n - i) (fun j => qs (i + j)) := by
  have tp := h.tup fun j l e => by obtain ⟨l', xs, e1, _, _, e4, _⟩ := hL.get j _ e; cases e1; exact ⟨xs, e4⟩
  refine ⟨by rw [List.length_drop, hn], fun j v e => ?_⟩
  rw [List.getElem?_drop] at e
  obtain ⟨l, xs, rfl, e2, e3, e4, e5⟩ := hL.get (i + j) v e
  refine ⟨l, xs, rfl, h.keep l _ e4 fun j' hj' z => ?_, e5.tup tp⟩
  have := hL.one _ _ _ e z
  omega
theorem LsV.pss {H0 H : Hp} {f : Addr} {us : List V} {qs : Nat → List Pt} (hL : LsV H0 H f us fun i xs H => PtsV H xs (qs i)) {n : Nat} (hn : us.length = n) : PssV H us n qs :=
  ⟨hn, fun j v e => by obtain ⟨l, xs, e1, e2, e3, e4, e5⟩ := hL.get j v e; exact ⟨l, xs, e1, e4, e5⟩⟩
end Cv

namespace Cv
open PySem PySem.Spec PyProof.Rows L2
/-! ### paths -/
noncomputable def headQ (q : List Pt) : Option Pt := q[0]?
noncomputable def lastQ (q : List Pt) : Option Pt := q[q.length - 1]?
noncomputable def Joined (n : Nat) (qs : Nat → List Pt) : Prop := ∀ i, i + 1 < n → lastQ (qs i) = headQ (qs (i + 1))
noncomputable def partsF (lp : Addr) : List (Str × V) := putF "parts" (.ref lp) []
noncomputable def spCopied (K : PySem.W.Frag) : Sp := fun vs H Q _ => ∃ (a : Addr) (us : List V) (n : Nat) (qs : Nat → List Pt), vs = [.ref a] ∧ H a = some (.lst us) ∧ PssV H us n qs ∧ n ≤ 1000 ∧
  ∀ (l : Addr) (ks : List V) (H' : Hp), Same H H' → H l = none → H' l = some (.lst ks) → ks.length = n → LsV H H' l ks (fun i xs H => PtsV H xs (qs i)) → Q (.ref l) H'
noncomputable def spInit (K : PySem.W.Frag) (C CN : Addr) : Sp := fun vs H Q E => ∃ (x a dx : Addr) (us : List V) (n : Nat) (qs : Nat → List Pt), vs = [.ref x, .ref a] ∧ H x = some (.ins C dx []) ∧ H a = some (.lst us) ∧ PssV H us n qs ∧ n ≤ 1000 ∧ (∀ i, i < n → 1 ≤ (qs i).length) ∧
  ((1 ≤ n ∧ n ≤ 12 ∧ Joined n qs ∧ ∀ (lp : Addr) (ks : List V) (H1 : Hp), Same H H1 → H lp = none → H1 lp = some (.lst ks) → ks.length = n → LsV H H1 lp ks (fun i xs H => PtsV H xs (qs i)) → Q .non (upd H1 x (.ins C dx (partsF lp)))) ∨
    (¬ (1 ≤ n ∧ n ≤ 12 ∧ Joined n qs) ∧ ∀ H', Same H H' → E (.ref CN) none H'))
structure PathAt (C : Addr) (H : Hp) (p lp : Addr) (ks : List V) (n : Nat) (qs : Nat → List Pt) : Prop where
  ob : ∃ dx, H p = some (.ins C dx (partsF lp))
  ls : H lp = some (.lst ks)
  pt : PssV H ks n qs
noncomputable def spCurves (K : PySem.W.Frag) (C : Addr) : Sp := fun vs H Q _ => ∃ (p lp : Addr) (ks : List V) (n : Nat) (qs : Nat → List Pt), vs = [.ref p] ∧ PathAt C H p lp ks n qs ∧ n ≤ 1000 ∧
  ∀ (l : Addr) (us : List V) (H' : Hp), Same H H' → H l = none → H' l = some (.lst us) → us.length = n → LsV H H' l us (fun i xs H => PtsV H xs (qs i)) → Q (.ref l) H'
theorem parts_get (lp : Addr) : (partsF lp).lookup ("parts" : Str) = some (.ref lp) := by
  unfold partsF
  rw [lookup_putF, if_pos rfl]
theorem parts_no (lp : Addr) {m : Str} (h : ¬ m = "parts") : (partsF lp).lookup m = none := by
  unfold partsF
  rw [lookup_putF, if_neg h]
  rfl
theorem getQ {q : List Pt} {i : Nat} (h : i < q.length) : q[i]? = some (q[i]'h) := List.getElem?_eq_getElem _
theorem joined_all {n : Nat} {qs : Nat → List Pt} (h : Joined n qs) : ((List.range (n - 1)).map fun i => decide (lastQ (qs i) = headQ (qs (i + 1)))).all id = true := by
  rw [List.all_eq_true]
  intro b hb
  obtain ⟨i, hi, rfl⟩ := List.mem_map.mp hb
  exact decide_eq_true (h i (by have := List.mem_range.mp hi; omega))
theorem all_joined {n : Nat} {qs : Nat → List Pt} (h : ((List.range (n - 1)).map fun i => decide (lastQ (qs i) = headQ (qs (i + 1)))).all id = true) : Joined n qs := fun i hi => by
  rw [List.all_eq_true] at h
  exact of_decide_eq_true (h _ (List.mem_map.mpr ⟨i, List.mem_range.mpr (by omega), rfl⟩))
theorem bls_ext {us : List V} {n : Nat} {f : Nat → Bool} (hl : us.length = n) (h : ∀ (i : Nat) v, us[i]? = some v → v = V.bl (f i)) : us = ((List.range n).map f).map V.bl := by
  refine List.ext_getElem? fun i => ?_
  by_cases hi : i < n
  · have e : us[i]? = some (us[i]'(by omega)) := List.getElem?_eq_getElem _
    rw [e, h i _ e, List.getElem?_map, List.getElem?_map, List.getElem?_range hi]; rfl
  · rw [List.getElem?_eq_none (by omega), List.getElem?_eq_none (by rw [List.length_map, List.length_map, List.length_range]; omega)]
end Cv
namespace Cv
open PySem PySem.Spec PyProof.Rows L2
/-! ### the law's own path -/
structure JoinedI (css : List (List Pl)) : Prop where
  ne : ∀ c ∈ css, 1 ≤ c.length ∧ c.length ≤ 10
  sz : ∀ c ∈ css, SzQ 110 c
  jn : ∀ (i : Nat) (a b : List Pl), css[i]? = some a → css[i + 1]? = some b → a[a.length - 1]? = b[0]?
noncomputable def qsOf (B : Int) (css : List (List Pl)) (i : Nat) : List Pt := ptsOf B ((css[i]?).getD [])
noncomputable def Apart (css : List (List Pl)) : Prop := ∃ (i : Nat) (a b : List Pl), css[i]? = some a ∧ css[i + 1]? = some b ∧ a[a.length - 1]? ≠ b[0]?
theorem ptsOf_len' (B : Int) (pl : List Pl) : (ptsOf B pl).length = pl.length := by unfold ptsOf; rw [List.length_map]
theorem ptsOf_get (B : Int) (pl : List Pl) (i : Nat) : (ptsOf B pl)[i]? = (pl[i]?).map fun p => (Rat.divInt p.1 B, Rat.divInt p.2 B) := by unfold ptsOf; rw [List.getElem?_map]
theorem divInt_inj {x y B : Int} (hB : B ≠ 0) (h : Rat.divInt x B = Rat.divInt y B) : x = y := by
  rw [divInt_cast, divInt_cast] at h
  have b0 : (B : Rat) ≠ 0 := fun z => hB (Rat.intCast_inj.mp (z.trans (Rat.intCast_zero).symm))
  have : (x : Rat) = (y : Rat) := by grind
  exact Rat.intCast_inj.mp this
theorem of_ends {B : Int} (hB : B ≠ 0) {a b : List Pl} (h : lastQ (ptsOf B a) = headQ (ptsOf B b)) : a[a.length - 1]? = b[0]? := by
  unfold lastQ headQ at h
  rw [ptsOf_len', ptsOf_get, ptsOf_get] at h
  cases e1 : a[a.length - 1]? with
  | none =>
    rw [e1] at h
    cases e2 : b[0]? with
    | none => rfl
    | some q => rw [e2] at h; cases h
  | some p =>
    rw [e1] at h
    cases e2 : b[0]? with
    | none => rw [e2] at h; cases h
    | some q =>
      rw [e2] at h
      have h' := Option.some.inj h
      rw [Prod.mk.injEq] at h'
      rw [Prod.ext (divInt_inj hB h'.1) (divInt_inj hB h'.2)]
theorem qsOf_some {B : Int} {css : List (List Pl)} {i : Nat} {c : List Pl} (h : css[i]? = some c) : qsOf B css i = ptsOf B c := by unfold qsOf; rw [h]; rfl
theorem Apart.not {css : List (List Pl)} (h : Apart css) {B : Int} (hB : B ≠ 0) : ¬ Joined css.length (qsOf B css) := fun hj => by
  obtain ⟨i, a, b, e1, e2, n⟩ := h
  have hi : i + 1 < css.length := (List.getElem?_eq_some_iff.mp e2).1
  have := hj i hi
  rw [qsOf_some e1, qsOf_some e2] at this
  exact n (of_ends hB this)
theorem JoinedI.nil : JoinedI [] := ⟨fun _ h => (nomatch h), fun _ h => (nomatch h), fun i a b e => by simp at e⟩
end Cv
namespace Cv
open PySem PySem.Spec PyProof.Rows L2
theorem WayV.tup {H H' : Hp} {v : V} {B kd : Int} (h : WayV H v B kd) (t : Tup H H') : WayV H' v B kd := by
  obtain ⟨a, s, b, sx, sy, bx, by_, rfl, h1, h2, h3, r⟩ := h
  exact ⟨a, s, b, sx, sy, bx, by_, rfl, t _ _ h1, t _ _ h2, t _ _ h3, r⟩
theorem PlsV.cons {H : Hp} {us : List V} {pl : List Pl} {v : V} {x y : Int} (hv : RwV H v x y) (h : PlsV H us pl) : PlsV H (v :: us) ((x, y) :: pl) := by
  refine ⟨by rw [List.length_cons, List.length_cons, h.len], fun i w q e1 e2 => ?_⟩
  cases i with
  | zero => cases e1; cases e2; exact hv
  | succ i => exact h.get i w q (by simpa using e1) (by simpa using e2)
theorem CsV.drop {H : Hp} {D : Option Addr} {ys : List V} {css : List (List Pl)} (h : CsV H D ys css) : CsV H none ys css :=
  ⟨h.len, fun i v c e1 e2 => by obtain ⟨l, us, q1, q2, q3, q4⟩ := h.get i v c e1 e2; exact ⟨l, us, q1, (fun z => by cases z), q3, q4⟩⟩
end Cv
namespace Cv
open PySem PySem.Spec PyProof.Rows L2
end Cv
namespace Cv
open PySem PySem.Spec PyProof.Rows L2
end Cv
namespace Cv
open PySem PySem.Spec PyProof.Rows L2
theorem But.base {us : List V} {i : Nat} {H0 H H' : Hp} (h : But us i H H') (s : Same H0 H) (hn : ∀ (j : Nat) (l : Addr), us[j]? = some (.ref l) → H0 l = none) : Same H0 H' := fun b o e => h.keep b o (s _ _ e) fun j hj z => by
  rw [hn j b z] at e; cases e
theorem LsV.there {H1 H2 : Hp} {D : Addr} {ys : List V} {R : Nat → List V → Hp → Prop} (h : LsV H1 H2 D ys R) (j : Nat) (l : Addr) (e : ys[j]? = some (.ref l)) : ∃ xs, H2 l = some (.lst xs) := by
  obtain ⟨l', xs, e1, _, _, e4, _⟩ := h.get j _ e
  cases e1; exact ⟨xs, e4⟩
/-- an instance's fields are told: the lists stay -/
theorem LsV.ins {H1 H2 : Hp} {D x : Addr} {ys : List V} {qs : Nat → List Pt} {o o' : HO} (h : LsV H1 H2 D ys fun i xs H => PtsV H xs (qs i)) (hx : H1 x = some o) (hx2 : H2 x = some o) (ho : ∀ xs, o ≠ .tup xs) : LsV H1 (upd H2 x o') D ys fun i xs H => PtsV H xs (qs i) :=
  ⟨fun j v e => by
    obtain ⟨l', xs, e1, e2, e3, e4, e5⟩ := h.get j v e
    have n : l' ≠ x := fun z => by rw [z, hx] at e2; cases e2
    refine ⟨l', xs, e1, e2, e3, by rw [upd_ne n]; exact e4, e5.tup fun b zs ez => ?_⟩
    rw [upd_ne (fun z => by rw [z, hx2] at ez; exact ho zs (Option.some.inj ez))]; exact ez, h.one⟩
theorem PssV.nil (H : Hp) : PssV H [] 0 (fun _ => []) := ⟨rfl, fun i v e => nomatch (show (none : Option V) = some v from e)⟩
/-- the path stays where lists that are not its own are changed -/
theorem PathAt.upd {C : Addr} {H : Hp} {x lp l : Addr} {ks ls : List V} {n : Nat} {qs : Nat → List Pt} {o : HO} (h : PathAt C H x lp ks n qs) (hl : H l = some (.lst ls)) (h1 : l ≠ lp) (h2 : ∀ j : Nat, ks[j]? ≠ some (.ref l)) : PathAt C (L2.upd H l o) x lp ks n qs := by
  obtain ⟨⟨dx, q1⟩, q2, q3⟩ := h
  refine ⟨⟨dx, by rw [upd_ne (fun z => by rw [z, hl] at q1; cases q1)]; exact q1⟩, by rw [upd_ne (fun z => h1 z.symm)]; exact q2, q3.1, fun j v e => ?_⟩
  obtain ⟨l', xs, rfl, e2, e3⟩ := q3.2 j v e
  exact ⟨l', xs, rfl, by rw [upd_ne (fun z => h2 j (by rw [← z]; exact e))]; exact e2, e3.tup (Tup.lst hl)⟩
end Cv
namespace Cv
open PySem PySem.Spec PyProof.Rows L2
end Cv
namespace Cv
open PySem PySem.Spec PyProof.Rows L2
end Cv

namespace Cv
/-! ### rows of whole numbers -/
end Cv

namespace Cv
open PySem PySem.Spec PyProof.Rows L2
/-! order of a share's top and bottom -/
end Cv
namespace Cv
open PySem PySem.Spec PyProof.Rows L2
theorem CsV.one {H : Hp} {D : Option Addr} {l : Addr} {us : List V} {c : List Pl} (hD : some l ≠ D) (h1 : H l = some (.lst us)) (h2 : PlsV H us c) : CsV H D [.ref l] [c] :=
  ⟨rfl, fun i v c' e1 e2 => by
    cases i with
    | zero => cases e1; cases e2; exact ⟨l, us, rfl, hD, h1, h2⟩
    | succ i => simp at e1⟩
end Cv
namespace Cv
open PySem PySem.Spec PyProof.Rows L2
end Cv
namespace Cv
open PySem PySem.Spec PyProof.Rows L2
noncomputable def OnT (n : Nat) (v : V) (H : Hp) : Prop := ∃ t : Rat, ShV H v t ∧ Bd 101 t ∧ 0 ≤ t.num ∧ t.num ≤ n * (t.den : Int)
theorem OnT.tup {n : Nat} {v : V} {H H' : Hp} (h : OnT n v H) (s : Tup H H') : OnT n v H' := by
  obtain ⟨t, h1, h2⟩ := h
  exact ⟨t, h1.tup s, h2⟩
theorem OnT.int {n k : Nat} {a : Addr} {H : Hp} (h : H a = some (.tup [.int (k : Int), .int 1])) (hk : k ≤ n) (hn : n ≤ 12) : OnT n (.ref a) H := by
  refine ⟨((k : Int) : Rat), ShV.int h, Bd.mono (Bd.intc (n := 20) (sz_of (b := 16) (by omega) (by decide))) (by decide), by rw [Rat.num_intCast]; omega, ?_⟩
  rw [Rat.num_intCast, Rat.den_intCast]; omega
end Cv

namespace Cv
/-! ### a path cut in two, a path turned -/
/-! the point at k + s -/
/-! order -/
/-! joined parts -/
/-! sizes -/
/-! turned -/
end Cv

namespace Cv
open PySem PySem.Spec PyProof.Rows L2
theorem PssV.congr {H : Hp} {us : List V} {n m : Nat} {qs qs' : Nat → List Pt} (h : PssV H us n qs) (hn : n = m) (hq : ∀ i, i < n → qs i = qs' i) : PssV H us m qs' :=
  ⟨by rw [h.1, hn], fun i v e => by
    have hi : i < n := by have := (List.getElem?_eq_some_iff.mp e).1; rw [h.1] at this; exact this
    rw [← hq i hi]; exact h.2 i v e⟩
/-- a new path of a list of curves -/
theorem PathAt.made {C : Addr} {H H1 : Hp} {x dx lp : Addr} {ks : List V} {n : Nat} {qs : Nat → List Pt} (hx : H x = some (.ins C dx [])) (s : Same H H1) (hlp : H lp = none) (hp : H1 lp = some (.lst ks)) (hn : ks.length = n) (hL : LsV H H1 lp ks fun i xs H => PtsV H xs (qs i)) : PathAt C (L2.upd H1 x (.ins C dx (partsF lp))) x lp ks n qs := by
  have nlx : lp ≠ x := fun e => by rw [e, hx] at hlp; cases hlp
  exact ⟨⟨dx, upd_same⟩, by rw [upd_ne nlx]; exact hp, (hL.ins (o' := .ins C dx (partsF lp)) hx (s _ _ hx) (fun xs z => by cases z)).pss hn⟩
theorem same_ins {H : Hp} {x dx C : Addr} (hx : H x = none) (hdx : H dx = none) : Same H (L2.upd (L2.upd H dx (.own x)) x (.ins C dx [])) := fun b o e => by rw [upd_ne (ne_of_none e hx), upd_ne (ne_of_none e hdx)]; exact e
end Cv

namespace Cv
open PySem PySem.Spec PyProof.Rows L2
end Cv

namespace Cv
open PySem PySem.Spec PyProof.Rows L2
/-- a share strictly within a path -/
noncomputable def InT (n : Nat) (v : V) (H : Hp) : Prop := ∃ t : Rat, ShV H v t ∧ Bd 40 t ∧ 0 < t.num ∧ t.num < n * (t.den : Int)
theorem InT.tup {n : Nat} {v : V} {H H' : Hp} (h : InT n v H) (s : Tup H H') : InT n v H' := by
  obtain ⟨t, h1, h2⟩ := h
  exact ⟨t, h1.tup s, h2⟩
theorem InT.int {n : Nat} {k : Int} {a : Addr} {H : Hp} (h : H a = some (.tup [.int k, .int 1])) (h0 : 0 < k) (hk : k < n) (hn : n ≤ 12) : InT n (.ref a) H := by
  refine ⟨(k : Rat), ShV.int h, Bd.mono (Bd.intc (n := 20) (sz_of (b := 16) (by omega) (by decide))) (by decide), by rw [Rat.num_intCast]; exact h0, ?_⟩
  rw [Rat.num_intCast, Rat.den_intCast]; omega
noncomputable def OutT (n : Nat) (v : V) (H : Hp) : Prop := ∃ t : Rat, ShV H v t ∧ Bd 101 t ∧ ¬ (0 < t.num ∧ t.num < n * (t.den : Int))
theorem OutT.tup {n : Nat} {v : V} {H H' : Hp} (h : OutT n v H) (s : Tup H H') : OutT n v H' := by
  obtain ⟨t, h1, h2⟩ := h
  exact ⟨t, h1.tup s, h2⟩
theorem OutT.int {n : Nat} {k : Int} {a : Addr} {H : Hp} (h : H a = some (.tup [.int k, .int 1])) (hk : k = 0 ∨ k = n) (hn : n ≤ 12) : OutT n (.ref a) H := by
  refine ⟨(k : Rat), ShV.int h, Bd.mono (Bd.intc (n := 20) (sz_of (b := 16) (by omega) (by decide))) (by decide), ?_⟩
  rw [Rat.num_intCast, Rat.den_intCast]; omega
end Cv

/-! Mathematics of a parting: why the walk round the differences ends (k50 to k65). -/
namespace Cv
/-- the turn between two steps -/
noncomputable def cr (p q : Int × Int) : Int := p.1 * q.2 - p.2 * q.1
/-- along a way -/
noncomputable def dt (w d : Int × Int) : Int := w.1 * d.1 + w.2 * d.2
theorem cr_self (p : Int × Int) : cr p p = 0 := by unfold cr; grind
/-- the way amid two steps -/
noncomputable def amid (r l : Int × Int) : Int × Int := (l.2 - r.2, r.1 - l.1)
end Cv

/-! xs.index(y) of a list of whole numbers -/
namespace Cv
open PySem PySem.Spec PyProof.Rows L2
section
variable {X : Cx}
end
end Cv

/-! Promises of partings (k50 to k65) -/
namespace Cv
open PySem PySem.Spec PyProof.Rows L2
noncomputable def SzW (n : Nat) (p : Pl) : Prop := Sz n p.1 ∧ Sz n p.2
/-- a step across: its two parts and where it comes from -/
noncomputable abbrev Stp := Pl × Int × Int
noncomputable def StV (H : Hp) (v : V) (s : Stp) : Prop := ∃ a : Addr, v = .ref a ∧ H a = some (.tup [.int s.1.1, .int s.1.2, .int s.2.1, .int s.2.2])
structure StsV (H : Hp) (vs : List V) (ss : List Stp) : Prop where
  len : vs.length = ss.length
  get : ∀ (i : Nat) v s, vs[i]? = some v → ss[i]? = some s → StV H v s
theorem StsV.at {H : Hp} {vs : List V} {ss : List Stp} (h : StsV H vs ss) {i : Nat} {s : Stp} (e : ss[i]? = some s) : ∃ a, vs[i]? = some (.ref a) ∧ H a = some (.tup [.int s.1.1, .int s.1.2, .int s.2.1, .int s.2.2]) := by
  have hi : i < ss.length := (List.getElem?_eq_some_iff.mp e).1
  have e1 : vs[i]? = some (vs[i]'(by rw [h.len]; exact hi)) := List.getElem?_eq_getElem _
  obtain ⟨a, e2, h2⟩ := h.get i _ s e1 e
  exact ⟨a, by rw [e1, e2], h2⟩
/-- the steps that hold the origin among them -/
noncomputable def Holds0 (ss : List Stp) : Prop := (∃ r, ss = [r] ∧ r.1 = (0, 0)) ∨ (∃ r f, ss = [r, f] ∧ cr r.1 f.1 = 0 ∧ dt r.1 f.1 ≤ 0 ∧ r.1 ≠ (0, 0)) ∨ (∃ r l f, ss = [r, l, f] ∧ 0 < cr r.1 l.1 ∧ cr r.1 f.1 ≤ 0 ∧ cr f.1 l.1 ≤ 0)
/-- each step goes from a place of one to a place of the other -/
noncomputable def Across (pl ql : List Pl) (s : Stp) : Prop := ∃ (i j : Nat) (p q : Pl), pl[i]? = some p ∧ ql[j]? = some q ∧ s = ((q.1 - p.1, q.2 - p.2), (i : Int), (j : Int))
end Cv
namespace Cv
open PySem PySem.Spec PyProof.Rows L2
/-- all steps across -/
theorem Across.sz {n : Nat} {pl ql : List Pl} {s : Stp} (h : Across pl ql s) (zp : SzQ n pl) (zq : SzQ n ql) : SzW (n + 1) s.1 := by
  obtain ⟨i, j, p, q, h1, h2, rfl⟩ := h
  have a := zp _ (List.mem_of_getElem? h1)
  have b := zq _ (List.mem_of_getElem? h2)
  exact ⟨Sz.mono (Sz.sub b.1 a.1) (by omega), Sz.mono (Sz.sub b.2 a.2) (by omega)⟩
noncomputable def RLok (r l : Stp) : Prop := (r = l ∧ r.1 ≠ (0, 0)) ∨ 0 < cr r.1 l.1
theorem RLok.ne {r l : Stp} (h : 0 < cr r.1 l.1) : r ≠ l := fun e => by subst e; rw [cr_self] at h; omega
theorem SzQ.mono {n m : Nat} {c : List Pl} (h : SzQ n c) (e : n ≤ m) : SzQ m c := fun p hp => ⟨(h p hp).1.mono e, (h p hp).2.mono e⟩
end Cv

namespace Cv
open PySem PySem.Spec PyProof.Rows L2
end Cv

namespace Cv
open PySem PySem.Spec PyProof.Rows L2
end Cv
namespace Cv
open PySem PySem.Spec PyProof.Rows L2
end Cv
namespace Cv
open PySem PySem.Spec PyProof.Rows L2
end Cv
namespace Cv
open PySem PySem.Spec PyProof.Rows L2
end Cv

/-! Common shares, lines told (k50, k51, k62) -/
namespace Cv
open PySem PySem.Spec PyProof.Rows L2
theorem StV.tup {H H' : Hp} {v : V} {s : Stp} (h : StV H v s) (e : Tup H H') : StV H' v s := by
  obtain ⟨a, rfl, h⟩ := h
  exact ⟨a, rfl, e _ _ h⟩
theorem StsV.tup {H H' : Hp} {vs : List V} {ss : List Stp} (h : StsV H vs ss) (e : Tup H H') : StsV H' vs ss := ⟨h.len, fun i v s e1 e2 => (h.get i v s e1 e2).tup e⟩
/-! ### mathematics of steps that come to nought -/
noncomputable def HoldsS (ss : List Stp) : Prop := (∃ r, ss = [r] ∧ r.1 = (0, 0)) ∨ (∃ r f, ss = [r, f] ∧ cr r.1 f.1 = 0 ∧ r.1.1 * f.1.1 ≤ 0 ∧ r.1.2 * f.1.2 ≤ 0 ∧ r.1 ≠ (0, 0)) ∨ (∃ r l f, ss = [r, l, f] ∧ 0 < cr r.1 l.1 ∧ cr r.1 f.1 ≤ 0 ∧ cr f.1 l.1 ≤ 0)
theorem sq_nn (a : Int) : 0 ≤ a * a := by
  rcases Int.le_total 0 a with h | h
  · exact Int.mul_nonneg h h
  · have := Int.mul_nonneg (show 0 ≤ -a by omega) (show 0 ≤ -a by omega); grind
theorem sign_of {a b c d : Int} (h : a * d - b * c = 0) (h2 : a * c + b * d ≤ 0) : a * c ≤ 0 := by
  rcases Int.lt_or_le 0 (a * c) with z | z
  · exfalso
    have e : (b * d) * (a * c) = (b * c) * (b * c) := by
      have : a * d = b * c := by omega
      grind
    have p := sq_nn (b * c)
    rw [← e] at p
    have : b * d < 0 := by omega
    have := Int.mul_neg_of_neg_of_pos this z
    omega
  · exact z
theorem Holds0.s {ss : List Stp} (h : Holds0 ss) : HoldsS ss := by
  rcases h with h | ⟨r, f, e, h1, h2, h3⟩ | h
  · exact .inl h
  · refine .inr (.inl ⟨r, f, e, h1, ?_, ?_, h3⟩)
    · exact sign_of h1 h2
    · refine sign_of (a := r.1.2) (b := r.1.1) (c := f.1.2) (d := f.1.1) ?_ ?_
      · unfold cr at h1; grind
      · unfold dt at h2; omega
  · exact .inr (.inr h)
end Cv
namespace Cv
open PySem PySem.Spec PyProof.Rows L2
/-! ### o[i] += e of a list -/
section
variable {X : Cx}
end
section
variable {K : PySem.W.Frag} {J : It} {H1 : Hp} {te : TE} {cs : L2.St} {Q : VK} {n : Nat}
end
/-! ### promises -/
/-- points over places: what they are over -/
structure Over (ps : List Pt) (pl : List Pl) (X Y : Int) : Prop where
  x0 : 0 < X
  y0 : 0 < Y
  eq : toP X Y pl = ps
/-! ### what common_shares gathers -/
/-- the steps reckoned anew -/
theorem Over.len {ps : List Pt} {c : List Pl} {X Y : Int} (h : Over ps c X Y) : c.length = ps.length := by rw [← h.eq, toP_len]
theorem Over.at {ps : List Pt} {c : List Pl} {X Y : Int} (h : Over ps c X Y) {i : Nat} {p : Pl} (e : c[i]? = some p) : ps[i]? = some (Rat.divInt p.1 X, Rat.divInt p.2 Y) := by
  rw [← h.eq]; unfold toP; rw [List.getElem?_map, e]; rfl
end Cv

namespace Cv
open PySem PySem.Spec PyProof.Rows L2
/-! ### polar points: one share changed -/
noncomputable def co (p : Pt) (i : Nat) : Rat := if i = 0 then p.1 else p.2
end Cv

namespace L2
open PySem PySem.Spec PyProof.Rows
section
variable {X : Cx} {pos : Pos}
end
end L2
namespace Cv
open PySem PySem.Spec PyProof.Rows L2
end Cv
/-! What the laws k50, k51 look at -/
namespace Cv
open PySem PySem.Spec PyProof.Rows L2
/-! ### a line and a common point can't both be -/
/-! ### promises -/
end Cv

/-! Texts of shares, points, curves, paths; promises (k80 to k85) -/
namespace Cv
open PySem PySem.Spec PyProof.Rows L2
noncomputable def cp (x : Str) : List Nat := x.cps.toList
theorem cp_app (a b : Str) : cp (a ++ b) = cp a ++ cp b := cps_app a b
theorem cp_len (a : Str) : (cp a).length = a.length := by unfold cp; simp [Str.length]
theorem cp_ext {a b : Str} (h : cp a = cp b) : a = b := str_ext h
noncomputable def tSh (q : Rat) : Str := if q.den = 1 then tN q.num else tN q.num ++ "/" ++ tN (q.den : Int)
noncomputable def tPt (p : Pt) : Str := tSh p.1 ++ "," ++ tSh p.2
noncomputable def tCv (ps : List Pt) : Str := Str.join " " (ps.map tPt)
noncomputable def tPa (n : Nat) (qs : Nat → List Pt) : Str := Str.join " | " ((List.range n).map fun i => tCv (qs i))
/-- so many figures at most -/
noncomputable def FgN (k : Nat) (i : Int) : Prop := i.natAbs < 10 ^ k
noncomputable def Fg (k : Nat) (q : Rat) : Prop := q.num.natAbs < 10 ^ k ∧ q.den < 10 ^ k
theorem nat_or (i : Int) : (∃ m : Nat, i = (m : Int)) ∨ ∃ m : Nat, i = -((m + 1 : Nat) : Int) := by
  rcases Int.lt_or_le i 0 with h | h
  · right; exact ⟨i.natAbs - 1, by omega⟩
  · left; exact ⟨i.toNat, by omega⟩
theorem tN_cp (i : Int) : cp (tN i) = if i < 0 then 45 :: dg i.natAbs else dg i.natAbs := by
  rcases nat_or i with ⟨m, rfl⟩ | ⟨m, rfl⟩
  · rw [if_neg (by omega), Int.natAbs_natCast]; exact tN_nat m
  · rw [if_pos (by omega), Int.natAbs_neg, Int.natAbs_natCast]; exact tN_neg m
theorem tN_sg (i : Int) : ∀ c ∈ cp (tN i), c = 45 ∨ (48 ≤ c ∧ c ≤ 57) := fun c hc => by
  rw [tN_cp] at hc
  split at hc
  · rcases List.mem_cons.mp hc with h | h
    · exact .inl h
    · exact .inr (dg_digit _ c h)
  · exact .inr (dg_digit _ c hc)
theorem tN_ln {k : Nat} {i : Int} (hk : 1 ≤ k) (h : FgN k i) : (tN i).length ≤ k + 1 := by
  have d := dg_len hk h
  rw [← cp_len, tN_cp]
  split
  · rw [List.length_cons]; omega
  · omega
theorem tN_ln1 (i : Int) : 1 ≤ (tN i).length := by
  have d := dg_len_pos i.natAbs
  rw [← cp_len, tN_cp]
  split
  · rw [List.length_cons]; omega
  · omega
theorem tSh_sg (q : Rat) : ∀ c ∈ cp (tSh q), c = 45 ∨ c = 47 ∨ (48 ≤ c ∧ c ≤ 57) := fun c hc => by
  unfold tSh at hc
  split at hc
  · rcases tN_sg _ c hc with h | h
    · exact .inl h
    · exact .inr (.inr h)
  · rw [cp_app, cp_app] at hc
    simp only [List.mem_append] at hc
    rcases hc with (h | h) | h
    · rcases tN_sg _ c h with h | h
      · exact .inl h
      · exact .inr (.inr h)
    · have : cp ("/" : Str) = [47] := rfl
      rw [this] at h
      exact .inr (.inl (List.mem_singleton.mp h))
    · rcases tN_sg _ c h with h | h
      · exact .inl h
      · exact .inr (.inr h)
theorem len_app (a b : Str) : (a ++ b).length = a.length + b.length := by rw [← cp_len, cp_app, List.length_append, cp_len, cp_len]
theorem tSh_ln {k : Nat} {q : Rat} (hk : 1 ≤ k) (h : Fg k q) : (tSh q).length ≤ 2 * k + 3 := by
  unfold tSh
  have a := tN_ln hk (show FgN k q.num from h.1)
  have b := tN_ln hk (show FgN k (q.den : Int) from by unfold FgN; rw [Int.natAbs_natCast]; exact h.2)
  split
  · omega
  · rw [len_app, len_app]
    have : ("/" : Str).length = 1 := rfl
    omega
theorem tPt_sg (p : Pt) : ∀ c ∈ cp (tPt p), c = 44 ∨ c = 45 ∨ c = 47 ∨ (48 ≤ c ∧ c ≤ 57) := fun c hc => by
  unfold tPt at hc
  rw [cp_app, cp_app] at hc
  simp only [List.mem_append] at hc
  rcases hc with (h | h) | h
  · exact .inr (tSh_sg _ c h)
  · have : cp ("," : Str) = [44] := rfl
    rw [this] at h
    exact .inl (List.mem_singleton.mp h)
  · exact .inr (tSh_sg _ c h)
noncomputable def FgP (k : Nat) (p : Pt) : Prop := Fg k p.1 ∧ Fg k p.2
theorem tPt_ln {k : Nat} {p : Pt} (hk : 1 ≤ k) (h : FgP k p) : (tPt p).length ≤ 4 * k + 7 := by
  unfold tPt
  have a := tSh_ln hk h.1
  have b := tSh_ln hk h.2
  rw [len_app, len_app]
  have : ("," : Str).length = 1 := rfl
  omega
theorem jn_sg {sep : List Nat} {P : Nat → Prop} (hs : ∀ c ∈ sep, P c) : ∀ (ps : List (List Nat)), (∀ p ∈ ps, ∀ c ∈ p, P c) → ∀ c ∈ jn sep ps, P c
  | [], _, c, hc => by simp [jn] at hc
  | [p], h, c, hc => h p (by simp) c hc
  | p :: q :: r, h, c, hc => by
    have hc' : c ∈ p ++ sep ++ jn sep (q :: r) := hc
    simp only [List.mem_append] at hc'
    rcases hc' with (z | z) | z
    · exact h p (by simp) c z
    · exact hs c z
    · exact jn_sg hs (q :: r) (fun p' h' => h p' (List.mem_cons_of_mem _ h')) c z
theorem tCv_sg (ps : List Pt) : ∀ c ∈ cp (tCv ps), c = 32 ∨ c = 44 ∨ c = 45 ∨ c = 47 ∨ (48 ≤ c ∧ c ≤ 57) := fun c hc => by
  unfold tCv cp at hc
  rw [join_cps] at hc
  refine jn_sg (P := fun c => c = 32 ∨ c = 44 ∨ c = 45 ∨ c = 47 ∨ (48 ≤ c ∧ c ≤ 57)) (fun c hc => ?_) _ (fun p hp c hc => ?_) c hc
  · have : (" " : Str).cps.toList = [32] := rfl
    rw [this] at hc
    exact .inl (List.mem_singleton.mp hc)
  · simp only [List.mem_map] at hp
    obtain ⟨x, ⟨p', _, rfl⟩, rfl⟩ := hp
    exact .inr (tPt_sg p' c hc)
theorem join_ln {sep : Str} {B : Nat} {ts : List Str} (h : ∀ t ∈ ts, t.length ≤ B) : (Str.join sep ts).length ≤ ts.length * B + ts.length * sep.length := by
  have a := StrLaws.join_length_le sep ts
  have b := StrLaws.sumLen_le ts h
  omega
theorem tCv_ln {k : Nat} {ps : List Pt} (hk : 1 ≤ k) (h : ∀ p ∈ ps, FgP k p) : (tCv ps).length ≤ ps.length * (4 * k + 8) := by
  unfold tCv
  have := join_ln (sep := " ") (ts := ps.map tPt) (B := 4 * k + 7) fun t ht => by obtain ⟨p, hp, rfl⟩ := List.mem_map.mp ht; exact tPt_ln hk (h p hp)
  rw [List.length_map] at this
  have e : (" " : Str).length = 1 := rfl
  rw [e, ← Nat.mul_add] at this
  exact this
theorem join_ok {sep : Str} {B : Nat} {ts : List Str} (h : ∀ t ∈ ts, t.length ≤ B) (h2 : ts.length * B + ts.length * sep.length ≤ 16777216) : JoinOk sep ts = true := by
  unfold JoinOk
  rw [StrLaws.joinFits h h2]; rfl
theorem txt_join (sep : Str) (ts : List Str) : Txt.join sep ts = Str.join sep ts := StrLaws.glued_eq_join sep ts
/-! ### split -/
theorem sepS {sep : Str} {c : Nat} (h : sep.cps.toList = [c]) : Sep sep c 0 := ⟨by rw [h]; rfl, fun j h => by omega, by
  have := congrArg List.length h
  rw [Array.length_toList, List.length_singleton] at this
  show 1 ≤ sep.cps.size
  exact Nat.le_of_eq this.symm⟩
theorem kSl : Builtin.Str.strKind "/" = 1 := by decide +kernel
theorem kCm : Builtin.Str.strKind "," = 1 := by decide +kernel
theorem kBl : Builtin.Str.strKind " " = 1 := by decide +kernel
theorem kPa : Builtin.Str.strKind " | " = 1 := by decide +kernel
theorem split_of {x sep : Str} {c m : Nat} (S : Sep sep c m) (hk : Builtin.Str.strKind sep = 1) {ts : List Str} (hne : ts ≠ []) (hf : ∀ t ∈ ts, c ∉ cp t) (hx : x = Str.join sep ts) : Txt.split x sep = ts := by
  have := split_jn (x := x) S hk (ps := ts.map cp) (by simpa using hne) (fun p hp => by obtain ⟨t, ht, rfl⟩ := List.mem_map.mp hp; exact hf t ht) (by rw [hx]; exact join_cps sep ts)
  have inj : ∀ (as bs : List Str), as.map (·.cps.toList) = bs.map cp → as = bs := by
    intro as
    induction as with
    | nil => intro bs h; cases bs with | nil => rfl | cons b bs => simp at h
    | cons a as ih =>
      intro bs h
      cases bs with
      | nil => simp at h
      | cons b bs =>
        simp only [List.map_cons, List.cons.injEq] at h
        rw [cp_ext (show cp a = cp b from h.1), ih bs h.2]
  exact inj _ _ this
theorem sep3 : Sep " | " 124 1 := ⟨rfl, fun j h => by
  have : j = 0 := by omega
  subst this
  show ¬ (some 32 = some 124)
  simp, by show 1 ≤ 3; decide⟩
theorem split_sl (q : Rat) : Txt.split (tSh q) "/" = if q.den = 1 then [tN q.num] else [tN q.num, tN (q.den : Int)] := by
  have nf : ∀ i : Int, 47 ∉ cp (tN i) := fun i h => by rcases tN_sg i 47 h with z | z <;> omega
  unfold tSh
  split
  · exact split_of (sepS (c := 47) rfl) kSl (by simp) (fun t ht => by rw [List.mem_singleton.mp ht]; exact nf _) rfl
  · refine split_of (sepS (c := 47) rfl) kSl (by simp) (fun t ht => ?_) rfl
    simp only [List.mem_cons, List.not_mem_nil, or_false] at ht
    rcases ht with rfl | rfl <;> exact nf _
theorem split_cm (p : Pt) : Txt.split (tPt p) "," = [tSh p.1, tSh p.2] := by
  have nf : ∀ q : Rat, 44 ∉ cp (tSh q) := fun i h => by rcases tSh_sg i 44 h with z | z | z <;> omega
  refine split_of (sepS (c := 44) rfl) kCm (by simp) (fun t ht => ?_) rfl
  simp only [List.mem_cons, List.not_mem_nil, or_false] at ht
  rcases ht with rfl | rfl <;> exact nf _
theorem split_bl {ps : List Pt} (h : ps ≠ []) : Txt.split (tCv ps) " " = ps.map tPt := by
  refine split_of (sepS (c := 32) rfl) kBl (by simpa using h) (fun t ht => ?_) rfl
  obtain ⟨p, _, rfl⟩ := List.mem_map.mp ht
  intro hc
  rcases tPt_sg p 32 hc with z | z | z | z <;> omega
theorem split_pa {n : Nat} {qs : Nat → List Pt} (h : 1 ≤ n) : Txt.split (tPa n qs) " | " = (List.range n).map fun i => tCv (qs i) := by
  refine split_of sep3 kPa (by simp; omega) (fun t ht => ?_) rfl
  obtain ⟨i, _, rfl⟩ := List.mem_map.mp ht
  intro hc
  rcases tCv_sg (qs i) 124 hc with z | z | z | z | z <;> omega
/-! ### promises -/
theorem log_small {i : Int} (h : i.natAbs < 10 ^ 300) : i.natAbs.log2 < 1920 := by
  by_cases e : i.natAbs = 0
  · rw [e]; decide
  · refine (Nat.log2_lt e).mpr (Nat.lt_trans h ?_)
    exact Nat.lt_of_le_of_lt (Nat.pow_le_pow_left (show 10 ≤ 2 ^ 4 by decide) 300) (by rw [← Nat.pow_mul]; exact Nat.pow_lt_pow_right (by decide) (by decide))
theorem strs_eq {α : Type} {ys : List V} {ps : List α} {f : α → Str} (hl : ys.length = ps.length) (h : ∀ (i : Nat) v, ys[i]? = some v → ∀ p, ps[i]? = some p → v = .str (f p)) : ys = (ps.map f).map V.str := by
  refine List.ext_getElem? fun i => ?_
  rw [List.getElem?_map, List.getElem?_map]
  by_cases hi : i < ys.length
  · have e : ys[i]? = some ys[i] := List.getElem?_eq_getElem hi
    have e2 : ps[i]? = some (ps[i]'(by omega)) := List.getElem?_eq_getElem _
    rw [e, h i _ e _ e2, e2]; rfl
  · rw [List.getElem?_eq_none (by omega), List.getElem?_eq_none (by omega)]; rfl
theorem starts_cp (x : Str) : Txt.startswith x "-" = decide ((cp x)[0]? = some 45) := by
  unfold Txt.startswith
  rw [StrLaws.subAt_eq, List.drop_zero]
  have e1 : ("-" : Str).length = 1 := rfl
  have e2 : ("-" : Str).cps.toList = [45] := rfl
  rw [e1, e2]
  have hl := cp_len x
  unfold cp at *
  cases h : x.cps.toList with
  | nil => rw [h] at hl; simp at hl; simp [← hl]
  | cons c r =>
    rw [h] at hl
    simp at hl
    simp [← hl]
    cases e : decide (c = 45) with
    | true => simpa using e
    | false => simpa using e
theorem starts_neg (i : Int) : Txt.startswith (tN i) "-" = decide (i < 0) := by
  rw [starts_cp, tN_cp]
  by_cases h : i < 0
  · rw [if_pos h]; simp [h]
  · rw [if_neg h]
    have : (dg i.natAbs)[0]? ≠ some 45 := fun e => by have := dg_digit _ _ (List.mem_of_getElem? e); omega
    simp [h, this]
theorem tail_neg {i : Int} (h : i < 0) : StrLaws.sliceText (tN i) (some 1) none = tN (-i) := by
  have hc := tN_cp i
  rw [if_pos h] at hc
  have hl : (tN i).cps.toList.length = (dg i.natAbs).length + 1 := by
    show (cp (tN i)).length = _
    rw [hc]; rfl
  rw [StrLaws.sliceText_from ⟨by decide, by rw [hl]; omega⟩]
  refine cp_ext ?_
  rw [tN_cp, if_neg (by omega), Int.natAbs_neg]
  show List.take _ (List.drop 1 (cp (tN i))) = _
  rw [hc, hl]
  show List.take _ (dg i.natAbs) = _
  rw [List.take_of_length_le (by omega)]
theorem fig_in {c : Nat} (h1 : 48 ≤ c) (h2 : c ≤ 57) : (!(Builtin.Str.occurrences ("0123456789" : Str) ⟨#[c]⟩ 0 ("0123456789" : Str).length 1).isEmpty) = true := by
  rw [StrLaws.found_one]
  have e : ("0123456789" : Str).cps.toList = [48, 49, 50, 51, 52, 53, 54, 55, 56, 57] := rfl
  rw [e]
  refine decide_eq_true ?_
  simp only [List.mem_cons, List.not_mem_nil, or_false]
  omega
theorem dg_at {x : Str} {m i : Nat} (hx : cp x = dg m) (hi : i < x.cps.size) : 48 ≤ x.cps.getD i 0 ∧ x.cps.getD i 0 ≤ 57 := by
  refine dg_digit m _ ?_
  rw [← hx]
  unfold cp
  rw [Array.getD_eq_getD_getElem?, Array.getElem?_eq_getElem hi]
  simp
theorem str_one {c d : Nat} : (V.str ⟨#[c]⟩ = V.str ⟨#[d]⟩) ↔ c = d := by simp
theorem bls_true {ys : List V} (h : ∀ (i : Nat) v, ys[i]? = some v → v = .bl true) : ys = (List.replicate ys.length true).map V.bl := by
  refine List.ext_getElem? fun i => ?_
  rw [List.getElem?_map, List.getElem?_replicate]
  by_cases hi : i < ys.length
  · rw [List.getElem?_eq_getElem hi, h i _ (List.getElem?_eq_getElem hi), if_pos hi]; rfl
  · rw [List.getElem?_eq_none (by omega), if_neg hi]; rfl
theorem all_rep (n : Nat) : (List.replicate n true).all id = true := by
  rw [List.all_eq_true]; intro b hb; rw [List.eq_of_mem_replicate hb]; rfl
theorem fg_sz {m : Nat} (h : m < 10 ^ 100) : Sz 9000 (m : Int) := by
  refine (show Sz 400 (m : Int) from ⟨?_⟩).mono (by decide)
  rw [Int.natAbs_natCast]
  exact Nat.lt_of_lt_of_le h (by rw [show (400 : Nat) = 4 * 100 by decide, Nat.pow_mul]; exact Nat.pow_le_pow_left (by decide) 100)
theorem tPa_ln {n : Nat} {qs : Nat → List Pt} (hn : n ≤ 8) (hq : ∀ i, i < n → 1 ≤ (qs i).length ∧ (qs i).length ≤ 12 ∧ ∀ p ∈ qs i, FgP 100 p) : (tPa n qs).length ≤ 50000 := by
  unfold tPa
  have := join_ln (sep := " | ") (ts := (List.range n).map fun i => tCv (qs i)) (B := 12 * 408) fun t ht => by
    obtain ⟨i, hi, rfl⟩ := List.mem_map.mp ht
    have h := hq i (List.mem_range.mp hi)
    exact Nat.le_trans (tCv_ln (k := 100) (by decide) h.2.2) (Nat.mul_le_mul_right _ h.2.1)
  rw [List.length_map, List.length_range] at this
  have e : (" | " : Str).length = 3 := rfl
  rw [e] at this
  omega
end Cv

/-! What the law k80 writes and joins -/
namespace Cv
open PySem PySem.Spec PyProof.Rows L2
noncomputable def spLTxS : Sp := fun vs H Q _ => ∃ (v : V) (q : Rat), vs = [v] ∧ ShV H v q ∧ Fg 300 q ∧ Q (.str (tSh q)) H
noncomputable def spLTxC (K : PySem.W.Frag) : Sp := fun vs H Q _ => ∃ (a : Addr) (ws : List V) (ps : List Pt), vs = [.ref a] ∧ H a = some (.lst ws) ∧ PtsV H ws ps ∧ (∀ p ∈ ps, FgP 300 p) ∧ ps.length ≤ 100 ∧ ∀ H', Same H H' → Q (.str (tCv ps)) H'
theorem fg_mono {j k : Nat} {q : Rat} (h : Fg j q) (hk : j ≤ k) : Fg k q := ⟨Nat.lt_of_lt_of_le h.1 (Nat.pow_le_pow_right (by decide) hk), Nat.lt_of_lt_of_le h.2 (Nat.pow_le_pow_right (by decide) hk)⟩
theorem fgP_mono {j k : Nat} {p : Pt} (h : FgP j p) (hk : j ≤ k) : FgP k p := ⟨fg_mono h.1 hk, fg_mono h.2 hk⟩
theorem fg_bd {q : Rat} (h : Bd 300 q) : Fg 100 q := by
  have e : (2 : Nat) ^ 300 ≤ 10 ^ 100 := by rw [show (300 : Nat) = 3 * 100 by decide, Nat.pow_mul]; exact Nat.pow_le_pow_left (by decide) 100
  refine ⟨Nat.lt_of_lt_of_le h.num.lt e, ?_⟩
  have := h.den.lt
  rw [Int.natAbs_natCast] at this
  exact Nat.lt_of_lt_of_le this e
theorem plain_ptsV {K : PySem.W.Frag} {a : Addr} {ws : List V} {ps : List Pt} {H : Hp} (h : SqL K H a ws) (hP : PtsV H ws ps) : ∃ fx fy : Nat → V, Plain2 K (Itl K a) H ps.length fx fy ∧ ∀ (i : Nat) p, ps[i]? = some p → ShV H (fx i) p.1 ∧ ShV H (fy i) p.2 := by
  have hl := hP.len
  have ex : ∀ i : Nat, ∃ t : Addr × V × V, ∀ p, ps[i]? = some p → ws[i]? = some (.ref t.1) ∧ H t.1 = some (.tup [t.2.1, t.2.2]) ∧ ShV H t.2.1 p.1 ∧ ShV H t.2.2 p.2 := fun i => by
    cases e : ps[i]? with
    | none => exact ⟨(0, .non, .non), fun p z => by cases z⟩
    | some p =>
      obtain ⟨v, e1, ⟨b, vx, vy, rfl, h1, h2, h3⟩⟩ := hP.at e
      exact ⟨(b, vx, vy), fun p' z => by cases z; exact ⟨e1, h1, h2, h3⟩⟩
  obtain ⟨f, hf⟩ := Classical.axiomOfChoice ex
  refine ⟨fun i => (f i).2.1, fun i => (f i).2.2, fun H2 s i => ?_, fun i p e => ⟨(hf i p e).2.2.1, (hf i p e).2.2.2⟩⟩
  have q := plain_list h H2 s i
  rw [hl] at q
  refine ⟨fun hi => ⟨(q.1 hi).1, fun x H' y => ?_⟩, q.2⟩
  obtain ⟨rfl, h2⟩ := (q.1 hi).2 x H' y
  have g := hf i _ (List.getElem?_eq_getElem hi)
  refine ⟨L2.Same.refl _, (f i).1, ?_, SqT.of (s _ _ g.2.1)⟩
  rw [h2]
  show (ws[i]?).getD V.non = _
  rw [g.1]; rfl
/-- curves that join so far -/
theorem last_at {ps : List Pt} (h : 1 ≤ ps.length) : lastQ ps = some (ps[ps.length - 1]'(by omega)) := List.getElem?_eq_getElem _
end Cv

/-! A list comprehension whose items may raise -/
namespace Cv
open PySem PySem.Spec PyProof.Rows L2
section
variable {M : Model} {A : Around} {E : Value → Shared → Prop} {s : Shared} {B : Heap} {env : Env} {outer : List Env} {L e : Addr}
/-- the flight's mark is set to anything -/
theorem setX {l : List Env} {cls fl : Value} {Q : Unit → Shared → Prop} (fr : Option Addr) (x : FlyX B l e cls fl s.heap) (k : ∀ h' fl', FlyX B l e cls fl' h' → s.heap.UpToSlots h' → Q () { s with heap := h' }) : wpAny M A (setFlight (.ref e) fr) Q E s := by
  obtain ⟨oe, vs, T, oT, ts, ⟨a1, a2, a3, a4⟩, ⟨b1, b2⟩, ⟨c1, c2⟩, d1, d2, d3⟩ := x.tr.ex
  have t3 : 3 < ts.size := (Array.getElem?_eq_some_iff.mp d3).1
  unfold setFlight
  refine wpAny_bind (wpAny_field a1 a3 b2 ?_)
  rw [if_pos (by simp : (Value.ref T != Value.none) = true)]
  refine wpAny_setField d1 d2 t3 (k _ (fr.elim Value.none fun f => rawInt f) ?_ ?_)
  all_goals
    have ot : ∀ c, c ≠ T → (s.heap.update T (Obj.mapFields (·.setIfInBounds 3 (fr.elim Value.none fun f => rawInt f)))).get? c = s.heap.get? c := fun c q => Heap.get?_update_other _ _ (Ne.symm q)
    have nr : ∀ c o, s.heap.get? c = some o → (∀ us, o.data ≠ .fields us) → c ≠ T := fun c o z nf q => by
      subst q; cases d1.symm.trans z; exact nf ts d2
  · exact ⟨fun c o z => (ot c fun q => by rw [q, c1] at z; cases z).trans (x.stays c o z), x.new, x.frames.of_keeps fun c o z nf => ⟨o, (ot c (nr c o z nf)).trans z, rfl⟩,
      ⟨oe, vs, T, _, _, ⟨(ot e (Ne.symm c2)).trans a1, a2, a3, a4⟩, ⟨b1, b2⟩, ⟨c1, c2⟩, Heap.get?_update_self _ d1 (Obj.isFreed_of_fields (Obj.data_mapFields d2 _)), Obj.data_mapFields d2 _, by simp [t3]⟩⟩
  · exact fun c o z nf => ⟨o.slots, (ot c (nr c o z nf)).trans z⟩
/-- the next frame is noted, whatever the mark -/
theorem noteA {cls fl : Value} {Q : Unit → Shared → Prop} (hfr : A.frames = some (env :: outer)) (hf : env.frame = some L) (x : FlyX B (env :: outer) e cls fl s.heap)
    (k : ∀ h' fl', FlyX B (env :: outer) e cls fl' h' → s.heap.UpToSlots h' → Q () { s with heap := h' }) : wpAny M A (noteFrame (.ref e) env) Q E s := by
  obtain ⟨oe, vs, T, oT, ts, ⟨a1, a2, a3, a4⟩, ⟨b1, b2⟩, ⟨c1, c2⟩, d1, d2, d3⟩ := x.tr.ex
  subst a2
  have t3 : 3 < ts.size := (Array.getElem?_eq_some_iff.mp d3).1
  unfold noteFrame
  simp only [hf]
  refine wpAny_bind (wpAny_field a1 a3 b2 ?_)
  rw [if_pos (by simp : (Value.ref T != Value.none) = true)]
  refine wpAny_bind (wpAny_field d1 d2 d3 ?_)
  by_cases hm : (fl == rawInt L) = true
  · rw [if_pos hm]
    exact wpAny_pure (k s.heap fl x fun c o z nf => ⟨o.slots, z⟩)
  rw [if_neg hm]
  refine wpAny_bind (wpAny_setField d1 d2 t3 ?_)
  have ot : ∀ c, c ≠ T → (s.heap.update T (Obj.mapFields (·.setIfInBounds 3 Value.none))).get? c = s.heap.get? c := fun c q => Heap.get?_update_other _ _ (Ne.symm q)
  have nr : ∀ c o, s.heap.get? c = some o → (∀ us, o.data ≠ .fields us) → c ≠ T := fun c o z nf q => by
    subst q; cases d1.symm.trans z; exact nf ts d2
  refine entX hfr hf (fun c o z => (ot c fun q => by rw [q, c1] at z; cases z).trans (x.stays c o z)) x.new (x.frames.of_keeps fun c o z nf => ⟨o, (ot c (nr c o z nf)).trans z, rfl⟩) ((ot e (Ne.symm c2)).trans a1) a3 a4 b1 fun h' f u => k h' _ f ?_
  exact fun c o z nf => u c o ((ot c (nr c o z nf)).trans z) nf
theorem leaveA {cls fl : Value} {Q : Unit → Shared → Prop} (hfr : A.frames = some (env :: outer)) (hf : env.frame = some L) (x : FlyX B (env :: outer) e cls fl s.heap)
    (k : ∀ h', FlyX B outer e cls .none h' → s.heap.UpToSlots h' → Q () { s with heap := h' }) : wpAny M A (leaving env (.ref e)) Q E s := by
  unfold leaving
  exact wpAny_bind (noteA hfr hf x fun h1 _ f1 u1 => offX f1 fun h2 f2 u2 => k h2 f2.tail (u1.trans u2))
end
/-- an exception in flight above X's frame reaches what X wants -/
noncomputable def FlyOut (X : Cx) (E : XK) : Prop := ∀ (x : Addr) (cls fl : Value) (H' : Hp) (B : Heap) (s' : Shared), X.Ok → s'.os = X.s₀.os → AllBare s'.gens → UnB X.fs X.H₀ H' X.s₀.heap B s'.heap → HOk X.prog X.w H' B → FlyX B X.stack x cls fl s'.heap → E cls none H' → X.xe (.ref x) s'
section
variable {P : Program} {w : World} {K : PySem.W.Frag} {mg : Str → Option Value} {base : Heap} {N : List Str} {qual : Str} {scope : Scope} {f : Addr} {cd : Value} {A : Around} {outer : List Env} {s : Shared} {H : Hp} {E : XK}
theorem flyOut_cx : FlyOut (cxOf (CXx P w) P w K mg base N qual scope f cd A outer s H E) E := by
  intro x cls fl H' B s' ok hos hb u hok hfl hE
  have hfr : (cxOf (CXx P w) P w K mg base N qual scope f cd A outer s H E).A.frames = some (cxOf (CXx P w) P w K mg base N qual scope f cd A outer s H E).stack := ok.frames
  refine leaveA hfr rfl hfl fun h'' x1 x2 => ?_
  refine ⟨x, cls, H', B, rfl, hos, hb, u.on (fun b hb o e vs => ?_) x2, hok, x1, hE⟩
  obtain ⟨_, o', e', d⟩ := ok.funs.mem hb
  rw [e] at e'
  cases e'
  exact d vs
end
noncomputable abbrev cxCompX (X : Cx) (E : XK) (scope : Scope) (cl : List (Str × Addr)) (Nc : List Str) (C : Addr) (s0 : Shared) (H0 : Hp) (fp : List Addr) : Cx where
  prog := X.prog
  w := X.w
  K := X.K
  mg := X.mg
  base := X.base
  A := X.A
  N := Nc
  s₀ := s0
  H₀ := H0
  env := compEnvC scope cl C X.env
  outer := X.stack
  stack := X.stack
  ex := fp
  fn := fun _ => false
  calm := X.calm
  pn := []
  xe := fun e s' => ∃ H s, s.os = s0.os ∧ Un (frs X.stack) fp H0 H s0.heap s.heap ∧ H C = none ∧ (∃ m, s.heap.Ns C m) ∧ CXx X.prog X.w X.stack H s E e s'
theorem passes_comp {X : Cx} {E : XK} {scope : Scope} {cl : List (Str × Addr)} {Nc : List Str} {C : Addr} {s0 : Shared} {H0 : Hp} {fp : List Addr} : Passes (CXx X.prog X.w) (cxCompX X E scope cl Nc C s0 H0 fp) E := fun pins σ H s e s' I h => by
  obtain ⟨m, hm, _⟩ := I.loc
  exact ⟨H, s, I.os, I.base, I.free, ⟨m, hm⟩, h⟩
theorem hide_none {B : Heap} {C b : Addr} (h : B.get? b = none) : (PySem.W.hideAll B [C]).get? b = none := by
  cases q : (PySem.W.hideAll B [C]).get? b with
  | none => rfl
  | some o => rw [PySem.W.of_hideAll _ q] at h; cases h
theorem frames_hide {B h h' : Heap} {C : Addr} {oc : Obj} (hB : B.get? C = some oc) (sb : Heap.SameBut C h h') : ∀ {l : List Env}, h.FunFrames B l → h'.FunFrames (PySem.W.hideAll B [C]) l
  | [], _ => trivial
  | env :: _, ⟨hk, ⟨L, o, hf, hn, ho, hd⟩, hr⟩ => ⟨hk, ⟨L, o, hf, hide_none hn, (sb.2 L (fun z => by rw [z, hB] at hn; cases hn)).trans ho, hd⟩, frames_hide hB sb hr⟩
section
variable {X : Cx}
theorem comp_err {E : XK} {scope : Scope} {cl : List (Str × Addr)} {Nc : List Str} {C D : Addr} {s3 : Shared} {H3 : Hp} {fp : List Addr} {pins : List (Addr × Obj)} {σ : L2.St} {use : Option (Value → Sem Unit)} {R : Value → Shared → Prop} (hX : FlyOut X E) (hst : X.stack = X.env :: X.outer) (hex : X.ex = [])
    (I3 : Inv X pins σ H3 s3) (hC : s3.heap.objs.size ≤ C) (hfp : ∀ b ∈ fp, X.s₀.heap.objs.size ≤ b) : ∀ e s', (cxCompX X E scope cl Nc C s3 H3 fp).xe e s' → notedBy (model X.prog X.w) X.A (compEnvC scope cl C X.env) (fun e s'' => compPost (model X.prog X.w) X.A X.xe use R (.ref D) C (.error e) s'') e s' := by
  rintro e s' ⟨H, s, hos, hU, hCn, ⟨m, hm⟩, x, cls, H', B, rfl, hos', hb, u, hok, hfl, hE⟩
  have hfr : X.env.frame = some X.env.locals := by
    rcases I3.ok.stk with z | z
    · have := congrArg List.length (hst.symm.trans z)
      simp at this
    · exact z.2
  have nx : ∀ b, b ∉ X.ex := fun b z => by rw [hex] at z; cases z
  have hs : frs X.stack = X.env.locals :: X.fs := by
    rw [hst]; unfold frs; rw [List.filterMap_cons, hfr]; rfl
  have hCs : C ∉ frs X.stack := fun z => by
    obtain ⟨_, o, q, _⟩ := I3.stack.mem z
    exact absurd (Nat.lt_of_lt_of_le (Heap.lt_size q) hC) (Nat.lt_irrefl _)
  obtain ⟨oc, es, ep, hoc, hdd, hod⟩ := id hm
  have hBC := u.keep C oc hoc hCn hCs
  have ne : ∀ b o, X.s₀.heap.get? b = some o → b ≠ X.env.locals := fun b o e => Nat.ne_of_lt (Nat.lt_of_lt_of_le (Heap.lt_size e) I3.ok.above)
  have nin : ∀ b o, X.s₀.heap.get? b = some o → b ∉ X.fs → b ∉ frs X.stack := fun b o e hb z => by
    rw [hs] at z
    rcases List.mem_cons.mp z with z | z
    · exact ne b o e z
    · exact hb z
  have nfp : ∀ b o, X.s₀.heap.get? b = some o → b ∉ fp := fun b o e z => absurd (Nat.lt_of_lt_of_le (Heap.lt_size e) (hfp b z)) (Nat.lt_irrefl _)
  have nC : ∀ b o, X.s₀.heap.get? b = some o → b ≠ C := fun b o e => Nat.ne_of_lt (Nat.lt_of_lt_of_le (Heap.lt_size e) (Nat.le_trans I3.sz hC))
  have uB : UnB X.fs X.H₀ H' X.s₀.heap B s'.heap := by
    refine ⟨fun b o e n hb => ?_, fun b o e n hb => ?_, fun b o e n => ?_, fun b o e hb => ?_, fun b xs q => u.tups b xs (hU.tups b xs (I3.base.tups b xs q)), fun b o xs q => u.frzs b o xs (hU.frzs b o xs (I3.base.frzs b o xs q)), fun b ps q => ?_⟩
    · have q1 := I3.base.keep b o e n hb (nx b)
      have n1 := I3.base.free b o e n (nx b)
      exact u.keep b o (hU.keep b o q1 n1 (nin b o e hb) (nfp b o e)) (hU.free b o q1 n1 (nfp b o e)) (nin b o e hb)
    · obtain ⟨sl, q1⟩ := I3.base.slot b o e n hb (nx b)
      have n1 := I3.base.free b o e n (nx b)
      have hb' : b ∈ frs X.stack := by rw [hs]; exact List.mem_cons_of_mem _ hb
      obtain ⟨sl2, q2⟩ := hU.slot b _ q1 n1 hb' (nfp b o e)
      obtain ⟨sl3, q3⟩ := u.slot b _ q2 (hU.free b _ q1 n1 (nfp b o e)) hb'
      exact ⟨sl3, q3⟩
    · obtain ⟨o1, q1⟩ := I3.base.there b o e (nx b)
      have n1 := I3.base.free b o e n (nx b)
      obtain ⟨o2, q2⟩ := hU.there b o1 q1 (nfp b o e)
      exact u.free b o2 q2 (hU.free b o1 q1 n1 (nfp b o e))
    · obtain ⟨o1, q1⟩ := I3.base.there b o e (nx b)
      obtain ⟨o2, q2⟩ := hU.there b o1 q1 (nfp b o e)
      exact u.there b o2 q2 (nin b o e hb)
    · obtain ⟨m1, e1⟩ := I3.base.tbls b ps q
      obtain ⟨m2, e2⟩ := hU.tbls b _ e1
      obtain ⟨m3, e3⟩ := u.tbls b _ e2
      exact ⟨m1 ++ m2 ++ m3, by rw [e3, Array.append_assoc, Array.append_assoc, Array.append_assoc]⟩
  have hf0 : ∀ b ∈ X.fs, ∀ o, X.s₀.heap.get? b = some o → ∀ vs, o.data ≠ .fields vs := fun b hb o e vs => by
    obtain ⟨_, o', e', d⟩ := I3.ok.funs.mem hb
    rw [e] at e'
    cases e'
    exact d vs
  have hA : X.A.frames = some (X.env :: X.outer) := by rw [I3.ok.frames, hst]
  rw [hst] at hfl
  show wpAny _ _ (noteFrame (.ref x) X.env) _ _ s'
  refine noteA hA hfr hfl fun h1 fl1 f1 up1 => ?_
  have fin : ∃ m, h1.Ns C m ∧ ∀ h', Heap.SameBut C h1 h' → ∀ cenv : Env, cenv.locals = C → wpAny (model X.prog X.w) X.A (PySem.passOn "comprehension.variables-let-go" (.ref x) cenv : Sem Value) (fun _ _ => False) X.xe { s' with heap := h' } := by
    refine ⟨m, ⟨oc, es, ep, f1.stays C oc hBC, hdd, hod⟩, fun h' sb cenv _ => ?_⟩
    have ocd : ∀ vs, oc.data ≠ .fields vs := fun vs z => by rw [hdd] at z; cases z
    obtain ⟨oe, vs, T, oT, ts, ⟨a1, a2, a3, a4⟩, ⟨b1, b2⟩, ⟨c1, c2⟩, d1, d2, d3⟩ := f1.tr.ex
    have hC1 := f1.stays C oc hBC
    have xC : x ≠ C := fun z => by rw [z, hC1] at a1; cases a1; exact ocd vs a3
    have TC : T ≠ C := fun z => by rw [z, hC1] at d1; cases d1; exact ocd ts d2
    have f2 : FlyX (PySem.W.hideAll B [C]) (X.env :: X.outer) x cls fl1 h' := by
      refine ⟨fun c o z => ?_, ?_, ?_, ⟨oe, vs, T, oT, ts, ⟨(sb.2 x xC).trans a1, a2, a3, a4⟩, ⟨b1, b2⟩, ⟨?_, c2⟩, (sb.2 T TC).trans d1, d2, d3⟩⟩
      · have hc : c ≠ C := fun q => by rw [q, PySem.W.hideAll_none [C] (by simp)] at z; cases z
        exact (sb.2 c hc).trans (f1.stays c o (PySem.W.of_hideAll _ z))
      · exact hide_none f1.new
      · exact frames_hide hBC sb f1.frames
      · exact hide_none c1
    unfold PySem.passOn
    refine wpAny_bind (wpAny_field ((sb.2 x xC).trans a1) a3 b2 ?_)
    rw [if_neg (by simp)]
    refine wpAny_bind (setX _ f2 fun h2 fl2 f3 up2 => ?_)
    refine wpAny_throw ?_
    refine hX x cls fl2 H' (PySem.W.hideAll B [C]) _ I3.ok (hos'.trans (hos.trans I3.os)) hb ?_ ?_ (by rw [hst]; exact f3) hE
    · have u1 := (uB.on hf0 up1)
      have u2 : UnB X.fs X.H₀ H' X.s₀.heap (PySem.W.hideAll B [C]) h' := ⟨fun b o e n hb => PySem.W.hideAll_get _ (u1.keep b o e n hb) (by simpa using nC b o e), fun b o e n hb => by
          obtain ⟨sl, q⟩ := u1.slot b o e n hb
          exact ⟨sl, (sb.2 b (nC b o e)).trans q⟩, u1.free, fun b o e hb => by
          obtain ⟨o', q⟩ := u1.there b o e hb
          exact ⟨o', PySem.W.hideAll_get _ q (by simpa using nC b o e)⟩, u1.tups, u1.frzs, u1.tbls⟩
      exact u2.on hf0 up2
    · have hC' : H' C = none := u.free C oc hoc hCn
      exact fun a o e => (hok a o e).stay (fun b v hb q => PySem.W.hideAll_get _ q (fun hmm => by
        have n := List.mem_singleton.mp hmm
        subst n
        rcases hb with rfl | hb
        · rw [e] at hC'; cases hC'
        · rw [hb] at hC'; cases hC')) (fun _ q => q) fun _ _ q => q
  cases use <;> exact fin
theorem comp_coreX {tg elt iter : Expr} {os : List Str} {pos ipos : Pos} {scope : Scope} {wi : TI} {g : TG} {te : TE} {caps : List (Nat × Str)} {pins : List (Addr × Obj)} {s : Shared} {σ : L2.St} {H : Hp} {Q : VK} {use : Option (Value → Sem Unit)} {R : Value → Shared → Prop} {E : XK} (hX : FlyOut X E) (hst : X.stack = X.env :: X.outer) (hex : X.ex = []) (hi : PI X tg iter wi)
    (hg : ∀ cl C s0 H0 fp, PG (cxCompX X E scope cl (os ++ caps.map (·.2)) C s0 H0 fp) tg g)
    (he : ∀ cl C s0 H0 fp, PE (cxCompX X E scope cl (os ++ caps.map (·.2)) C s0 H0 fp) elt te)
    (hfree : ∀ y ∈ scope.names, y.2 = .free → X.env.kindOf y.1 = some .cell)
    (hcap : ∀ p ∈ caps, X.N[p.1]? = some p.2 ∧ X.env.kindOf p.2 = some .cell ∧ ((relabel scope X.env).names.lookup p.2 = some .cell ∨ (relabel scope X.env).names.lookup p.2 = some .free))
    (hkind : scope.kind = .function) (hcell : ∀ y ∈ scope.names, y.2 ≠ .cell)
    (hnames : ∀ y ∈ scope.names, y.2 = .local → scope.names.lookup y.1 = some .local) (hc : X.calm = true) (hfs : ∀ v, foldedSetIterable iter X.env v = pure v)
    (hfin : ∀ D C H5 s6 m6, Inv X pins σ H5 s6 → s6.heap.Ns C m6 → FpOk X pins H5 C → Q (.ref D) H5 → compPost (model X.prog X.w) X.A X.xe use R (.ref D) C (.ok .next) s6)
    (I : Inv X pins σ H s) (h : tCompG os.length wi g te (caps.map (·.1)) σ H Q) :
    wpAny (model X.prog X.w) X.A (comprehension (.ListComp elt [⟨tg, iter, [], 0⟩] scope pos) scope X.env ipos (newList []) false (eval iter X.env) use) R X.xe s := by
  obtain ⟨cl, hclos, hcl, hin⟩ := closure_of (scope := scope) (env := X.env) fun y hy hf => I.ok.has y.1 (.inl (hfree y hy hf))
  have hhas : ∀ y, ((relabel scope X.env).names.lookup y = some .cell ∨ (relabel scope X.env).names.lookup y = some .free) → ∃ c, cl.lookup y = some c := fun y hy => by
    rcases hy with hy | hy
    · exact hin (y, .free) (relabel_lookup (env := X.env) hcell hy (.inl rfl)) rfl
    · exact hin (y, .free) (relabel_lookup (env := X.env) hcell hy (.inr rfl)) rfl
  refine wpAny_comprehension_free (use := use) rfl hfs hclos hkind hnames ?_
  refine thn (hi pins s σ H _ I h) fun v s1 h1 => thn h1 fun itv s2 h2 => ?_
  obtain ⟨it, fp, tn, J, H1, rfl, I2, T, st2, f2, rd⟩ := h2
  refine wpAny_newObj_type ?_ (by show 0 ≤ sizeLine; decide)
  have hD : H1 s2.heap.objs.size = none := I2.hok.fresh (Nat.le_refl _)
  obtain ⟨W, ⟨m0, w0⟩, turn⟩ := rd s2.heap.objs.size hD
  generalize eD : s2.heap.objs.size = D at hD w0 turn
  have I3 : Inv X pins σ (upd H1 D (.lst [])) { s2 with heap := s2.heap.push { cls := .type "list", data := .seq ([] : List Value).toArray } } := by
    subst eD
    exact I2.laid (t' := s2.toks) (fun b u e => Heap.get?_push_of_some _ e) (Nat.le_refl _) ⟨Nat.zero_le _, [], 0, .nil, Heap.get?_push_size _ rfl⟩
  generalize e3 : ({ s2 with heap := s2.heap.push { cls := .type "list", data := .seq ([] : List Value).toArray } } : Shared) = s3 at I3
  have hs3 : s3.heap.objs.size = D + 1 := by rw [← e3, ← eD]; simp
  have k23 : ∀ b o, s2.heap.get? b = some o → s3.heap.get? b = some o := fun b o e => by rw [← e3]; exact Heap.get?_push_of_some _ e
  refine wpAny_newFunctionEnv hcell (by intro y hy; simp at hy) (fun h4 hn4 hs4 => ?_) hkind
  have k34 : ∀ b o, s3.heap.get? b = some o → h4.get? b = some o := fun b o e => (hs4.2 b (Nat.ne_of_lt (Heap.lt_size e))).trans (Heap.get?_push_of_some _ e)
  generalize eC : s3.heap.objs.size = C at hn4 hs4
  have hfpC : ∀ b ∈ fp, b ≠ C := fun b hb z => by
    obtain ⟨o, e, _⟩ := T.obj 0 _ st2 b hb
    have h1 := Heap.lt_size e
    rw [z, ← eC, hs3, eD] at h1
    exact absurd h1 (Nat.not_lt.mpr (Nat.le_succ D))
  have hfps : ∀ b ∈ fp, b ∉ frs X.stack := fun b hb z => by
    rcases List.mem_cons.mp (I2.stkSub b z) with q | q
    · exact (f2 b hb).2.1 q
    · exact (f2 b hb).2.2.1 q
  have hfpD : ∀ b ∈ fp, b ≠ D := fun b hb z => by
    obtain ⟨o, e, _⟩ := T.obj 0 _ st2 b hb
    have h1 := Heap.lt_size e
    rw [z, eD] at h1
    exact Nat.lt_irrefl _ h1
  have okc : (cxCompX X E scope cl (os ++ caps.map (·.2)) C s3 (upd H1 D (.lst [])) fp).Ok := by
    refine ⟨I3.ok.mod, hkind, I3.ok.glob, I3.ok.blt, Nat.le_of_eq eC, fun y z c h1 h2 => I3.ok.inj y z c (hcl y c h1) (hcl z c h2), fun y hy => hhas y hy, fun y c hf => absurd hf Bool.false_ne_true, I3.ok.hd, I3.ok.frames, .inl rfl,
      fun b hb => ⟨hfpC b hb, fun y c e => (f2 b hb).2.2.2.2.1 y c (hcl y c e)⟩, I3.bs, Nat.le_trans I3.ok.bsz I3.sz, fun b o e hb => ?_, fun b hb => hfps b hb, I3.stack, I3.stkFree⟩
    rcases (f2 b hb).2.2.2.1 with z | z
    · exact I3.ok.noex b o e z
    · exact Nat.lt_irrefl _ (Nat.lt_of_lt_of_le (Heap.lt_size (I3.ok.bs b o e).1) z)
  have capS : (capd σ (caps.map (·.1))).length = caps.length := by unfold capd; rw [List.length_map, List.length_map]
  have Ic : Inv (cxCompX X E scope cl (os ++ caps.map (·.2)) C s3 (upd H1 D (.lst [])) fp) [] (List.replicate os.length none ++ capd σ (caps.map (·.1))) (upd H1 D (.lst [])) { s3 with heap := h4, toks := s3.toks + ([] : List (Str × Value)).length } := by
    refine ⟨okc, rfl, I3.bare, Un.kept k34, ⟨_, hn4, fun i y v e1 e2 e3' => ?_⟩, fun y c e => ?_, I3.hok.fresh (Nat.le_of_eq eC), fun y c e => I3.freeC y c (hcl y c e), fun p hp => absurd hp (by simp), I3.hok.kept k34, ?_⟩
    · by_cases hik : i < os.length
      · rw [List.getElem?_append_left (by rw [List.length_replicate]; exact hik), List.getElem?_replicate] at e2
        split at e2 <;> cases e2
      · have e1' : (caps.map (·.2))[i - os.length]? = some y := by
          have z : (os ++ caps.map (·.2))[i]? = some y := e1
          rw [List.getElem?_append_right (by omega)] at z
          exact z
        have e2' : (capd σ (caps.map (·.1)))[i - os.length]? = some (some v) := by
          rw [List.getElem?_append_right (by rw [List.length_replicate]; omega), List.length_replicate] at e2
          exact e2
        generalize i - os.length = i at e1' e2'
        rw [List.getElem?_map] at e1'
        unfold capd at e2'
        rw [List.getElem?_map, List.getElem?_map] at e2'
        cases q : caps[i]? with
        | none => rw [q] at e1'; cases e1'
        | some p =>
          rw [q] at e1' e2'
          have ey : p.2 = y := Option.some.inj e1'
          have ev : (σ[p.1]?).getD none = some v := Option.some.inj e2'
          have es : σ[p.1]? = some (some v) := by
            cases z : σ[p.1]? with
            | none => rw [z] at ev; cases ev
            | some w' => rw [z] at ev; exact congrArg some ev
          obtain ⟨hN, hk, hv⟩ := hcap p (List.mem_of_getElem? q)
          obtain ⟨m, _, hl⟩ := I3.loc
          obtain ⟨u, r, lk⟩ := hl p.1 p.2 v hN es (.inr (.inl hk))
          rw [ey] at hk hv lk
          refine ⟨u, r, .inr ⟨hv, ?_⟩⟩
          obtain ⟨c, hc'⟩ := hhas y hv
          rcases lk with ⟨z, _⟩ | ⟨_, c2, z, ic⟩
          · rw [hk] at z; cases z
          · have ec := (hcl y c hc').symm.trans z
            cases ec
            obtain ⟨o, ho, hd⟩ := ic
            exact ⟨c, hc', o, k34 _ _ ho, hd⟩
    · obtain ⟨v, o, ho, hd⟩ := I3.cell y c (hcl y c e)
      exact ⟨v, o, k34 _ _ ho, hd⟩
    · show (List.replicate os.length (none : Option V) ++ capd σ (caps.map fun p => p.1)).length = (os ++ caps.map fun p => p.2).length
      rw [List.length_append, List.length_append, List.length_replicate, capS, List.length_map]
  have fpc : ∀ H', (∀ b ∈ fp, H' b = none) → ∀ b ∈ fp, FpOk (cxCompX X E scope cl (os ++ caps.map (·.2)) C s3 (upd H1 D (.lst [])) fp) [] H' b := fun H' hn b hb =>
    ⟨hn b hb, hfpC b hb, hfps b hb, .inl hb, fun y c e => (f2 b hb).2.2.2.2.1 y c (hcl y c e), fun p hp => absurd hp (by simp)⟩
  have st4 : tn 0 h4 := T.keep _ _ _ (T.keep _ _ _ st2 fun b _ o e => k23 b o e) fun b _ o e => k34 b o e
  have fp0 : ∀ b ∈ fp, (upd H1 D (.lst [])) b = none := fun b hb => by rw [upd_ne (hfpD b hb)]; exact (f2 b hb).1
  have onErr : ∀ e s', (cxCompX X E scope cl (os ++ caps.map (·.2)) C s3 (upd H1 D (.lst [])) fp).xe e s' → notedBy (model X.prog X.w) X.A (compEnvC scope cl C X.env) (fun e s'' => compPost (model X.prog X.w) X.A X.xe use R (.ref D) C (.error e) s'') e s' := by
    refine comp_err hX hst hex I3 (Nat.le_of_eq eC) (fun b hb => ?_) 
    rcases (f2 b hb).2.2.2.1 with z | z
    · rw [hex] at z; cases z
    · exact z
  have loop : codeAny (model X.prog X.w) X.A (.compLoop (.ListComp elt [⟨tg, iter, [], 0⟩] scope pos) 0 (.ref it) (.ref D) (compEnvC scope cl C X.env)) (compPost (model X.prog X.w) X.A X.xe use R (.ref D) C)
      { s3 with heap := h4, toks := s3.toks + ([] : List (Str × Value)).length } := by
    refine compLoop_listG (fun n s' => ∃ i ys own H', own.length = os.length ∧ Inv (cxCompX X E scope cl (os ++ caps.map (·.2)) C s3 (upd H1 D (.lst [])) fp) [] (own ++ capd σ (caps.map (·.1))) H' s' ∧ tn i s'.heap ∧ (∀ b ∈ fp, H' b = none) ∧ W i n ys H') ?_ m0 ⟨0, [], List.replicate os.length none, _, List.length_replicate, Ic, st4, fp0, w0⟩
    rintro n s5 ⟨i, ys, own, H5, ho5, I5, st5, fr5, w5⟩
    rcases turn i n ys H5 w5 with ⟨stop, qn⟩ | ⟨go, step⟩
    · refine thn (T.done (cxCompX X E scope cl (os ++ caps.map (·.2)) C s3 (upd H1 D (.lst [])) fp) rfl rfl rfl hc i [] s5 _ H5 _ I5 (fpc H5 fr5) st5 stop) fun r s6 ⟨hr, I6⟩ => ?_
      subst hr
      obtain ⟨m6, hn6, _⟩ := I6.loc
      have hs' : Heap.SameBut C s6.heap s6.heap := ⟨rfl, fun _ _ => rfl⟩
      generalize eh' : s6.heap = h' at hs'
      have hs' : Heap.SameBut C s6.heap h' := by rw [eh']; exact hs'
      have neC : ∀ b o, s3.heap.get? b = some o → b ≠ C := fun b o e => Nat.ne_of_lt (eC ▸ Heap.lt_size e)
      have ns : ∀ b o, s2.heap.get? b = some o → b ≠ D := fun b o e => Nat.ne_of_lt (eD ▸ Heap.lt_size e)
      have B := I6.base
      have uu : Un (frs X.stack) fp H1 H5 s2.heap h' := by
        refine ⟨fun b o e nn hb hf => ?_, fun b o e nn hb hf => ?_, fun b o e nn hf => ?_, fun b o e hf => ?_, fun b xs e => ?_, fun b o u' e => ?_, fun b ps e => ?_⟩
        · exact (hs'.2 b (neC b o (k23 b o e))).trans (B.keep b o (k23 b o e) (by show (upd H1 D _) b = none; rw [upd_ne (ns b o e)]; exact nn) hb hf)
        · obtain ⟨sl, z⟩ := B.slot b o (k23 b o e) (by show (upd H1 D _) b = none; rw [upd_ne (ns b o e)]; exact nn) hb hf
          exact ⟨sl, (hs'.2 b (neC b o (k23 b o e))).trans z⟩
        · exact B.free b o (k23 b o e) (by show (upd H1 D _) b = none; rw [upd_ne (ns b o e)]; exact nn) hf
        · obtain ⟨o', z⟩ := B.there b o (k23 b o e) hf
          exact ⟨o', (hs'.2 b (neC b o (k23 b o e))).trans z⟩
        · exact B.tups b xs (by show (upd H1 D _) b = _; rw [upd_ne (ne_of_none e hD)]; exact e)
        · exact B.frzs b o u' (by show (upd H1 D _) b = _; rw [upd_ne (ne_of_none e hD)]; exact e)
        · exact B.tbls b ps (by show (upd H1 D _) b = _; rw [upd_ne (ne_of_none e hD)]; exact e)
      have hok' : HOk X.prog X.w H5 h' := fun b o e => by
        refine (I6.hok b o e).stay (fun c' u' hc' z => (hs'.2 c' fun zz => ?_).trans z) (fun _ z => z) fun _ _ z => z
        have fr : H5 C = none := I6.free
        rcases hc' with hc' | hc'
        · rw [← zz, hc', e] at fr; cases fr
        · rw [← zz, hc'] at fr; cases fr
      have ho6 : s6.os = s2.os := I6.os.trans (by show s3.os = s2.os; rw [← e3])
      subst eh'
      have hC2 : s2.heap.objs.size ≤ C := by rw [← eC, hs3, eD]; exact Nat.le_succ D
      exact hfin D C H5 s6 m6 (I2.call' (s' := s6) (ch := fp) ho6 uu hok' I6.bare (fun b hb => ⟨(f2 b hb).2.2.2.1, (f2 b hb).2.1, (f2 b hb).2.2.2.2.1, (f2 b hb).2.2.2.2.2⟩)) hn6 (I2.fpOk hC2 I6.free) qn
    · refine thn (T.item (cxCompX X E scope cl (os ++ caps.map (·.2)) C s3 (upd H1 D (.lst [])) fp) rfl rfl rfl hc i [] s5 _ H5 _ I5 (fpc H5 fr5) st5 go) fun r s6 ⟨u, hr, h6⟩ => ?_
      subst hr
      refine (thn h6 fun _ s7 ⟨y, H7, I7, r7, y7, st7, fr7⟩ => ?_)
      have I7' := I7.pinned (fpc H7 fr7) (T.obj _ _ st7)
      refine wpAny_mono (hg cl C s3 _ fp _ s7 _ H7 y u _ I7' r7 (step y H7 y7 own ho5)) (fun _ s8 ⟨σ8, H8, I8, ⟨own', ho8, e8⟩, q8⟩ => ?_) onErr
      subst e8
      refine wpAny_mono (he cl C s3 _ fp _ s8 _ H8 _ I8 q8) (fun xv s9 ⟨v9, H9, I9, r9, d9, l9, m9, lt9, w9⟩ => ?_) onErr
      refine wpAny_mono (mt_append (X := (cxCompX X E scope cl (os ++ caps.map (·.2)) C s3 (upd H1 D (.lst [])) fp)) _ s9 _ H9 (.ref D) [v9] (.ref D) [xv] (fun _ H10 => H10 = upd H9 D (.lst (ys ++ [v9]))) I9 rfl (.cons r9 .nil) ⟨D, ys, v9, rfl, rfl, d9, l9, rfl⟩) (fun _ s10 ⟨_, H10, I10, _, e10⟩ => ?_) onErr
      subst e10
      refine ⟨m9, lt9, i + 1, ys ++ [v9], own', _, ho8, I10.unpinned, T.keep _ _ _ st7 fun b hb o e => (I10.pin (b, o) (List.mem_append_right _ (List.mem_append_right _ (mem_pinsAt hb e)))).1, fun b hb => ?_, w9⟩
      obtain ⟨o, e, _⟩ := T.obj _ _ st7 b hb
      exact (I10.pin (b, o) (List.mem_append_right _ (List.mem_append_right _ (mem_pinsAt hb e)))).2.1
  exact codeAny_compStart_list loop (T.self _ 0 _ _ _ st4 loop)

theorem pe_compGX {tg elt iter : Expr} {os : List Str} {pos : Pos} {scope : Scope} {wi : TI} {g : TG} {te : TE} {caps : List (Nat × Str)} {E : XK} (hX : FlyOut X E) (hst : X.stack = X.env :: X.outer) (hex : X.ex = []) (hi : PI X tg iter wi)
    (hg : ∀ cl C s0 H0 fp, PG (cxCompX X E scope cl (os ++ caps.map (·.2)) C s0 H0 fp) tg g)
    (he : ∀ cl C s0 H0 fp, PE (cxCompX X E scope cl (os ++ caps.map (·.2)) C s0 H0 fp) elt te)
    (hfree : ∀ y ∈ scope.names, y.2 = .free → X.env.kindOf y.1 = some .cell)
    (hcap : ∀ p ∈ caps, X.N[p.1]? = some p.2 ∧ X.env.kindOf p.2 = some .cell ∧ ((relabel scope X.env).names.lookup p.2 = some .cell ∨ (relabel scope X.env).names.lookup p.2 = some .free))
    (hkind : scope.kind = .function) (hcell : ∀ y ∈ scope.names, y.2 ≠ .cell)
    (hnames : ∀ y ∈ scope.names, y.2 = .local → scope.names.lookup y.1 = some .local) (hc : X.calm = true) (hfs : ∀ v, foldedSetIterable iter X.env v = pure v) :
    PE X (.ListComp elt [⟨tg, iter, [], 0⟩] scope pos) (tCompG os.length wi g te (caps.map (·.1))) := by
  intro pins s σ H Q I h
  rw [eval_ListComp]
  refine comp_coreX (Q := Q) (use := none) (R := EP X pins σ Q) hX hst hex hi hg he hfree hcap hkind hcell hnames hc hfs (fun D C H5 s6 m6 I6 n6 f6 q6 => ?_) I h
  refine ⟨m6, n6, fun h' hs' => ⟨.ref D, H5, ?_, rfl, q6⟩⟩
  exact I6.turned (t' := s6.toks) (fun b o hb e => (hs'.2 b hb).trans e) f6.1 f6.2.1 f6.2.2.2.1 f6.2.2.2.2.1 f6.2.2.2.2.2
/-- name = a comprehension, the name a plain local: the store comes ahead of the letting go -/
theorem pe_compX {tg elt iter : Expr} {os : List Str} {pos : Pos} {scope : Scope} {wi : TI} {g : TG} {te : TE} {caps : List (Nat × Str)} (N : List Str) (sc : Scope) {E : XK} (hX : FlyOut X E) (hi : PI X tg iter wi)
    (hg : ∀ cl C s0 H0 fp, PG (cxCompX X E scope cl (os ++ caps.map (·.2)) C s0 H0 fp) tg g)
    (he : ∀ cl C s0 H0 fp, PE (cxCompX X E scope cl (os ++ caps.map (·.2)) C s0 H0 fp) elt te)
    (ok : compOk N sc scope caps = true) (hN : X.N = N := by rfl) (hsc : X.env.scope = sc := by rfl) (hc : X.calm = true := by rfl) (hfs : ∀ v, foldedSetIterable iter X.env v = pure v := by intro _; rfl) (hst : X.stack = X.env :: X.outer := by rfl) (hex : X.ex = [] := by rfl) :
    PE X (.ListComp elt [⟨tg, iter, [], 0⟩] scope pos) (tCompG os.length wi g te (caps.map (·.1))) := by
  subst hN hsc
  unfold compOk at ok
  simp only [Bool.and_eq_true, List.all_eq_true, decide_eq_true_eq, Bool.or_eq_true, Bool.not_eq_true', decide_eq_false_iff_not] at ok
  obtain ⟨⟨h1, h2⟩, h3⟩ := ok
  refine pe_compGX hX hst hex hi hg he (fun y hy hf => ?_) (fun p hp => ?_) h1 (fun y hy => (h2 y hy).1.1) (fun y hy hl => ?_) hc hfs
  · rcases (h2 y hy).1.2 with z | z
    · exact absurd hf z
    · exact z
  · obtain ⟨⟨a, b⟩, c⟩ := h3 p hp
    exact ⟨a, b, relabel_free c⟩
  · rcases (h2 y hy).2 with z | z
    · exact absurd hl z
    · exact z
theorem pe_compXI {tg elt iter : Expr} {os : List Str} {pos : Pos} {scope : Scope} {wi : TI} {g : TG} {te : TE} {caps : List (Nat × Str)} (N : List Str) (sc : Scope) {E : XK} (hX : FlyOut X E) (hi : PIi X tg iter wi)
    (hg : ∀ cl C s0 H0 fp, PGi (cxCompX X E scope cl (os ++ caps.map (·.2)) C s0 H0 fp) tg g)
    (he : ∀ cl C s0 H0 fp, PEi (cxCompX X E scope cl (os ++ caps.map (·.2)) C s0 H0 fp) elt te)
    (ok : compOk N sc scope caps = true) (hN : X.N = N := by rfl) (hsc : X.env.scope = sc := by rfl) (hc : X.calm = true := by rfl) (hfs : ∀ v, foldedSetIterable iter X.env v = pure v := by intro _; rfl) (hst : X.stack = X.env :: X.outer := by rfl) (hex : X.ex = [] := by rfl) :
    PEi X (.ListComp elt [⟨tg, iter, [], 0⟩] scope pos) (tCompG os.length wi g te (caps.map (·.1))) := by with_unfolding_all exact pe_compX (N := N) (sc := sc) (hX := hX) (hi := hi) (hg := hg) (he := he) (ok := ok) (hN := hN) (hsc := hsc) (hc := hc) (hfs := hfs) (hst := hst) (hex := hex)
end
end Cv

/-! try whose suite knows the names that were set ahead of it -/
namespace Cv
open PySem PySem.Spec PyProof.Rows L2
noncomputable def PassesS (CX : CXT) (X : Cx) (E : L2.St → XK) : Prop := ∀ (pins : List (Addr × Obj)) (σ : L2.St) (H : Hp) (s : Shared) (e : Value) (s' : Shared), Inv X pins σ H s → CX X.stack H s (E σ) e s' → X.xe e s'
noncomputable def tFnS (sp : Sp) (E : L2.St → XK) (t : TA) : TE := fun σ H Q => t σ H fun vs H1 => sp vs H1 Q (E σ)
noncomputable def tTryS (K : PySem.W.Frag) (n : Nat) (SC : Addr) (tb : (L2.St → XK) → TS) (ts : Addr → TS) : TS := fun D σ H => ∃ Ex : L2.St → XK, tb Ex D σ H ∧ ∀ cls x H' (σ' : L2.St), Ex σ' cls none H' → H' x = none → σ'.length = σ.length →
  PySem.W.exmOne K cls (.ref SC) = some true ∧ ts x { nx := fun _ _ => False, rt := D.rt } (σ'.set n (some (.ref x))) (upd H' x (ExcO x cls))
section
variable {X : Cx} {CX : CXT} {k j : Nat} {ps : List Str} {sp : Sp} {E : L2.St → XK} {x : Str} {p pos : Pos} {e : Expr} {es : List Expr} {t : TA}
theorem pe_fnS (D : DefOk X.prog X.w X.K X.mg X.base CX k x ps sp) (hr : Room j X.A) (hx : PassesS CX X E) (ha : PA X (e :: es) t) (hk : k ≤ j := by decide) (hg : Gl X x := by rfl)
    (hdb : (x == ("__debug__" : Str)) = false := by decide) (he : starEach (e :: es) X.env = (false, eval e X.env) :: starEach es X.env := by rfl) (hpl : (backTo pos (starEach es X.env)).any (·.1) = false := by rfl) :
    PE X (.Call (.Name x p) (e :: es) [] pos) (tFnS sp E t) := by
  obtain ⟨f, fd, F, hm, kp, hb, _⟩ := D.ex
  intro pins s σ H Q I h
  refine wpAny_Call_Name_kw (ld_glob I hg hm ?_ hdb)
  refine PySem.W.callWith_K (h₀ := X.base) I.ok.mod.kin kp (thn (ha pos pins s σ H _ I h) fun us s1 ⟨vs, H1, I1, r, q⟩ => ⟨I1.kIn, ?_⟩) he hpl
  have hl : us.length = ps.length := by rw [← r.length]; exact F.len _ _ _ _ q
  have hb2 := hb s1 us I1.kIn (by rw [List.append_nil]; exact hl)
  rw [List.append_nil] at hb2
  refine wpAny_call (codeAny_mono (F.run X.A X.stack s1 H1 ⟨us, []⟩ us vs Q (E σ) (hr.mono hk) I1.env0 hb2 r q) fun r' s' hq => ?_)
  match r', hq with
  | .error e', hq => exact hx pins σ H1 s1 e' s' I1 hq
  | .ok (.ret u), hq => exact I1.after hq
  | .ok .next, hq => exact False.elim hq
  | .ok .brk, hq => exact False.elim hq
  | .ok .cont, hq => exact False.elim hq
theorem pe_fnS_I  (D : DefOk X.prog X.w X.K X.mg X.base CX k x ps sp) (hr : Room j X.A) (hx : PassesS CX X E) (ha : PAi X (e :: es) t) (hk : k ≤ j := by decide) (hg : Gl X x := by rfl) (hdb : (x == ("__debug__" : Str)) = false := by decide) (he : starEach (e :: es) X.env = (false, eval e X.env) :: starEach es X.env := by rfl) (hpl : (backTo pos (starEach es X.env)).any (·.1) = false := by rfl) : PEi X (.Call (.Name x p) (e :: es) [] pos) (tFnS sp E t) := by with_unfolding_all exact pe_fnS (D := D) (hr := hr) (hx := hx) (ha := ha) (hk := hk) (hg := hg) (hdb := hdb) (he := he) (hpl := hpl)
end
section
variable {X : Cx}
theorem ps_tryS {n : Nat} {nm c : Str} {SC : Addr} {body : List Stmt} {b0 : Stmt} {suite : List Stmt} {np hpos pos : Pos} {tb : (L2.St → XK) → TS} {ts : Addr → TS} (cb : X.mg c = some (.ref SC)) (hN : X.N.Nodup)
    (hb : ∀ xe pn Ex, PassesS (CXx X.prog X.w) (tryX X xe pn) Ex → PSs (tryX X xe pn) body (tb Ex)) (hs : ∀ x, PSs (suiteX X x) (b0 :: suite) (ts x))
    (hi : X.N[n]? = some nm := by rfl) (hx : X.env.scope.names.lookup nm = some .local := by rfl) (hg : Gl X c := by rfl) (hst : X.stack = X.env :: X.outer := by rfl) (hfr : X.env.frame = some X.env.locals := by rfl)
    (hd : (c == ("__debug__" : Str)) = false := by decide) :
    PS X (.Try body [.ExceptHandler (some (.Name c np)) (some nm) (b0 :: suite) hpos] [] [] pos) (tTryS X.K n SC tb ts) := by
  intro pins s σ H D I hread
  obtain ⟨Ex, hbd, hcat⟩ := hread
  refine wpAny_Try_except ?_
  have hp : PassesS (CXx X.prog X.w) (tryX X (fun e s₁ => wpAny (model X.prog X.w) X.A (noteFrame e X.env) (fun _ s₂ => wpAny (model X.prog X.w) X.A (setFlight e none) (fun _ s₃ =>
      wpAny (model X.prog X.w) X.A (handleBy e X.env [.ExceptHandler (some (.Name c np)) (some nm) (b0 :: suite) hpos]) (SP X pins D) X.xe s₃) X.xe s₂) X.xe s₁) (X.pn ++ pins)) Ex := by
    rintro pins' σ1 H1 s1 e s' J ⟨x, cls, H', B, rfl, hos, hba, u, hok, hfl, hE⟩
    show wpAny (model X.prog X.w) X.A (noteFrame (.ref x) X.env) _ _ s'
    have hfl' : FlyX B (X.env :: X.outer) x cls .none s'.heap := by rw [← hst]; exact hfl
    have hfr' : X.A.frames = some (X.env :: X.outer) := by rw [← hst]; exact J.ok.frames
    have hBx : B.get? x = none := hfl.new
    have hHx : H' x = none := by
      cases q : H' x with
      | none => rfl
      | some o =>
        obtain ⟨ob, z⟩ := obj_some (hok x o q)
        rw [hBx] at z; cases z
    have hnew : ∀ o, s1.heap.get? x = some o → False := fun o e => by
      by_cases hm : x ∈ frs X.stack
      · obtain ⟨_, o', e', d⟩ := J.stack.mem hm
        obtain ⟨sl, q⟩ := u.slot x o' e' (J.stkFree x hm) hm
        obtain ⟨oe, vs, he, _, hde, _⟩ := hfl.there
        rw [q] at he
        cases he
        exact d vs hde
      · obtain ⟨o', q⟩ := u.there x o e hm
        rw [hBx] at q; cases q
    have un6 : ∀ h6, B.StaysIn h6 → s'.heap.UpToSlots h6 → Un (frs X.stack) [] H1 H' s1.heap h6 := fun h6 hB up => (u.on (fdata J) up).un hB J.stkFree
    have back : ∀ h6, B.StaysIn h6 → s'.heap.UpToSlots h6 → Inv X pins σ1 H' { s' with heap := h6 } := fun h6 hB up =>
      ofTry (J.call' (s' := { s' with heap := h6 }) (ch := []) hos (un6 h6 hB up) (hok.kept hB) hba fun b z => nomatch z)
    refine noteX hfr' hfr hfl' fun h4 held up4 => ?_
    refine offX held fun h5 fl5 up5 => ?_
    have up45 := up4.trans up5
    have I5 := back h5 fl5.stays up45
    have cat := hcat cls x H' σ1 hE hHx (J.len.trans I.len.symm)
    refine wpAny_handleBy_cons (codeAny_handlers_test ?_) (by intro q; cases q)
    refine ld_glob (X := suiteX X x) (toSuite I5 x) hg cb ?_ hd
    obtain ⟨oe, _, he, hcl, _⟩ := fl5.there
    have LT : PySem.W.Looks (model X.prog X.w) h5 (typeOf (.ref x)) cls := by
      subst hcl
      exact (PySem.W.Looks.ld he).andThen .now
    refine (PySem.W.exm_one (M := model X.prog X.w) I5.kIn LT cat.1).here ?_
    refine codeAny_handlers_suite_as ?_
    refine offX fl5 fun h6 fl6 up6 => ?_
    have up456 := up45.trans up6
    have hok6 : HOk X.prog X.w H' h6 := hok.kept fl6.stays
    obtain ⟨oe6, vs6, he6, hcl6, hd6, hn6⟩ := fl6.there
    have I6 : Inv X pins σ1 (upd H' x (ExcO x cls)) { s' with heap := h6 } := by
      have u6 := un6 h6 fl6.stays up456
      refine ofTry (J.call' (s' := { s' with heap := h6 }) (ch := []) hos ⟨u6.keep, u6.slot, fun b o e nn hx' => ?_, u6.there, fun b xs q => ?_, fun b o v q => ?_, fun b ps q => ?_⟩ (fun b o q => ?_) hba fun b z => nomatch z)
      · rw [upd_ne (fun z => by rw [z] at e; exact hnew o e)]; exact u6.free b o e nn hx'
      · rw [upd_ne (ne_of_none (u6.tups b xs q) hHx)]; exact u6.tups b xs q
      · rw [upd_ne (ne_of_none (u6.frzs b o v q) hHx)]; exact u6.frzs b o v q
      · obtain ⟨more, z⟩ := u6.tbls b ps q
        exact ⟨more, by rw [upd_ne (ne_of_none z hHx)]; exact z⟩
      · by_cases hbx : b = x
        · subst hbx
          rw [upd_same] at q
          cases q
          exact ⟨⟨oe6, vs6, he6, hcl6, hd6, hn6⟩, ⟨oe6, he6⟩, fun h1 h2 ⟨o1, v1, e1, c1⟩ k => ⟨o1, v1, k o1 e1, c1⟩⟩
        · rw [upd_ne hbx] at q
          exact (hok6 b o q).stay (fun _ _ _ z => z) (fun c' z => by rw [upd_ne (ne_of_none z hHx)]; exact z) fun c' ys z => by rw [upd_ne (ne_of_none z hHx)]; exact z
    refine store_ok (X := suiteX X x) (toSuite I6 x) hN hi (.inl hx) (v := .ref x) rfl (fun s7 I7 => ?_) (.inr hx)
    refine wpAny_mono (hs x pins s7 _ _ _ I7 cat.2) (fun f s8 h8 => ?_) fun _ _ hf => hf.elim
    have hcls : (X.env.scope.kind == .class || (X.env.scope.kind == .module && X.env.locals != X.env.globals)) = false := by rw [I.ok.kind]; rfl
    cases f with
    | ret v =>
      obtain ⟨v', σ8, H8, J8, rv, q8⟩ := h8
      obtain ⟨m, hn, _⟩ := J8.loc
      refine wpAny_nameGoes hx hn hcls fun h' m' hn' hsb => ?_
      exact ⟨v', _, H8, inv_forget (ofSuite I.ok.hd J8) hn' hsb, rv, q8⟩
    | next => obtain ⟨_, _, _, q8⟩ := h8; exact q8.elim
    | brk => obtain ⟨_, _, _, q8⟩ := h8; exact q8.elim
    | cont => obtain ⟨_, _, _, q8⟩ := h8; exact q8.elim
  refine wpAny_mono (hb _ _ Ex hp pins s σ H D (toTry I _) hbd) (fun f s1 h1 => ?_) fun _ _ h => h
  cases f with
  | next => obtain ⟨σ', H', J, d⟩ := h1; exact wpAny_execs_nil ⟨σ', H', ofTry J, d⟩
  | brk => obtain ⟨σ', H', J, d⟩ := h1; exact ⟨σ', H', ofTry J, d⟩
  | cont => obtain ⟨σ', H', J, d⟩ := h1; exact ⟨σ', H', ofTry J, d⟩
  | ret v => obtain ⟨v', σ', H', J, r, d⟩ := h1; exact ⟨v', σ', H', ofTry J, r, d⟩
theorem ps_tryS_I  {n : Nat} {nm c : Str} {SC : Addr} {body : List Stmt} {b0 : Stmt} {suite : List Stmt} {np hpos pos : Pos} {tb : (L2.St → XK) → TS} {ts : Addr → TS} (cb : X.mg c = some (.ref SC)) (hN : X.N.Nodup) (hb : ∀ xe pn Ex, PassesS (CXx X.prog X.w) (tryX X xe pn) Ex → PSsi (tryX X xe pn) body (tb Ex)) (hs : ∀ x, PSsi (suiteX X x) (b0 :: suite) (ts x)) (hi : X.N[n]? = some nm := by rfl) (hx : X.env.scope.names.lookup nm = some .local := by rfl) (hg : Gl X c := by rfl) (hst : X.stack = X.env :: X.outer := by rfl) (hfr : X.env.frame = some X.env.locals := by rfl) (hd : (c == ("__debug__" : Str)) = false := by decide) : PSi X (.Try body [.ExceptHandler (some (.Name c np)) (some nm) (b0 :: suite) hpos] [] [] pos) (tTryS X.K n SC tb ts) := by with_unfolding_all exact ps_tryS (cb := cb) (hN := hN) (hb := hb) (hs := hs) (hi := hi) (hx := hx) (hg := hg) (hst := hst) (hfr := hfr) (hd := hd)
end
end Cv

/-! Texts that are refused: promises of the readers (k81 to k85) -/
namespace Cv
open PySem PySem.Spec PyProof.Rows L2
/-- no text -/
noncomputable def NoStr (K : PySem.W.Frag) (H : Hp) (v : V) : Prop := ∃ t, TyOf K H v t ∧ PySem.W.kitOne K t (.type "str") = some false
/-- no figures of a whole number -/
inductive BdF (x : Str) : Prop
  | none (h : x.length = 0)
  | many (h : 100 < x.length)
  | sign (h1 : 1 ≤ x.length) (h2 : x.length ≤ 100) (h : ∃ c ∈ cp x, ¬ (48 ≤ c ∧ c ≤ 57))
  | nought (h1 : 2 ≤ x.length) (h2 : x.length ≤ 100) (h : ∀ c ∈ cp x, 48 ≤ c ∧ c ≤ 57) (h0 : (cp x)[0]? = some 48)
/-- no whole number -/
inductive BdW (x : Str) : Prop
  | fig (h : (cp x)[0]? ≠ some 45) (b : BdF x)
  | neg (y : Str) (h : cp x = 45 :: cp y) (b : BdF y)
  | nought (h : cp x = [45, 48])
/-- no share -/
inductive BdS (x : Str) : Prop
  | many (h : 2 < (Txt.split x "/").length)
  | top (a : Str) (r : List Str) (h : Txt.split x "/" = a :: r) (ha : a.length ≤ 50000) (b : BdW a)
  | bot (i : Int) (y : Str) (h : Txt.split x "/" = [tN i, y]) (hi : FgN 100 i) (hy : y.length ≤ 50000) (b : BdF y)
  | low (i : Int) (m : Nat) (h : Txt.split x "/" = [tN i, tN (m : Int)]) (hi : FgN 100 i) (hm : m < 10 ^ 100) (b : m < 2 ∨ ¬ ((Rat.divInt i m).num = i ∧ ((Rat.divInt i m).den : Int) = m))
/-- no point -/
inductive BdP (x : Str) : Prop
  | many (h : (Txt.split x ",").length ≠ 2)
  | one (a y : Str) (h : Txt.split x "," = [a, y]) (ha : a.length ≤ 50000) (b : BdS a)
  | two (q : Rat) (y : Str) (h : Txt.split x "," = [tSh q, y]) (hq : Fg 100 q) (hy : y.length ≤ 50000) (b : BdS y)
/-- no curve -/
inductive BdC (x : Str) : Prop
  | many (h : 12 < (Txt.split x " ").length)
  | item (ps : List Pt) (y : Str) (r : List Str) (h : Txt.split x " " = ps.map tPt ++ y :: r) (hq : ∀ p ∈ ps, FgP 100 p) (hy : y.length ≤ 50000) (b : BdP y)
/-- no path -/
inductive BdA (x : Str) : Prop
  | many (h : 12 < (Txt.split x " | ").length)
  | item (cs : List (List Pt)) (y : Str) (r : List Str) (h : Txt.split x " | " = cs.map tCv ++ y :: r) (hq : ∀ c ∈ cs, 1 ≤ c.length ∧ c.length ≤ 12 ∧ ∀ p ∈ c, FgP 100 p) (hy : y.length ≤ 50000) (b : BdC y)
noncomputable def spPieX (K : PySem.W.Frag) (CN : Addr) : Sp := fun vs H Q E => ∃ (v : V) (y : Str), vs = [v, .str y] ∧ ((∃ x : Str, v = .str x ∧ (y.length == 0) = false ∧ x.length ≤ 50000 ∧ ∀ p, H p = none → Q (.ref p) (upd H p (.lst ((Txt.split x y).map V.str)))) ∨ (NoStr K H v ∧ ∀ H', Same H H' → E (.ref CN) none H'))
noncomputable def spRdF (CN : Addr) : Sp := fun vs H Q E => ∃ x : Str, vs = [.str x] ∧ x.length ≤ 50000 ∧ ((∃ m : Nat, x = tN (m : Int) ∧ m < 10 ^ 100 ∧ ∀ H', Same H H' → Q (.int (m : Int)) H') ∨ (BdF x ∧ ∀ H', Same H H' → E (.ref CN) none H'))
noncomputable def spRdW (CN : Addr) : Sp := fun vs H Q E => ∃ x : Str, vs = [.str x] ∧ x.length ≤ 50000 ∧ ((∃ i : Int, x = tN i ∧ FgN 100 i ∧ ∀ H', Same H H' → Q (.int i) H') ∨ (BdW x ∧ ∀ H', Same H H' → E (.ref CN) none H'))
noncomputable def spRdS (K : PySem.W.Frag) (CN : Addr) : Sp := fun vs H Q E => ∃ v : V, vs = [v] ∧ ((∃ q : Rat, v = .str (tSh q) ∧ Fg 100 q ∧ ∀ v H', Same H H' → ShV H' v q → Q v H') ∨ (∃ x : Str, v = .str x ∧ x.length ≤ 50000 ∧ BdS x ∧ ∀ H', Same H H' → E (.ref CN) none H') ∨ (NoStr K H v ∧ ∀ H', Same H H' → E (.ref CN) none H'))
noncomputable def spRdP (K : PySem.W.Frag) (CN : Addr) : Sp := fun vs H Q E => ∃ v : V, vs = [v] ∧ ((∃ p : Pt, v = .str (tPt p) ∧ FgP 100 p ∧ ∀ v H', Same H H' → PtV H' v p.1 p.2 → Q v H') ∨ (∃ x : Str, v = .str x ∧ x.length ≤ 50000 ∧ BdP x ∧ ∀ H', Same H H' → E (.ref CN) none H') ∨ (NoStr K H v ∧ ∀ H', Same H H' → E (.ref CN) none H'))
noncomputable def spRdC (K : PySem.W.Frag) (CN : Addr) : Sp := fun vs H Q E => ∃ v : V, vs = [v] ∧ ((∃ ps : List Pt, v = .str (tCv ps) ∧ 1 ≤ ps.length ∧ ps.length ≤ 12 ∧ (∀ p ∈ ps, FgP 100 p) ∧ ∀ (l : Addr) (us : List V) (H' : Hp), Same H H' → H l = none → H' l = some (.lst us) → PtsV H' us ps → Q (.ref l) H') ∨ (∃ x : Str, v = .str x ∧ x.length ≤ 50000 ∧ BdC x ∧ ∀ H', Same H H' → E (.ref CN) none H') ∨ (NoStr K H v ∧ ∀ H', Same H H' → E (.ref CN) none H'))
noncomputable def spRdA (K : PySem.W.Frag) (C CN CJ : Addr) : Sp := fun vs H Q E => ∃ v : V, vs = [v] ∧ ((∃ (n : Nat) (qs : Nat → List Pt), v = .str (tPa n qs) ∧ 1 ≤ n ∧ n ≤ 8 ∧ (∀ i, i < n → 1 ≤ (qs i).length ∧ (qs i).length ≤ 12 ∧ ∀ p ∈ qs i, FgP 100 p) ∧
    ((Joined n qs ∧ ∀ (p lp : Addr) (ks : List V) (H' : Hp), Same H H' → PathAt C H' p lp ks n qs → Q (.ref p) H') ∨ (¬ Joined n qs ∧ ∀ H', Same H H' → E (.ref CJ) none H'))) ∨
  (∃ x : Str, v = .str x ∧ x.length ≤ 50000 ∧ BdA x ∧ ∀ H', Same H H' → E (.ref CN) none H') ∨ (NoStr K H v ∧ ∀ H', Same H H' → E (.ref CN) none H'))
/-- of a sign: is it a figure -/
noncomputable def fgB (c : Nat) : Bool := decide (48 ≤ c ∧ c ≤ 57)
theorem fig_dec (c : Nat) : (!(Builtin.Str.occurrences ("0123456789" : Str) ⟨#[c]⟩ 0 ("0123456789" : Str).length 1).isEmpty) = fgB c := by
  rw [StrLaws.found_one]
  have e : ("0123456789" : Str).cps.toList = [48, 49, 50, 51, 52, 53, 54, 55, 56, 57] := rfl
  rw [e]
  unfold fgB
  refine decide_eq_decide.mpr ?_
  simp only [List.mem_cons, List.not_mem_nil, or_false]
  omega
theorem bls_map {ys : List V} {f : Nat → Bool} {xs : List Nat} (hl : ys.length = xs.length) (h : ∀ (i : Nat) v, ys[i]? = some v → ∀ c, xs[i]? = some c → v = .bl (f c)) : ys = (xs.map f).map V.bl := by
  refine List.ext_getElem? fun i => ?_
  rw [List.getElem?_map, List.getElem?_map]
  by_cases hi : i < ys.length
  · have e2 : xs[i]? = some (xs[i]'(by omega)) := List.getElem?_eq_getElem _
    rw [List.getElem?_eq_getElem hi, e2, h i _ (List.getElem?_eq_getElem hi) _ e2]; rfl
  · rw [List.getElem?_eq_none (by omega), List.getElem?_eq_none (by omega)]; rfl
theorem tail_cons {x y : Str} {c : Nat} (h : cp x = c :: cp y) : StrLaws.sliceText x (some 1) none = y := by
  have hl : x.cps.toList.length = (cp y).length + 1 := by
    show (cp x).length = _
    rw [h]; rfl
  rw [StrLaws.sliceText_from ⟨by decide, by rw [hl]; omega⟩]
  refine cp_ext ?_
  show List.take _ (List.drop 1 (cp x)) = _
  rw [h, hl]
  show List.take _ (cp y) = _
  rw [List.take_of_length_le (by omega)]
noncomputable def datII (i m : Int) : PySem.W.Dat := .tuple [.int i, .int m]
theorem datII_ok (i m : Int) : PySem.W.kqdOk 8 (datII i m) = true := rfl
theorem dnII {K : PySem.W.Frag} {H : Hp} {a : Addr} {i m : Int} (h : H a = some (.tup [.int i, .int m])) : Dn K H (datII i m) (.ref a) := by
  unfold datII
  simp only [Dn, DnAll]
  exact ⟨a, _, rfl, SqT.of h, _, _, rfl, rfl, _, _, rfl, rfl, rfl⟩
theorem datII_eq {q : Rat} {i m : Int} (h : datSh q = datII i m) : q.num = i ∧ (q.den : Int) = m := by
  unfold datSh datII at h
  simpa using h
/-- a comprehension that ends by the item at j -/
theorem compE {f : Nat → V} {n : Nat} {J : It} {H1 : Hp} {te : TE} {cs : L2.St} {Q : VK} (hJ : Plain1 J H1 n f) (hn : n ≤ 100000) (j : Nat) (hj : j < n)
    (he : ∀ i H2 (k : VK), i < j → Same H1 H2 → (∀ v H3, Same H2 H3 → k v H3) → te (some (f i) :: cs) H2 k) (hx : ∀ H2 (k : VK), Same H1 H2 → te (some (f j) :: cs) H2 k) : CompGoal 1 J H1 (gName 0) te cs Q := by
  intro D hD
  refine ⟨fun i m ys H2 => m = n - i ∧ i ≤ j ∧ ys.length = i ∧ Same H1 H2 ∧ H2 D = some (.lst ys), ⟨n, by simp, Nat.zero_le _, rfl, Same.new hD, upd_same⟩, ?_⟩
  rintro i m ys H2 ⟨rfl, hi, hl, s2, d2⟩
  have hlt : i < n := by omega
  refine .inr ⟨((hJ H2 s2 i).1 hlt).1, fun x H' y own ho => ?_⟩
  obtain ⟨rfl, rfl⟩ := ((hJ H2 s2 i).1 hlt).2 x H' y
  cases own with
  | nil => cases ho
  | cons o1 r =>
    cases r with
    | cons _ _ => cases ho
    | nil =>
      refine ⟨⟨[some (f i)], rfl, rfl⟩, ?_⟩
      by_cases hij : i < j
      · refine he i _ _ hij s2 fun v H3 s3 => ⟨s3 _ _ d2, small_line (by omega), n - (i + 1), by omega, rfl, hij, by rw [List.length_append, hl]; rfl, fun b o e => ?_, upd_same⟩
        rw [upd_ne (ne_of_none e hD)]; exact s3 _ _ (s2 _ _ e)
      · have e : i = j := by omega
        subst e
        exact hx _ _ s2
/-- a text, or what is none, that the reader w refuses: with NoText, or, if not j, with NoJoin -/
inductive Rfd (K : PySem.W.Frag) (H : Hp) : Int → V → Bool → Prop
  | thing (w : Int) (v : V) (h0 : 0 ≤ w) (h3 : w ≤ 3) (h : NoStr K H v) : Rfd K H w v true
  | share (x : Str) (hx : x.length ≤ 50000) (b : BdS x) : Rfd K H 0 (.str x) true
  | point (x : Str) (hx : x.length ≤ 50000) (b : BdP x) : Rfd K H 1 (.str x) true
  | curve (x : Str) (hx : x.length ≤ 50000) (b : BdC x) : Rfd K H 2 (.str x) true
  | path (x : Str) (hx : x.length ≤ 50000) (b : BdA x) : Rfd K H 3 (.str x) true
  | join (n : Nat) (qs : Nat → List Pt) (n1 : 1 ≤ n) (n8 : n ≤ 8) (hq : ∀ i, i < n → 1 ≤ (qs i).length ∧ (qs i).length ≤ 12 ∧ ∀ p ∈ qs i, FgP 100 p) (hj : ¬ Joined n qs) : Rfd K H 3 (.str (tPa n qs)) false
noncomputable def spAsk (K : PySem.W.Frag) (CN CJ : Addr) : Sp := fun vs H _ E => ∃ (w : Int) (v : V) (j : Bool), vs = [.int w, v] ∧ Rfd K H w v j ∧ ∀ H', Same H H' → E (.ref (if j then CN else CJ)) none H'
noncomputable def spRefX (K : PySem.W.Frag) : Sp := fun vs H Q _ => ∃ (w : Int) (v : V) (j : Bool), vs = [.int w, v, .bl j] ∧ Rfd K H w v j ∧ ∀ H', Same H H' → Q (.bl true) H'
/-- == of lists of bools -/
noncomputable def rEqB (K : PySem.W.Frag) : R2 := fun x y H Q => ∃ (a b : Addr) (us vs : List Bool), x = .ref a ∧ y = .ref b ∧ SqL K H a (us.map V.bl) ∧ SqL K H b (vs.map V.bl) ∧ SeqAt.shaped (.list (us.map PyData.bool)) = true ∧ SeqAt.shaped (.list (vs.map PyData.bool)) = true ∧ Q (.bl (PyData.eqv (.list (us.map PyData.bool)) (.list (vs.map PyData.bool)))) H
theorem reads_bls {h : Heap} : ∀ {bs : List Bool} {us : List Value}, Vals (bs.map V.bl) us → ∃ as, ReadsAll h us (bs.map PyData.bool) as
  | [], _, .nil => ⟨_, ReadsAll.nil⟩
  | b :: bs, _, .cons r rs => by
    obtain ⟨as, q⟩ := reads_bls (h := h) rs
    cases r
    exact ⟨_, ReadsAll.cons (Reads.bool b) q⟩
theorem op_eqB {X : Cx} (K : PySem.W.Frag) (hu : X.A.units + 64 < cLine) (hK : X.K = K := by rfl) : OpR X (compareOp .Eq) (rEqB K) := by
  subst hK
  intro pins s σ H x y v u Q I rx ry h
  obtain ⟨a, b, us, vs, rfl, rfl, h1, h2, k1, k2, q⟩ := h
  cases rx
  cases ry
  obtain ⟨i1, r1, p1, _⟩ := I.list h1
  obtain ⟨i2, r2, p2, _⟩ := I.list h2
  obtain ⟨o1, ho1, hc1, m1, hd1⟩ := p1.isList
  obtain ⟨o2, ho2, hc2, m2, hd2⟩ := p2.isList
  obtain ⟨as, q1⟩ := reads_bls (h := s.heap) r1
  obtain ⟨bs, q2⟩ := reads_bls (h := s.heap) r2
  exact eq_dataH (reads_list_at ho1 hc1 hd1 (by simpa using q1)) (reads_list_at ho2 hc2 hd2 (by simpa using q2)) k1 k2 hu ⟨.bl _, H, I, rfl, q⟩
/-- a text times a whole number -/
noncomputable def repS (a : Str) (k : Int) : Str := ⟨(List.replicate k.toNat a.cps).foldl (· ++ ·) #[]⟩
noncomputable def rRepS : R2 := fun x y H Q => ∃ a k, x = .str a ∧ y = .int k ∧ 2 ≤ k ∧ k ≤ 1000 ∧ 1 ≤ a.length ∧ a.length ≤ 1000 ∧ Builtin.Str.tooLong (a.length * k.toNat) = false ∧ (repS a k).cps.size ≤ sizeLine ∧ Q (.str (repS a k)) H
theorem op_repS {X : Cx} : OpR X (binaryOp .Mult) rRepS := by
  intro pins s σ H x y v u Q I rx ry h
  obtain ⟨a, k, rfl, rfl, h1, h2, h3, h4, h5, h6, q⟩ := h
  obtain ⟨t, rfl⟩ := rx
  obtain ⟨t', rfl⟩ := ry
  have e1 : ¬ k < 1 := by omega
  have e2 : (k == 1 || a.length == 0) = false := by
    have a1 : (k == 1) = false := by simp; omega
    have a2 : (a.length == 0) = false := by simp; omega
    rw [a1, a2]; rfl
  refine PySem.P.mul_str (by simp; omega) (fun _ _ h => ?_) (fun _ _ => h5) ?_
  · have : (1000 : Int) ≤ (2 ^ 63 - 1) / k := by
      refine Int.le_ediv_of_mul_le (by omega) ?_
      omega
    omega
  · rw [if_neg e1, if_neg (by rw [e2]; exact Bool.false_ne_true)]
    exact ⟨h6, .str _, H, I.tok _, ⟨_, rfl⟩, q⟩
end Cv

/-! Texts that are refused: which they are (k81) -/
namespace Cv
open PySem PySem.Spec PyProof.Rows L2
theorem jn_cons (sep p : List Nat) {r : List (List Nat)} (h : r ≠ []) : jn sep (p :: r) = p ++ sep ++ jn sep r := by
  cases r with
  | nil => exact absurd rfl h
  | cons q r => rfl
theorem jn_app (sep : List Nat) : ∀ (as bs : List (List Nat)), as ≠ [] → bs ≠ [] → jn sep (as ++ bs) = jn sep as ++ sep ++ jn sep bs
  | [], bs, h, _ => absurd rfl h
  | [p], bs, _, hb => jn_cons sep p hb
  | p :: q :: r, bs, _, hb => by
    have ih := jn_app sep (q :: r) bs (by simp) hb
    rw [List.cons_append, jn_cons sep p (by simp), ih, jn_cons sep p (by simp)]
    simp [List.append_assoc]
theorem jn_head (sep a b : List Nat) (r : List (List Nat)) : jn sep ((a ++ b) :: r) = a ++ jn sep (b :: r) := by
  cases r with
  | nil => rfl
  | cons q r =>
    show (a ++ b) ++ sep ++ jn sep (q :: r) = a ++ (b ++ sep ++ jn sep (q :: r))
    simp only [List.append_assoc]
theorem jn_last (sep a b : List Nat) (r : List (List Nat)) : jn sep (r ++ [b ++ a]) = jn sep (r ++ [b]) ++ a := by
  by_cases h : r = []
  · subst h; rfl
  · rw [jn_app sep r _ h (by simp), jn_app sep r _ h (by simp)]
    show _ ++ sep ++ (b ++ a) = _ ++ sep ++ b ++ a
    simp [List.append_assoc]
theorem cp_join (sep : Str) (ts : List Str) : cp (Str.join sep ts) = jn (cp sep) (ts.map cp) := join_cps sep ts
theorem join_app {sep : Str} {as bs : List Str} (ha : as ≠ []) (hb : bs ≠ []) : Str.join sep (as ++ bs) = Str.join sep as ++ sep ++ Str.join sep bs := by
  refine cp_ext ?_
  rw [cp_join, List.map_append, jn_app _ _ _ (by simpa using ha) (by simpa using hb), cp_app, cp_app, cp_join, cp_join]
theorem join_head {sep a b : Str} {r : List Str} : Str.join sep ((a ++ b) :: r) = a ++ Str.join sep (b :: r) := by
  refine cp_ext ?_
  rw [cp_join, List.map_cons, cp_app, jn_head, cp_app, cp_join]; rfl
theorem join_last {sep a b : Str} {r : List Str} : Str.join sep (r ++ [b ++ a]) = Str.join sep (r ++ [b]) ++ a := by
  refine cp_ext ?_
  rw [cp_join, List.map_append, List.map_cons, List.map_nil, cp_app, jn_last, cp_app, cp_join, List.map_append]; rfl
theorem join_nest {sep : Str} {as bs cs : List Str} (hb : bs ≠ []) : Str.join sep (as ++ [Str.join sep bs] ++ cs) = Str.join sep (as ++ bs ++ cs) := by
  have h1 : Str.join sep (as ++ [Str.join sep bs]) = Str.join sep (as ++ bs) := by
    by_cases ha : as = []
    · subst ha; rfl
    · rw [join_app ha (by simp), join_app ha hb]; rfl
  by_cases hc : cs = []
  · subst hc; rw [List.append_nil, List.append_nil]; exact h1
  · rw [join_app (by simp) hc, join_app (by simp [hb]) hc, h1]
/-! ### bad shares -/
theorem cp_lit_empty : cp ("" : Str) = [] := rfl
theorem no_sl {i : Int} : 47 ∉ cp (tN i) := fun h => by rcases tN_sg i 47 h with z | z <;> omega
theorem spl {x : Str} {c : Nat} {sep : Str} (hs : cp sep = [c]) (hk : Builtin.Str.strKind sep = 1) {ts : List Str} (hne : ts ≠ []) (hf : ∀ t ∈ ts, c ∉ cp t) (hx : x = Str.join sep ts) : Txt.split x sep = ts := split_of (sepS (c := c) hs) hk hne hf hx
theorem bdS_one {x : Str} (h : 47 ∉ cp x) (hx : x.length ≤ 50000) (b : BdW x) : BdS x :=
  .top x [] (spl (c := 47) rfl kSl (by simp) (fun t ht => by rw [List.mem_singleton.mp ht]; exact h) rfl) hx b
theorem bdS_two {a y : Str} (ha : 47 ∉ cp a) (hy : 47 ∉ cp y) : Txt.split (a ++ "/" ++ y) "/" = [a, y] :=
  spl (c := 47) rfl kSl (by simp) (fun t ht => by
    simp only [List.mem_cons, List.not_mem_nil, or_false] at ht
    rcases ht with rfl | rfl <;> assumption) rfl
/-- a sign that is no figure, in a short text that does not begin by - -/
theorem bdW_sign {x : Str} {c : Nat} (h0 : (cp x)[0]? ≠ some 45) (hc : c ∈ cp x) (hn : ¬ (48 ≤ c ∧ c ≤ 57)) : BdW x := by
  refine .fig h0 ?_
  by_cases h : 100 < x.length
  · exact .many h
  · refine .sign ?_ (by omega) ⟨c, hc, hn⟩
    rw [← cp_len]
    exact List.length_pos_of_mem hc
theorem bdF_sign {x : Str} {c : Nat} (hc : c ∈ cp x) (hn : ¬ (48 ≤ c ∧ c ≤ 57)) : BdF x := by
  by_cases h : 100 < x.length
  · exact .many h
  · refine .sign ?_ (by omega) ⟨c, hc, hn⟩
    rw [← cp_len]
    exact List.length_pos_of_mem hc
/-- a whole number's text and behind it a sign that is no figure -/
theorem bdW_behind {i : Int} {y : Str} {c : Nat} (hc : c ∈ cp y) (hn : ¬ (48 ≤ c ∧ c ≤ 57)) : BdW (tN i ++ y) := by
  have e := tN_cp i
  by_cases h : i < 0
  · rw [if_pos h] at e
    refine .neg (tN (i.natAbs : Int) ++ y) ?_ (bdF_sign (c := c) ?_ hn)
    · rw [cp_app, cp_app, e, show cp (tN (i.natAbs : Int)) = dg i.natAbs from tN_nat _]; rfl
    · rw [cp_app]; exact List.mem_append_right _ hc
  · rw [if_neg h] at e
    refine bdW_sign (c := c) ?_ (by rw [cp_app]; exact List.mem_append_right _ hc) hn
    rw [cp_app, e]
    intro z
    rw [List.getElem?_append_left (dg_len_pos _)] at z
    have := dg_digit _ _ (List.mem_of_getElem? z)
    omega
/-- a sign ahead of a text, neither figure nor - -/
theorem bdW_ahead {y x : Str} {c : Nat} {r : List Nat} (e : cp x = c :: r) (hn : ¬ (48 ≤ c ∧ c ≤ 57)) (h45 : c ≠ 45) : BdW x := by
  refine bdW_sign (c := c) ?_ (by rw [e]; simp) hn
  rw [e]
  simpa using h45
/-- what `_law_no_share` hands back -/
structure Odd (x : Str) : Prop where
  bad : BdS x
  len : x.length ≤ 200
  cm : 44 ∉ cp x
  st : 124 ∉ cp x
  bl : 32 ∉ cp x ∨ (∃ i : Int, FgN 100 i ∧ x = tN i ++ " ") ∨ (∃ i : Int, x = " " ++ tN i)
theorem tN_no {i : Int} {c : Nat} (h1 : c ≠ 45) (h2 : ¬ (48 ≤ c ∧ c ≤ 57)) : c ∉ cp (tN i) := fun h => (tN_sg i c h).elim h1 h2
theorem fgn (N : Nat) (h : N < 10 ^ 40) : FgN 100 (N : Int) := by
  unfold FgN
  rw [Int.natAbs_natCast]
  exact Nat.lt_trans h (Nat.pow_lt_pow_right (by decide) (by decide))
theorem tN_ln40 {N : Nat} (h : N < 10 ^ 40) : (tN (N : Int)).length ≤ 41 := tN_ln (k := 40) (by decide) (by unfold FgN; rw [Int.natAbs_natCast]; exact h)
section
variable {N : Nat} (h2 : 2 ≤ N) (hN : N < 10 ^ 40)
include h2 hN
theorem odd_low {i : Int} {m : Nat} {y : Str} (hi : FgN 100 i) (hil : (tN i).length ≤ 100) (hm : m < 10 ^ 50) (ey : y = tN (m : Int)) (b : m < 2 ∨ ¬ ((Rat.divInt i m).num = i ∧ ((Rat.divInt i m).den : Int) = m)) : Odd (tN i ++ "/" ++ y) := by
  subst ey
  have l1 : (tN (m : Int)).length ≤ 51 := tN_ln (k := 50) (by decide) (by unfold FgN; rw [Int.natAbs_natCast]; exact hm)
  have nn : ∀ c : Nat, c ≠ 45 → c ≠ 47 → ¬ (48 ≤ c ∧ c ≤ 57) → c ∉ cp (tN i ++ "/" ++ tN (m : Int)) := fun c a1 a2 a3 hc => by
    rw [cp_app, cp_app] at hc
    simp only [List.mem_append] at hc
    rcases hc with (z | z) | z
    · exact tN_no a1 a3 z
    · exact a2 (List.mem_singleton.mp z)
    · exact tN_no a1 a3 z
  refine ⟨.low i m (bdS_two no_sl no_sl) hi (Nat.lt_trans hm (Nat.pow_lt_pow_right (by decide) (by decide))) b, ?_, nn 44 (by decide) (by decide) (by decide), nn 124 (by decide) (by decide) (by decide), .inl (nn 32 (by decide) (by decide) (by decide))⟩
  rw [len_app, len_app]
  show (tN i).length + 1 + (tN (m : Int)).length ≤ 200
  omega
theorem odd_bot {y : Str} (hy : y.length ≤ 50) (b : BdF y) (ns : ∀ c ∈ cp y, c = 45 ∨ (48 ≤ c ∧ c ≤ 57)) : Odd (tN (N : Int) ++ "/" ++ y) := by
  have l1 := tN_ln40 hN
  have ny : ∀ c : Nat, c ≠ 45 → ¬ (48 ≤ c ∧ c ≤ 57) → c ∉ cp y := fun c a1 a3 hc => (ns c hc).elim a1 a3
  have nn : ∀ c : Nat, c ≠ 45 → c ≠ 47 → ¬ (48 ≤ c ∧ c ≤ 57) → c ∉ cp (tN (N : Int) ++ "/" ++ y) := fun c a1 a2 a3 hc => by
    rw [cp_app, cp_app] at hc
    simp only [List.mem_append] at hc
    rcases hc with (z | z) | z
    · exact tN_no a1 a3 z
    · exact a2 (List.mem_singleton.mp z)
    · exact ny c a1 a3 z
  refine ⟨.bot (N : Int) y (bdS_two no_sl (ny 47 (by decide) (by decide))) (fgn N hN) (by omega) b, ?_, nn 44 (by decide) (by decide) (by decide), nn 124 (by decide) (by decide) (by decide), .inl (nn 32 (by decide) (by decide) (by decide))⟩
  rw [len_app, len_app]
  show (tN (N : Int)).length + 1 + y.length ≤ 200
  omega
end
theorem odd_one {x : Str} (hl : x.length ≤ 200) (hn : ∀ c ∈ cp x, c ≠ 44 ∧ c ≠ 47 ∧ c ≠ 124 ∧ c ≠ 32) (b : BdW x) : Odd x :=
  ⟨bdS_one (fun h => (hn 47 h).2.1 rfl) (by omega) b, hl, fun h => (hn 44 h).1 rfl, fun h => (hn 124 h).2.2.1 rfl, .inl fun h => (hn 32 h).2.2.2 rfl⟩
theorem bdF_nought {y : Str} (h1 : 2 ≤ y.length) (h : ∀ c ∈ cp y, 48 ≤ c ∧ c ≤ 57) (h0 : (cp y)[0]? = some 48) : BdF y := by
  by_cases hl : 100 < y.length
  · exact .many hl
  · exact .nought h1 (by omega) h h0
noncomputable def ones : Str := repS "1" 101
theorem ones_cp : cp ones = List.replicate 101 49 := by decide +kernel
noncomputable def oddL (N : Nat) : List Str := ["", "-", "-0", "0" ++ tN (N : Int), "-0" ++ tN (N : Int), "+" ++ tN (N : Int), tN (N : Int) ++ "/0", tN (N : Int) ++ "/1", tN (N : Int) ++ "/-3", tN (N : Int) ++ "/", "/" ++ tN (N : Int), tN (N : Int) ++ "/" ++ tN (N : Int),
  tN ((2 * N : Nat) : Int) ++ "/4", "0/3", tN (N : Int) ++ "/02", tN (N : Int) ++ " ", " " ++ tN (N : Int), tN (N : Int) ++ "/2/3", tN (N : Int) ++ "." ++ tN (N : Int), "a", ones]
theorem tN_small {d : Nat} (h : d < 10) : cp (tN (d : Int)) = [48 + d] := by rw [show cp (tN (d : Int)) = dg d from tN_nat d]; exact dg_lt h
theorem dig_no {m : Nat} : ∀ c ∈ cp (tN (m : Int)), 48 ≤ c ∧ c ≤ 57 := fun c hc => by rw [show cp (tN (m : Int)) = dg m from tN_nat m] at hc; exact dg_digit m c hc
theorem tN_first {m : Nat} : (cp (tN (m : Int)))[0]? ≠ some 45 := fun z => by have := dig_no _ (List.mem_of_getElem? z); omega
theorem oddL_ok {N : Nat} (h2 : 2 ≤ N) (hN : N < 10 ^ 35) : ∀ x ∈ oddL N, Odd x := by
  have hN' : N < 10 ^ 40 := Nat.lt_trans hN (Nat.pow_lt_pow_right (by decide) (by decide))
  have l1 := tN_ln40 hN'
  have l0 := tN_ln1 (N : Int)
  have fN := fgn N hN'
  have dN := dig_no (m := N)
  intro x hx
  simp only [oddL, List.mem_cons, List.not_mem_nil, or_false] at hx
  rcases hx with rfl | rfl | rfl | rfl | rfl | rfl | rfl | rfl | rfl | rfl | rfl | rfl | rfl | rfl | rfl | rfl | rfl | rfl | rfl | rfl | rfl
  · exact odd_one (by decide) (fun c hc => nomatch hc) (.fig (by decide) (.none rfl))
  · exact odd_one (by decide) (fun c hc => by have : c = 45 := List.mem_singleton.mp hc; omega) (.neg "" rfl (.none rfl))
  · exact odd_one (by decide) (fun c hc => by
      have hc' : c ∈ [45, 48] := hc
      simp at hc'
      omega) (.nought rfl)
  · have e : cp ("0" ++ tN (N : Int)) = 48 :: cp (tN (N : Int)) := by rw [cp_app]; rfl
    have lz : ("0" ++ tN (N : Int)).length = 1 + (tN (N : Int)).length := by rw [len_app]; rfl
    have dz : ∀ c ∈ cp ("0" ++ tN (N : Int)), 48 ≤ c ∧ c ≤ 57 := fun c hc => by
      rw [e] at hc
      rcases List.mem_cons.mp hc with rfl | z
      · decide
      · exact dN c z
    exact odd_one (by omega) (fun c hc => by have := dz c hc; omega) (.fig (by rw [e]; simp) (bdF_nought (by omega) dz (by rw [e]; rfl)))
  · have e : cp ("0" ++ tN (N : Int)) = 48 :: cp (tN (N : Int)) := by rw [cp_app]; rfl
    have e2 : cp ("-0" ++ tN (N : Int)) = 45 :: cp ("0" ++ tN (N : Int)) := by rw [cp_app, e]; rfl
    have lz : ("0" ++ tN (N : Int)).length = 1 + (tN (N : Int)).length := by rw [len_app]; rfl
    have lw : ("-0" ++ tN (N : Int)).length = 2 + (tN (N : Int)).length := by rw [len_app]; rfl
    have dz : ∀ c ∈ cp ("0" ++ tN (N : Int)), 48 ≤ c ∧ c ≤ 57 := fun c hc => by
      rw [e] at hc
      rcases List.mem_cons.mp hc with rfl | z
      · decide
      · exact dN c z
    exact odd_one (by omega) (fun c hc => by
      rw [e2] at hc
      rcases List.mem_cons.mp hc with rfl | z
      · decide
      · have := dz c z; omega) (.neg _ e2 (bdF_nought (by omega) dz (by rw [e]; rfl)))
  · have e : cp ("+" ++ tN (N : Int)) = 43 :: cp (tN (N : Int)) := by rw [cp_app]; rfl
    have lz : ("+" ++ tN (N : Int)).length = 1 + (tN (N : Int)).length := by rw [len_app]; rfl
    exact odd_one (by omega) (fun c hc => by
      rw [e] at hc
      rcases List.mem_cons.mp hc with rfl | z
      · decide
      · have := dN c z; omega) (bdW_ahead (y := "") e (by decide) (by decide))
  · have e : tN (N : Int) ++ "/0" = tN (N : Int) ++ "/" ++ tN ((0 : Nat) : Int) := cp_ext (by rw [cp_app, cp_app, cp_app, tN_small (d := 0) (by decide), List.append_assoc]; rfl)
    rw [e]
    exact odd_low h2 hN' fN (by omega) (by decide) rfl (.inl (by decide))
  · have e : tN (N : Int) ++ "/1" = tN (N : Int) ++ "/" ++ tN ((1 : Nat) : Int) := cp_ext (by rw [cp_app, cp_app, cp_app, tN_small (d := 1) (by decide), List.append_assoc]; rfl)
    rw [e]
    exact odd_low h2 hN' fN (by omega) (by decide) rfl (.inl (by decide))
  · have e : tN (N : Int) ++ "/-3" = tN (N : Int) ++ "/" ++ "-3" := cp_ext (by rw [cp_app, cp_app, cp_app, List.append_assoc]; rfl)
    rw [e]
    exact odd_bot h2 hN' (by decide) (bdF_sign (c := 45) (by decide) (by decide)) (by decide)
  · have e : tN (N : Int) ++ "/" = tN (N : Int) ++ "/" ++ "" := cp_ext (by rw [cp_app, cp_app, cp_app]; simp [cp_lit_empty])
    rw [e]
    exact odd_bot h2 hN' (by decide) (.none rfl) (by decide)
  · have e : ("/" : Str) ++ tN (N : Int) = "" ++ "/" ++ tN (N : Int) := cp_ext (by rw [cp_app, cp_app, cp_app]; rfl)
    have nn : ∀ c : Nat, c ≠ 47 → ¬ (48 ≤ c ∧ c ≤ 57) → c ∉ cp (("/" : Str) ++ tN (N : Int)) := fun c a2 a3 hc => by
      rw [cp_app] at hc
      rcases List.mem_append.mp hc with z | z
      · exact a2 (List.mem_singleton.mp z)
      · exact a3 (dN c z)
    refine ⟨.top "" [tN (N : Int)] (by rw [e]; exact bdS_two (by decide) no_sl) (by decide) (.fig (by decide) (.none rfl)), ?_, nn 44 (by decide) (by decide), nn 124 (by decide) (by decide), .inl (nn 32 (by decide) (by decide))⟩
    rw [len_app]
    show 1 + (tN (N : Int)).length ≤ 200
    omega
  · refine odd_low h2 hN' fN (by omega) (Nat.lt_trans hN (Nat.pow_lt_pow_right (by decide) (by decide))) rfl (.inr fun h => ?_)
    have e : Rat.divInt (N : Int) (N : Int) = 1 := by
      rw [Rat.divInt_self' (by omega)]
    rw [e] at h
    have := h.1
    have e1 : (1 : Rat).num = 1 := rfl
    omega
  · have e : tN ((2 * N : Nat) : Int) ++ "/4" = tN ((2 * N : Nat) : Int) ++ "/" ++ tN ((4 : Nat) : Int) := cp_ext (by rw [cp_app, cp_app, cp_app, tN_small (d := 4) (by decide), List.append_assoc]; rfl)
    rw [e]
    have h2N : 2 * N < 10 ^ 40 := by
      have : 10 ^ 40 = 100000 * 10 ^ 35 := by decide
      omega
    have l2 := tN_ln40 h2N
    refine odd_low h2 hN' (fgn _ h2N) (by omega) (by decide) rfl (.inr fun h => ?_)
    have r := (Rat.divInt ((2 * N : Nat) : Int) ((4 : Nat) : Int)).reduced
    have e1 : (Rat.divInt ((2 * N : Nat) : Int) ((4 : Nat) : Int)).den = 4 := by have := h.2; omega
    rw [h.1, e1, Int.natAbs_natCast] at r
    have d : 2 ∣ Nat.gcd (2 * N) 4 := Nat.dvd_gcd ⟨N, rfl⟩ ⟨2, rfl⟩
    rw [r] at d
    exact absurd d (by decide)
  · have e : ("0/3" : Str) = tN ((0 : Nat) : Int) ++ "/" ++ tN ((3 : Nat) : Int) := cp_ext (by rw [cp_app, cp_app, tN_small (by decide), tN_small (by decide)]; rfl)
    rw [e]
    refine odd_low h2 hN' (fgn 0 (by decide)) (by decide +kernel) (by decide) rfl (.inr fun h => ?_)
    exact absurd h (by decide +kernel)
  · have e : tN (N : Int) ++ "/02" = tN (N : Int) ++ "/" ++ "02" := cp_ext (by rw [cp_app, cp_app, cp_app, List.append_assoc]; rfl)
    rw [e]
    exact odd_bot h2 hN' (by decide) (bdF_nought (by decide) (by decide) (by decide)) (by decide)
  · have nn : ∀ c : Nat, c ≠ 32 → ¬ (48 ≤ c ∧ c ≤ 57) → c ∉ cp (tN (N : Int) ++ " ") := fun c a2 a3 hc => by
      rw [cp_app] at hc
      rcases List.mem_append.mp hc with z | z
      · exact a3 (dN c z)
      · exact a2 (List.mem_singleton.mp z)
    have lz : (tN (N : Int) ++ " ").length = (tN (N : Int)).length + 1 := by rw [len_app]; rfl
    exact ⟨bdS_one (nn 47 (by decide) (by decide)) (by omega) (bdW_behind (c := 32) (by decide) (by decide)), by omega, nn 44 (by decide) (by decide), nn 124 (by decide) (by decide), .inr (.inl ⟨_, fN, rfl⟩)⟩
  · have e : cp (" " ++ tN (N : Int)) = 32 :: cp (tN (N : Int)) := by rw [cp_app]; rfl
    have nn : ∀ c : Nat, c ≠ 32 → ¬ (48 ≤ c ∧ c ≤ 57) → c ∉ cp (" " ++ tN (N : Int)) := fun c a2 a3 hc => by
      rw [e] at hc
      rcases List.mem_cons.mp hc with z | z
      · exact a2 z
      · exact a3 (dN c z)
    have lz : (" " ++ tN (N : Int)).length = 1 + (tN (N : Int)).length := by rw [len_app]; rfl
    exact ⟨bdS_one (nn 47 (by decide) (by decide)) (by omega) (bdW_ahead (y := "") e (by decide) (by decide)), by omega, nn 44 (by decide) (by decide), nn 124 (by decide) (by decide), .inr (.inr ⟨_, rfl⟩)⟩
  · have e : tN (N : Int) ++ "/2/3" = tN (N : Int) ++ "/" ++ "2" ++ "/" ++ "3" := cp_ext (by rw [cp_app, cp_app, cp_app, cp_app, cp_app]; simp only [List.append_assoc]; rfl)
    have es : Txt.split (tN (N : Int) ++ "/2/3") "/" = [tN (N : Int), "2", "3"] := spl (c := 47) rfl kSl (by simp) (fun t ht => by
      simp only [List.mem_cons, List.not_mem_nil, or_false] at ht
      rcases ht with rfl | rfl | rfl
      · exact no_sl
      · decide
      · decide) (by rw [e]; exact cp_ext (by rw [cp_join, cp_app, cp_app, cp_app, cp_app]; simp [jn, List.append_assoc]))
    have nn : ∀ c : Nat, c ≠ 47 → ¬ (48 ≤ c ∧ c ≤ 57) → c ∉ cp (tN (N : Int) ++ "/2/3") := fun c a2 a3 hc => by
      rw [cp_app] at hc
      rcases List.mem_append.mp hc with z | z
      · exact a3 (dN c z)
      · have z' : c ∈ [47, 50, 47, 51] := z
        simp at z'
        omega
    have lz : (tN (N : Int) ++ "/2/3").length = (tN (N : Int)).length + 4 := by rw [len_app]; rfl
    exact ⟨.many (by rw [es]; show 2 < 3; decide), by omega, nn 44 (by decide) (by decide), nn 124 (by decide) (by decide), .inl (nn 32 (by decide) (by decide))⟩
  · have lz : (tN (N : Int) ++ "." ++ tN (N : Int)).length = (tN (N : Int)).length + 1 + (tN (N : Int)).length := by rw [len_app, len_app]; rfl
    have e : tN (N : Int) ++ "." ++ tN (N : Int) = tN (N : Int) ++ ("." ++ tN (N : Int)) := cp_ext (by rw [cp_app, cp_app, cp_app, cp_app, List.append_assoc])
    refine odd_one (by omega) (fun c hc => ?_) (by rw [e]; exact bdW_behind (c := 46) (by rw [cp_app]; exact List.mem_append_left _ (by decide)) (by decide))
    rw [cp_app, cp_app] at hc
    simp only [List.mem_append] at hc
    rcases hc with (z | z) | z
    · have := dN c z; omega
    · have : c = 46 := List.mem_singleton.mp z
      omega
    · have := dN c z; omega
  · exact odd_one (by decide) (fun c hc => by have : c = 97 := List.mem_singleton.mp hc; omega) (bdW_ahead (y := "") (c := 97) (r := []) rfl (by decide) (by decide))
  · have lo : ones.length = 101 := by rw [← cp_len, ones_cp, List.length_replicate]
    exact odd_one (by omega) (fun c hc => by
      rw [ones_cp] at hc
      have : c = 49 := List.eq_of_mem_replicate hc
      omega) (.fig (by rw [ones_cp]; decide) (.many (by omega)))
noncomputable def spOdd : Sp := fun vs H Q _ => ∃ c : Int, vs = [.int c] ∧ ∀ x H', Same H H' → Odd x → Q (.str x) H'
theorem cat_ln {a b : Str} (ha : a.length ≤ 300) (hb : b.length ≤ 300) : a.length + b.length ≤ sizeLine := Nat.le_of_lt (small_line (by omega))
/-! ### bad points, bad curves -/
theorem spl_cm {x : Str} {ts : List Str} (hne : ts ≠ []) (hf : ∀ t ∈ ts, 44 ∉ cp t) (hx : x = Str.join "," ts) : Txt.split x "," = ts := spl (c := 44) rfl kCm hne hf hx
theorem tSh_no {q : Rat} {c : Nat} (h1 : c ≠ 45) (h2 : c ≠ 47) (h3 : ¬ (48 ≤ c ∧ c ≤ 57)) : c ∉ cp (tSh q) := fun h => by rcases tSh_sg q c h with z | z | z <;> omega
theorem tPt_no {p : Pt} {c : Nat} (h0 : c ≠ 44) (h1 : c ≠ 45) (h2 : c ≠ 47) (h3 : ¬ (48 ≤ c ∧ c ≤ 57)) : c ∉ cp (tPt p) := fun h => by rcases tPt_sg p c h with z | z | z | z <;> omega
/-- a text without a comma -/
theorem bdP_none {x : Str} (h : 44 ∉ cp x) : BdP x := .many (by
  rw [spl_cm (x := x) (ts := [x]) (by simp) (fun t ht => by rw [List.mem_singleton.mp ht]; exact h) rfl]
  show (1 : Nat) ≠ 2
  decide)
theorem bdP_three {a b c : Str} (ha : 44 ∉ cp a) (hb : 44 ∉ cp b) (hc : 44 ∉ cp c) : BdP (a ++ "," ++ b ++ "," ++ c) := .many (by
  rw [spl_cm (ts := [a, b, c]) (by simp) (fun t ht => by
    simp only [List.mem_cons, List.not_mem_nil, or_false] at ht
    rcases ht with rfl | rfl | rfl <;> assumption) (cp_ext (by rw [cp_join, cp_app, cp_app, cp_app, cp_app]; simp [jn, List.append_assoc]))]
  show (3 : Nat) ≠ 2
  decide)
theorem spl_two {a b : Str} (ha : 44 ∉ cp a) (hb : 44 ∉ cp b) : Txt.split (a ++ "," ++ b) "," = [a, b] := spl_cm (by simp) (fun t ht => by
    simp only [List.mem_cons, List.not_mem_nil, or_false] at ht
    rcases ht with rfl | rfl <;> assumption) rfl
theorem bdP_one {a b : Str} (ha : 44 ∉ cp a) (hb : 44 ∉ cp b) (hl : a.length ≤ 50000) (h : BdS a) : BdP (a ++ "," ++ b) := .one a b (spl_two ha hb) hl h
theorem bdP_two {q : Rat} {b : Str} (hq : Fg 100 q) (hb : 44 ∉ cp b) (hl : b.length ≤ 50000) (h : BdS b) : BdP (tSh q ++ "," ++ b) := .two q b (spl_two (tSh_no (by decide) (by decide) (by decide)) hb) hq hl h
/-- what stands amid the points of a curve and spoils it -/
structure BadIn (b : Str) : Prop where
  ex : ∃ (gs : List Pt) (y : Str) (r : List Str), b = Str.join " " (gs.map tPt ++ y :: r) ∧ 32 ∉ cp y ∧ (∀ t ∈ r, 32 ∉ cp t) ∧ (∀ p ∈ gs, FgP 100 p) ∧ y.length ≤ 50000 ∧ BdP y
theorem badIn_one {y : Str} (h : 32 ∉ cp y) (hl : y.length ≤ 50000) (b : BdP y) : BadIn y := ⟨[], y, [], rfl, h, (fun t ht => nomatch ht), (fun p hp => nomatch hp), hl, b⟩
theorem bdC_in {b : Str} {p1 p2 : List Pt} (h : BadIn b) (h1 : ∀ p ∈ p1, FgP 100 p) : BdC (Str.join " " (p1.map tPt ++ [b] ++ p2.map tPt)) := by
  obtain ⟨gs, y, r, rfl, hy, hr, hg, hl, hb⟩ := h
  rw [join_nest (by simp)]
  have np : ∀ p : Pt, 32 ∉ cp (tPt p) := fun p => tPt_no (by decide) (by decide) (by decide) (by decide)
  refine .item (p1 ++ gs) y (r ++ p2.map tPt) ?_ (fun p hp => (List.mem_append.mp hp).elim (h1 p) (hg p)) hl hb
  rw [spl (c := 32) (ts := p1.map tPt ++ (gs.map tPt ++ y :: r) ++ p2.map tPt) rfl kBl (by simp) (fun t ht => ?_) rfl]
  · simp [List.append_assoc]
  · simp only [List.mem_append, List.mem_cons, List.mem_map] at ht
    rcases ht with (⟨p, _, rfl⟩ | ⟨p, _, rfl⟩ | rfl | z) | ⟨p, _, rfl⟩
    · exact np p
    · exact np p
    · exact hy
    · exact hr t z
    · exact np p
/-- a point and a blank behind it -/
theorem badIn_blank {p : Pt} (h : FgP 100 p) : BadIn (tPt p ++ " ") := ⟨[p], "", [], cp_ext (by rw [cp_join, cp_app]; simp [jn, cp_lit_empty]), by decide, (fun t ht => nomatch ht), (fun q hq => by rw [List.mem_singleton.mp hq]; exact h), by decide, bdP_none (by decide)⟩
theorem badIn_comma : BadIn "," := badIn_one (by decide) (by decide) (bdP_one (a := "") (b := "") (by decide) (by decide) (by decide) (bdS_one (by decide) (by decide) (.fig (by decide) (.none rfl))))
theorem tSh_int (i : Int) : tSh (i : Rat) = tN i := by unfold tSh; rw [if_pos (Rat.den_intCast _), Rat.num_intCast]
theorem bdS_empty : BdS "" := bdS_one (by decide) (by decide) (.fig (by decide) (.none rfl))
/-- an odd share and behind it another -/
theorem badIn_odd1 {x : Str} {q : Rat} (o : Odd x) (hq : Fg 100 q) : BadIn (x ++ "," ++ tSh q) := by
  have n44 : 44 ∉ cp (tSh q) := tSh_no (by decide) (by decide) (by decide)
  have n32 : 32 ∉ cp (tSh q) := tSh_no (by decide) (by decide) (by decide)
  have lq := tSh_ln (k := 100) (by decide) hq
  have lx := o.len
  rcases o.bl with h | ⟨i, hi, rfl⟩ | ⟨i, rfl⟩
  · refine badIn_one ?_ ?_ (bdP_one o.cm n44 (by omega) o.bad)
    · rw [cp_app, cp_app]
      simp only [List.mem_append]
      rintro ((z | z) | z)
      · exact h z
      · exact absurd (List.mem_singleton.mp z) (by decide)
      · exact n32 z
    · rw [len_app, len_app]; show x.length + 1 + _ ≤ 50000; omega
  · refine ⟨[], tN i, ["," ++ tSh q], ?_, tN_no (by decide) (by decide), (fun t ht => ?_), (fun p hp => nomatch hp), ?_, bdP_none (tN_no (by decide) (by decide))⟩
    · exact cp_ext (by rw [cp_join, cp_app, cp_app, cp_app]; simp [jn, cp_app, List.append_assoc])
    · rw [List.mem_singleton.mp ht, cp_app]
      simp only [List.mem_append]
      rintro (z | z)
      · exact absurd (List.mem_singleton.mp z) (by decide)
      · exact n32 z
    · have := tN_ln (k := 100) (by decide) hi; omega
  · refine ⟨[], "", [tN i ++ "," ++ tSh q], ?_, by decide, (fun t ht => ?_), (fun p hp => nomatch hp), by decide, bdP_none (by decide)⟩
    · exact cp_ext (by rw [cp_join, cp_app, cp_app, cp_app]; simp [jn, cp_app, cp_lit_empty, List.append_assoc])
    · rw [List.mem_singleton.mp ht, cp_app, cp_app]
      simp only [List.mem_append]
      rintro ((z | z) | z)
      · exact tN_no (by decide) (by decide) z
      · exact absurd (List.mem_singleton.mp z) (by decide)
      · exact n32 z
/-- a share and behind it an odd one -/
theorem badIn_odd2 {x : Str} {q : Rat} (o : Odd x) (hq : Fg 100 q) : BadIn (tSh q ++ "," ++ x) := by
  have n44 : 44 ∉ cp (tSh q) := tSh_no (by decide) (by decide) (by decide)
  have n32 : 32 ∉ cp (tSh q) := tSh_no (by decide) (by decide) (by decide)
  have lq := tSh_ln (k := 100) (by decide) hq
  have lx := o.len
  rcases o.bl with h | ⟨i, hi, rfl⟩ | ⟨i, rfl⟩
  · refine badIn_one ?_ ?_ (bdP_two hq o.cm (by omega) o.bad)
    · rw [cp_app, cp_app]
      simp only [List.mem_append]
      rintro ((z | z) | z)
      · exact n32 z
      · exact absurd (List.mem_singleton.mp z) (by decide)
      · exact h z
    · rw [len_app, len_app]; show _ + 1 + x.length ≤ 50000; omega
  · refine ⟨[(q, (i : Rat))], "", [], ?_, by decide, (fun t ht => nomatch ht), (fun p hp => ?_), by decide, bdP_none (by decide)⟩
    · exact cp_ext (by
        rw [cp_join, cp_app, cp_app, cp_app]
        simp [jn, cp_app, cp_lit_empty, tPt, tSh_int, List.append_assoc])
    · rw [List.mem_singleton.mp hp]
      refine ⟨hq, ?_, ?_⟩
      · show ((i : Rat)).num.natAbs < _; rw [Rat.num_intCast]; exact hi
      · show ((i : Rat)).den < _; rw [Rat.den_intCast]; decide
  · refine ⟨[], tSh q ++ "," ++ "", [tN i], ?_, ?_, (fun t ht => ?_), (fun p hp => nomatch hp), ?_, bdP_two hq (by decide) (by decide) bdS_empty⟩
    · exact cp_ext (by rw [cp_join, cp_app, cp_app, cp_app]; simp [jn, cp_app, cp_lit_empty, List.append_assoc])
    · rw [cp_app, cp_app]
      simp only [List.mem_append]
      rintro ((z | z) | z)
      · exact n32 z
      · exact absurd (List.mem_singleton.mp z) (by decide)
      · exact absurd z (by decide)
    · rw [List.mem_singleton.mp ht]; exact tN_no (by decide) (by decide)
    · rw [len_app, len_app]; show _ + 1 + 0 ≤ 50000; omega
/-! ### signs ahead and behind -/
theorem bdS_ahead {q : Rat} (hq : Fg 100 q) : BdS ("|" ++ tSh q) := by
  have e : ∀ y : Str, cp ("|" ++ y) = 124 :: cp y := fun y => by rw [cp_app]; rfl
  have l := tN_ln (k := 100) (i := q.num) (by decide) hq.1
  have ls := tSh_ln (k := 100) (by decide) hq
  unfold tSh at ls ⊢
  by_cases h : q.den = 1
  · rw [if_pos h] at ls ⊢
    refine bdS_one ?_ ?_ (bdW_ahead (y := "") (e _) (by decide) (by decide))
    · rw [e]
      intro z
      rcases List.mem_cons.mp z with z | z
      · exact absurd z (by decide)
      · exact no_sl z
    · rw [len_app]; show 1 + _ ≤ 50000; omega
  · rw [if_neg h] at ls ⊢
    have ex : ("|" : Str) ++ (tN q.num ++ "/" ++ tN (q.den : Int)) = ("|" ++ tN q.num) ++ "/" ++ tN (q.den : Int) := cp_ext (by rw [cp_app, cp_app, cp_app, cp_app, cp_app, cp_app]; simp [List.append_assoc])
    rw [ex]
    refine .top ("|" ++ tN q.num) [tN (q.den : Int)] (bdS_two ?_ no_sl) ?_ (bdW_ahead (y := "") (e _) (by decide) (by decide))
    · rw [e]
      intro z
      rcases List.mem_cons.mp z with z | z
      · exact absurd z (by decide)
      · exact no_sl z
    · rw [len_app]; show 1 + _ ≤ 50000; omega
theorem bdS_behind {q : Rat} {y : Str} {c : Nat} (hq : Fg 100 q) (hy : cp y = [c]) (hn : ¬ (48 ≤ c ∧ c ≤ 57)) (h47 : c ≠ 47) : BdS (tSh q ++ y) := by
  have l := tN_ln (k := 100) (i := q.num) (by decide) hq.1
  have l2 := tN_ln (k := 100) (i := (q.den : Int)) (by decide) (by unfold FgN; rw [Int.natAbs_natCast]; exact hq.2)
  have ly : y.length = 1 := by rw [← cp_len, hy]; rfl
  have ny : 47 ∉ cp y := by rw [hy]; intro z; exact h47 (List.mem_singleton.mp z).symm
  have cy : c ∈ cp y := by rw [hy]; simp
  unfold tSh
  by_cases h : q.den = 1
  · rw [if_pos h]
    refine bdS_one ?_ (by rw [len_app]; omega) (bdW_behind cy hn)
    rw [cp_app]
    intro z
    rcases List.mem_append.mp z with z | z
    · exact no_sl z
    · exact ny z
  · rw [if_neg h]
    have ex : tN q.num ++ "/" ++ tN (q.den : Int) ++ y = tN q.num ++ "/" ++ (tN (q.den : Int) ++ y) := cp_ext (by rw [cp_app, cp_app, cp_app, cp_app, cp_app, cp_app]; simp [List.append_assoc])
    rw [ex]
    refine .bot q.num _ (bdS_two no_sl ?_) hq.1 (by rw [len_app]; omega) (bdF_sign (c := c) (by rw [cp_app]; exact List.mem_append_right _ cy) hn)
    rw [cp_app]
    intro z
    rcases List.mem_append.mp z with z | z
    · exact no_sl z
    · exact ny z
theorem badIn_behind {p : Pt} {y : Str} {c : Nat} (hp : FgP 100 p) (hy : cp y = [c]) (hn : ¬ (48 ≤ c ∧ c ≤ 57)) (h47 : c ≠ 47) (h44 : c ≠ 44) (h32 : c ≠ 32) : BadIn (tPt p ++ y) := by
  have ly : y.length = 1 := by rw [← cp_len, hy]; rfl
  have ls := tSh_ln (k := 100) (by decide) hp.1
  have ls2 := tSh_ln (k := 100) (by decide) hp.2
  have nn : ∀ d : Nat, d ≠ c → d ∉ cp y := fun d hd z => by rw [hy] at z; exact hd (List.mem_singleton.mp z)
  have ex : tPt p ++ y = tSh p.1 ++ "," ++ (tSh p.2 ++ y) := cp_ext (by unfold tPt; rw [cp_app, cp_app, cp_app, cp_app, cp_app, cp_app]; simp [List.append_assoc])
  rw [ex]
  refine badIn_one ?_ ?_ (bdP_two hp.1 ?_ ?_ (bdS_behind hp.2 hy hn h47))
  · rw [cp_app, cp_app, cp_app]
    simp only [List.mem_append]
    rintro ((z | z) | z | z)
    · exact tSh_no (by decide) (by decide) (by decide) z
    · exact absurd (List.mem_singleton.mp z) (by decide)
    · exact tSh_no (by decide) (by decide) (by decide) z
    · exact nn 32 (Ne.symm h32) z
  · rw [len_app, len_app, len_app]; show _ + 1 + _ ≤ 50000; omega
  · rw [cp_app]
    simp only [List.mem_append]
    rintro (z | z)
    · exact tSh_no (by decide) (by decide) (by decide) z
    · exact nn 44 (Ne.symm h44) z
  · rw [len_app]; omega
theorem badIn_ahead {p : Pt} (hp : FgP 100 p) : BadIn ("|" ++ tPt p) := by
  have ls := tSh_ln (k := 100) (by decide) hp.1
  have ls2 := tSh_ln (k := 100) (by decide) hp.2
  have ex : ("|" : Str) ++ tPt p = ("|" ++ tSh p.1) ++ "," ++ tSh p.2 := cp_ext (by unfold tPt; rw [cp_app, cp_app, cp_app, cp_app, cp_app, cp_app]; simp [List.append_assoc])
  rw [ex]
  refine badIn_one ?_ ?_ (bdP_one ?_ (tSh_no (by decide) (by decide) (by decide)) ?_ (bdS_ahead hp.1))
  · rw [cp_app, cp_app, cp_app]
    simp only [List.mem_append]
    rintro (((z | z) | z) | z)
    · exact absurd (List.mem_singleton.mp z) (by decide)
    · exact tSh_no (by decide) (by decide) (by decide) z
    · exact absurd (List.mem_singleton.mp z) (by decide)
    · exact tSh_no (by decide) (by decide) (by decide) z
  · rw [len_app, len_app, len_app]; show 1 + _ + 1 + _ ≤ 50000; omega
  · rw [cp_app]
    simp only [List.mem_append]
    rintro (z | z)
    · exact absurd (List.mem_singleton.mp z) (by decide)
    · exact tSh_no (by decide) (by decide) (by decide) z
  · rw [len_app]; show 1 + _ ≤ 50000; omega
/-- a comma behind a point -/
theorem badIn_cm {p : Pt} (hp : FgP 100 p) : BadIn (tPt p ++ ",") := by
  have ls := tPt_ln (k := 100) (by decide) hp
  have ex : tPt p ++ "," = tSh p.1 ++ "," ++ tSh p.2 ++ "," ++ "" := cp_ext (by unfold tPt; rw [cp_app, cp_app, cp_app, cp_app, cp_app, cp_app, cp_app]; simp [cp_lit_empty, List.append_assoc])
  refine badIn_one ?_ (by rw [len_app]; show _ + 1 ≤ 50000; omega) (by rw [ex]; exact bdP_three (tSh_no (by decide) (by decide) (by decide)) (tSh_no (by decide) (by decide) (by decide)) (by decide))
  rw [cp_app]
  simp only [List.mem_append]
  rintro (z | z)
  · exact tPt_no (by decide) (by decide) (by decide) (by decide) z
  · exact absurd (List.mem_singleton.mp z) (by decide)
/-- the last point of a curve spoilt -/
theorem bdC_last {ps : List Pt} {p : Pt} {y : Str} (h : ∀ q ∈ ps, FgP 100 q) (b : BadIn (tPt p ++ y)) : BdC (tCv (ps ++ [p]) ++ y) := by
  have := bdC_in (p1 := ps) (p2 := []) b h
  rw [List.map_nil, List.append_nil, join_last] at this
  unfold tCv
  rw [List.map_append]
  exact this
/-! ### bad paths -/
theorem split_none {x sep : Str} (h1 : 1 ≤ sep.length) (h : ∀ k, ¬ StrLaws.At x sep x.length k) : Txt.split x sep = [x] := by
  obtain ⟨f, hc, _⟩ := StrLaws.occ_tight x sep h1
  have e : Builtin.Str.occurrences x sep 0 x.length (x.length + 1) = [] := by
    cases he : Builtin.Str.occurrences x sep 0 x.length (x.length + 1) with
    | nil => rfl
    | cons c0 r => rw [he] at hc; exact absurd hc.2.1 (h c0)
  unfold Txt.split
  rw [e]
  simp
theorem spl_pa {x : Str} {ts : List Str} (hne : ts ≠ []) (hf : ∀ t ∈ ts, 124 ∉ cp t) (hx : x = Str.join " | " ts) : Txt.split x " | " = ts := split_of sep3 kPa hne hf hx
theorem tCv_no {ps : List Pt} : 124 ∉ cp (tCv ps) := fun h => by rcases tCv_sg ps 124 h with z | z | z | z | z <;> omega
theorem bdA_one {x : Str} (h : 124 ∉ cp x) (hl : x.length ≤ 50000) (b : BdC x) : BdA x := .item [] x [] (spl_pa (by simp) (fun t ht => by rw [List.mem_singleton.mp ht]; exact h) rfl) (fun c hc => nomatch hc) hl b
theorem bdA_two {ps : List Pt} {x : Str} (hp : 1 ≤ ps.length ∧ ps.length ≤ 12 ∧ ∀ p ∈ ps, FgP 100 p) (h : 124 ∉ cp x) (hl : x.length ≤ 50000) (b : BdC x) : BdA (tCv ps ++ " | " ++ x) := .item [ps] x [] (spl_pa (by simp) (fun t ht => by
    simp only [List.map_cons, List.map_nil, List.cons_append, List.nil_append, List.mem_cons, List.not_mem_nil, or_false] at ht
    rcases ht with rfl | rfl
    · exact tCv_no
    · exact h) rfl) (fun c hc => by rw [List.mem_singleton.mp hc]; exact hp) hl b
theorem bdC_empty : BdC "" := .item [] "" [] (spl (c := 32) rfl kBl (by simp) (fun t ht => by rw [List.mem_singleton.mp ht]; decide) rfl) (fun p hp => nomatch hp) (by decide) (bdP_none (by decide))
theorem tSh_first {q : Rat} : ∃ c r, cp (tSh q) = c :: r ∧ c ≠ 32 := by
  cases e : cp (tSh q) with
  | nil =>
    have : 1 ≤ (cp (tSh q)).length := by
      have h1 := tN_ln1 q.num
      rw [← cp_len] at h1
      unfold tSh
      split
      · exact h1
      · rw [cp_app, cp_app, List.length_append, List.length_append]; omega
    rw [e] at this
    simp at this
  | cons c r => exact ⟨c, r, rfl, fun z => tSh_no (q := q) (c := 32) (by decide) (by decide) (by decide) (by rw [e, z]; simp)⟩
theorem tPt_first {p : Pt} : ∃ c r, cp (tPt p) = c :: r ∧ c ≠ 32 := by
  obtain ⟨c, r, e, h⟩ := tSh_first (q := p.1)
  exact ⟨c, _, by unfold tPt; rw [cp_app, cp_app, e]; rfl, h⟩
theorem tCv_first {p : Pt} {ps : List Pt} : ∃ c r, cp (tCv (p :: ps)) = c :: r ∧ c ≠ 32 := by
  obtain ⟨c, r, e, h⟩ := tPt_first (p := p)
  unfold tCv
  rw [cp_join, List.map_cons, List.map_cons]
  cases hr : (ps.map tPt).map cp with
  | nil => exact ⟨c, r, e, h⟩
  | cons a b => exact ⟨c, _, by rw [jn_cons _ _ (by simp), e]; rfl, h⟩
/-- the stroke is at one place alone -/
theorem at_stroke {x : Str} {G G' : List Nat} {k : Nat} (hx : cp x = G ++ 124 :: G') (hG : 124 ∉ G) (hG' : 124 ∉ G') (h : StrLaws.At x " | " x.length k) : k + 1 = G.length := by
  have e := at_cps h 1 124 rfl
  change (cp x)[k + 1]? = some 124 at e
  rw [hx] at e
  rcases Nat.lt_trichotomy (k + 1) G.length with z | z | z
  · rw [List.getElem?_append_left z] at e
    exact absurd (List.mem_of_getElem? e) hG
  · exact z
  · rw [List.getElem?_append_right (by omega)] at e
    obtain ⟨j, hj⟩ : ∃ j, k + 1 - G.length = j + 1 := ⟨k - G.length, by omega⟩
    rw [hj, List.getElem?_cons_succ] at e
    exact absurd (List.mem_of_getElem? e) hG'
theorem no_pa1 {x : Str} {G G' : List Nat} {c : Nat} (hx : cp x = G ++ 124 :: c :: G') (hG : 124 ∉ G) (hG' : 124 ∉ c :: G') (hc : c ≠ 32) : Txt.split x " | " = [x] := split_none (by decide) fun k h => by
  have e := at_stroke hx hG hG' h
  have e2 := at_cps h 2 32 rfl
  change (cp x)[k + 2]? = some 32 at e2
  rw [hx, List.getElem?_append_right (by omega), show k + 2 - G.length = 1 by omega] at e2
  exact hc (Option.some.inj e2)
theorem no_pa2 {x : Str} {G G' : List Nat} {c : Nat} (hx : cp x = (G ++ [c]) ++ 124 :: G') (hG : 124 ∉ G ++ [c]) (hG' : 124 ∉ G') (hc : c ≠ 32) : Txt.split x " | " = [x] := split_none (by decide) fun k h => by
  have e := at_stroke hx hG hG' h
  have e2 := at_cps h 0 32 rfl
  change (cp x)[k + 0]? = some 32 at e2
  rw [List.length_append, List.length_singleton] at e
  rw [hx, Nat.add_zero, List.getElem?_append_left (by rw [List.length_append, List.length_singleton]; omega), List.getElem?_append_right (by omega), show k - G.length = 0 by omega] at e2
  exact hc (Option.some.inj e2)
/-- good |good -/
theorem bdA_left {p : Pt} {ps : List Pt} (h : ∀ q ∈ p :: ps, FgP 100 q) (hl : (p :: ps).length ≤ 12) : BdA (tCv (p :: ps) ++ " |" ++ tCv (p :: ps)) := by
  have ln := tCv_ln (k := 100) (by decide) h
  obtain ⟨c, r, e, hc⟩ := tCv_first (p := p) (ps := ps)
  have ex : cp (tCv (p :: ps) ++ " |" ++ tCv (p :: ps)) = (cp (tCv (p :: ps)) ++ [32]) ++ 124 :: c :: r := by
    rw [cp_app, cp_app, ← e]
    show _ ++ [32, 124] ++ _ = _
    simp [List.append_assoc]
  have n1 : 124 ∉ cp (tCv (p :: ps)) ++ [32] := fun z => by
    rcases List.mem_append.mp z with z | z
    · exact tCv_no z
    · exact absurd (List.mem_singleton.mp z) (by decide)
  have ll : (tCv (p :: ps)).length ≤ 4896 := Nat.le_trans ln (by show _ * 408 ≤ 12 * 408; exact Nat.mul_le_mul_right _ hl)
  refine .item [] _ [] (no_pa1 ex n1 (by rw [← e]; exact tCv_no) hc) (fun c hc => nomatch hc) (by rw [len_app, len_app]; show _ + 2 + _ ≤ 50000; omega) ?_
  have ej : tCv (p :: ps) ++ " |" ++ tCv (p :: ps) = Str.join " " ((p :: ps).map tPt ++ [("|" : Str) ++ tPt p] ++ ps.map tPt) := by
    rw [List.append_assoc, join_app (by simp) (by simp)]
    show _ = _ ++ " " ++ Str.join " " (("|" ++ tPt p) :: ps.map tPt)
    rw [join_head]
    refine cp_ext ?_
    unfold tCv
    rw [cp_app, cp_app, cp_app, cp_app, cp_app, List.map_cons]
    show _ ++ [32, 124] ++ _ = _ ++ [32] ++ ([124] ++ _)
    simp [List.append_assoc]
  rw [ej]
  exact bdC_in (badIn_ahead (h p (by simp))) h
theorem tSh_last {q : Rat} : ∃ G c, cp (tSh q) = G ++ [c] ∧ c ≠ 32 := by
  obtain ⟨a, r, e, _⟩ := tSh_first (q := q)
  rcases List.eq_nil_or_concat (cp (tSh q)) with z | ⟨G, c, z⟩
  · rw [z] at e; cases e
  · exact ⟨G, c, by rw [z]; simp, fun hc => tSh_no (q := q) (c := 32) (by decide) (by decide) (by decide) (by rw [z, hc]; simp)⟩
theorem tCv_last {p : Pt} {ps : List Pt} : ∃ G c, cp (tCv (ps ++ [p])) = G ++ [c] ∧ c ≠ 32 := by
  obtain ⟨G, c, e, h⟩ := tSh_last (q := p.2)
  have ej : tCv (ps ++ [p]) = Str.join " " (ps.map tPt ++ [("" : Str)]) ++ tPt p := by
    unfold tCv
    rw [List.map_append, ← join_last]
    show Str.join " " (ps.map tPt ++ [tPt p]) = Str.join " " (ps.map tPt ++ ["" ++ tPt p])
    rw [show ("" : Str) ++ tPt p = tPt p from cp_ext (by rw [cp_app]; rfl)]
  refine ⟨cp (Str.join " " (ps.map tPt ++ [("" : Str)])) ++ (cp (tSh p.1) ++ cp ",") ++ G, c, ?_, h⟩
  rw [ej, cp_app]
  unfold tPt
  rw [cp_app, cp_app, e]
  simp [List.append_assoc]
/-- good| good -/
theorem bdA_right {p : Pt} {ps : List Pt} (h : ∀ q ∈ ps ++ [p], FgP 100 q) (hl : (ps ++ [p]).length ≤ 12) : BdA (tCv (ps ++ [p]) ++ "| " ++ tCv (ps ++ [p])) := by
  have ln := tCv_ln (k := 100) (by decide) h
  obtain ⟨G, c, e, hc⟩ := tCv_last (p := p) (ps := ps)
  have ex : cp (tCv (ps ++ [p]) ++ "| " ++ tCv (ps ++ [p])) = (G ++ [c]) ++ 124 :: (32 :: cp (tCv (ps ++ [p]))) := by
    rw [cp_app, cp_app, ← e]
    show _ ++ [124, 32] ++ _ = _
    simp [List.append_assoc]
  have n2 : 124 ∉ 32 :: cp (tCv (ps ++ [p])) := fun z => by
    rcases List.mem_cons.mp z with z | z
    · exact absurd z (by decide)
    · exact tCv_no z
  have ll : (tCv (ps ++ [p])).length ≤ 4896 := Nat.le_trans ln (by show _ * 408 ≤ 12 * 408; exact Nat.mul_le_mul_right _ hl)
  refine .item [] _ [] (no_pa2 ex (by rw [← e]; exact tCv_no) n2 hc) (fun c hc => nomatch hc) (by rw [len_app, len_app]; show _ + 2 + _ ≤ 50000; omega) ?_
  have ej : tCv (ps ++ [p]) ++ "| " ++ tCv (ps ++ [p]) = Str.join " " (ps.map tPt ++ [tPt p ++ "|"] ++ (ps ++ [p]).map tPt) := by
    rw [join_app (by simp) (by simp), join_last]
    refine cp_ext ?_
    unfold tCv
    rw [cp_app, cp_app, cp_app, cp_app, cp_app, List.map_append]
    show _ ++ [124, 32] ++ _ = _ ++ [124] ++ [32] ++ _
    simp [List.append_assoc]
  rw [ej]
  exact bdC_in (badIn_behind (c := 124) (h p (by simp)) rfl (by decide) (by decide) (by decide) (by decide)) (fun q hq => h q (by simp [hq]))
/-- what spoils a curve, of no great length, without a stroke -/
structure BadS (b : Str) : Prop where
  bad : BadIn b
  st : 124 ∉ cp b
  len : b.length ≤ 1000
theorem join_no {ts : List Str} (h : ∀ t ∈ ts, 124 ∉ cp t) : 124 ∉ cp (Str.join " " ts) := fun z => by
  rw [cp_join] at z
  refine jn_sg (P := fun c => c ≠ 124) (fun c hc => ?_) _ (fun p hp c hc e => ?_) 124 z rfl
  · have : c = 32 := List.mem_singleton.mp hc
    omega
  · obtain ⟨t, ht, rfl⟩ := List.mem_map.mp hp
    rw [e] at hc
    exact h t ht hc
theorem badS_share {q : Rat} (h : Fg 100 q) : BadS (tSh q) := by
  have l := tSh_ln (k := 100) (by decide) h
  exact ⟨badIn_one (tSh_no (by decide) (by decide) (by decide)) (by omega) (bdP_none (tSh_no (by decide) (by decide) (by decide))), tSh_no (by decide) (by decide) (by decide), by omega⟩
theorem badS_odd1 {x : Str} {q : Rat} (o : Odd x) (hq : Fg 100 q) : BadS (x ++ "," ++ tSh q) := by
  have l := tSh_ln (k := 100) (by decide) hq
  have lx := o.len
  refine ⟨badIn_odd1 o hq, ?_, by rw [len_app, len_app]; show _ + 1 + _ ≤ 1000; omega⟩
  rw [cp_app, cp_app]
  simp only [List.mem_append]
  rintro ((z | z) | z)
  · exact o.st z
  · exact absurd (List.mem_singleton.mp z) (by decide)
  · exact tSh_no (by decide) (by decide) (by decide) z
theorem badS_odd2 {x : Str} {q : Rat} (o : Odd x) (hq : Fg 100 q) : BadS (tSh q ++ "," ++ x) := by
  have l := tSh_ln (k := 100) (by decide) hq
  have lx := o.len
  refine ⟨badIn_odd2 o hq, ?_, by rw [len_app, len_app]; show _ + 1 + _ ≤ 1000; omega⟩
  rw [cp_app, cp_app]
  simp only [List.mem_append]
  rintro ((z | z) | z)
  · exact tSh_no (by decide) (by decide) (by decide) z
  · exact absurd (List.mem_singleton.mp z) (by decide)
  · exact o.st z
theorem badS_three {p : Pt} (hp : FgP 100 p) : BadS (tSh p.1 ++ "," ++ tSh p.2 ++ ",1") := by
  have l := tPt_ln (k := 100) (by decide) hp
  have ex : tSh p.1 ++ "," ++ tSh p.2 ++ ",1" = tSh p.1 ++ "," ++ tSh p.2 ++ "," ++ "1" := cp_ext (by rw [cp_app, cp_app, cp_app, cp_app, cp_app, cp_app, cp_app]; simp only [List.append_assoc]; rfl)
  have nn : ∀ c : Nat, c ≠ 44 → c ≠ 49 → c ≠ 45 → c ≠ 47 → ¬ (48 ≤ c ∧ c ≤ 57) → c ∉ cp (tSh p.1 ++ "," ++ tSh p.2 ++ ",1") := fun c a0 a1 a2 a3 a4 z => by
    rw [cp_app] at z
    rcases List.mem_append.mp z with z | z
    · exact tPt_no (p := p) a0 a2 a3 a4 z
    · have z' : c ∈ [44, 49] := z
      simp at z'
      omega
  have ll : (tSh p.1 ++ "," ++ tSh p.2 ++ ",1").length ≤ 1000 := by rw [len_app]; show (tPt p).length + 2 ≤ 1000; omega
  exact ⟨badIn_one (nn 32 (by decide) (by decide) (by decide) (by decide) (by decide)) (by omega) (by rw [ex]; exact bdP_three (tSh_no (by decide) (by decide) (by decide)) (tSh_no (by decide) (by decide) (by decide)) (by decide)), nn 124 (by decide) (by decide) (by decide) (by decide) (by decide), ll⟩
theorem badS_blank {p : Pt} (hp : FgP 100 p) : BadS (tPt p ++ " ") := by
  have l := tPt_ln (k := 100) (by decide) hp
  refine ⟨badIn_blank hp, ?_, by rw [len_app]; show _ + 1 ≤ 1000; omega⟩
  rw [cp_app]
  intro z
  rcases List.mem_append.mp z with z | z
  · exact tPt_no (by decide) (by decide) (by decide) (by decide) z
  · exact absurd (List.mem_singleton.mp z) (by decide)
theorem badS_comma : BadS "," := ⟨badIn_comma, by decide, by decide⟩
noncomputable def spAllR (K : PySem.W.Frag) : Sp := fun vs H Q _ => ∃ (a l : Addr) (ns : List Int) (ws : List V) (ps : List Pt), vs = [.ref a, .ref l] ∧ SqL K H a (ns.map V.int) ∧ H l = some (.lst ws) ∧ PtsV H ws ps ∧ 1 ≤ ps.length ∧ ps.length ≤ 12 ∧ (∀ p ∈ ps, FgP 100 p) ∧ ∀ H', Same H H' → Q (.bl true) H'
theorem cat_lnG {a b : Str} {m n : Nat} (ha : a.length ≤ m) (hb : b.length ≤ n) (h : m + n ≤ 100000 := by decide) : a.length + b.length ≤ sizeLine := Nat.le_of_lt (small_line (by omega))
theorem jl_ok {ts : List Str} (h : ∀ t ∈ ts, t.length ≤ 1000) (hl : ts.length ≤ 30) : JoinOk " " ts = true := join_ok h (by
  have e : (" " : Str).length = 1 := rfl
  rw [e]
  have := Nat.mul_le_mul_right 1000 hl
  omega)
end Cv

/-! What k81's law needs at its end -/
namespace Cv
open PySem PySem.Spec PyProof.Rows L2
theorem one_over (m : Int) (h1 : 1 ≤ m) (h9 : m ≤ 9) : ∃ q : Rat, q.num = 1 ∧ (q.den : Int) = m ∧ q ≠ 0 := by
  have : m = 1 ∨ m = 2 ∨ m = 3 ∨ m = 4 ∨ m = 5 ∨ m = 6 ∨ m = 7 ∨ m = 8 ∨ m = 9 := by omega
  rcases this with rfl | rfl | rfl | rfl | rfl | rfl | rfl | rfl | rfl
  · exact ⟨1, by decide +kernel⟩
  · exact ⟨1 / 2, by decide +kernel⟩
  · exact ⟨1 / 3, by decide +kernel⟩
  · exact ⟨1 / 4, by decide +kernel⟩
  · exact ⟨1 / 5, by decide +kernel⟩
  · exact ⟨1 / 6, by decide +kernel⟩
  · exact ⟨1 / 7, by decide +kernel⟩
  · exact ⟨1 / 8, by decide +kernel⟩
  · exact ⟨1 / 9, by decide +kernel⟩
noncomputable def twoQ (ps : List Pt) (o : Pt) : Nat → List Pt := fun i => if i = 0 then ps else [o]
theorem tPa_twoQ (ps : List Pt) (o : Pt) : tPa 2 (twoQ ps o) = tCv ps ++ " | " ++ tPt o := by
  refine cp_ext ?_
  unfold tPa
  rw [cp_join, cp_app, cp_app]
  rfl
theorem tPa_oneQ (ps : List Pt) : tPa 1 (fun _ => ps) = tCv ps := rfl
theorem twoQ_apart {ps : List Pt} {p : Pt} {q : Rat} (hz : ps[ps.length - 1]? = some p) (hq : q ≠ 0) : ¬ Joined 2 (twoQ ps (p.1 + q, p.2)) := fun h => by
  have := h 0 (by decide)
  change ps[ps.length - 1]? = some (p.1 + q, p.2) at this
  rw [hz] at this
  have e := congrArg (fun x : Option Pt => (x.getD p).1) this
  change p.1 = p.1 + q at e
  apply hq
  have e2 : p.1 + q - p.1 = 0 := by rw [← e]; exact Rat.sub_self
  rw [Rat.add_comm, Rat.add_sub_cancel] at e2
  exact e2
theorem twoQ_ok {ps : List Pt} {o : Pt} (h1 : 1 ≤ ps.length) (h12 : ps.length ≤ 12) (hf : ∀ p ∈ ps, FgP 100 p) (ho : FgP 100 o) : ∀ i, i < 2 → 1 ≤ (twoQ ps o i).length ∧ (twoQ ps o i).length ≤ 12 ∧ ∀ p ∈ twoQ ps o i, FgP 100 p := fun i hi => by
  unfold twoQ
  split
  · exact ⟨h1, h12, hf⟩
  · exact ⟨by simp, by simp, fun p hp => by rw [List.mem_singleton.mp hp]; exact ho⟩
theorem last_split {ps : List Pt} (h : 1 ≤ ps.length) : ∃ r p, ps = r ++ [p] := by
  rcases List.eq_nil_or_concat ps with e | ⟨r, p, e⟩
  · rw [e] at h; simp at h
  · rw [List.concat_eq_append] at e
    exact ⟨r, p, e⟩
theorem bdC_line {ps : List Pt} (h1 : 1 ≤ ps.length) (hf : ∀ p ∈ ps, FgP 100 p) : BdC (tCv ps ++ "\n") := by
  obtain ⟨r, p, rfl⟩ := last_split h1
  exact bdC_last (fun q hq => hf q (List.mem_append_left _ hq)) (badIn_behind (c := 10) (hf p (by simp)) rfl (by decide) (by decide) (by decide) (by decide))
theorem bdC_cm {ps : List Pt} (h1 : 1 ≤ ps.length) (hf : ∀ p ∈ ps, FgP 100 p) : BdC (tCv ps ++ ",") := by
  obtain ⟨r, p, rfl⟩ := last_split h1
  exact bdC_last (fun q hq => hf q (List.mem_append_left _ hq)) (badIn_cm (hf p (by simp)))
theorem bdA_line {ps : List Pt} (h1 : 1 ≤ ps.length) (hf : ∀ p ∈ ps, FgP 100 p) (hl : (tCv ps ++ "\n").length ≤ 50000) : BdA (tCv ps ++ "\n") := bdA_one (by
  rw [cp_app, List.mem_append]
  rintro (h | h)
  · exact tCv_no h
  · revert h; decide) hl (bdC_line h1 hf)
theorem tCv_one (o : Pt) : tCv [o] = tPt o := rfl
theorem bdA_three {ps : List Pt} {o : Pt} (h1 : 1 ≤ ps.length) (h12 : ps.length ≤ 12) (hf : ∀ p ∈ ps, FgP 100 p) (ho : FgP 100 o) (hl : (tCv ps ++ ",").length ≤ 50000) : BdA (tCv ps ++ " | " ++ tPt o ++ " | " ++ tCv ps ++ ",") := by
  refine .item [ps, [o]] (tCv ps ++ ",") [] (spl_pa (ts := [tCv ps, tCv [o], tCv ps ++ ","]) (by simp) (fun t ht => ?_) (cp_ext ?_)) (fun c hc => ?_) hl (bdC_cm h1 hf)
  · simp only [List.mem_cons, List.not_mem_nil, or_false] at ht
    rcases ht with rfl | rfl | rfl
    · exact tCv_no
    · exact tCv_no
    · rw [cp_app, List.mem_append]
      rintro (h | h)
      · exact tCv_no h
      · revert h; decide
  · rw [cp_join, cp_app, cp_app, cp_app, cp_app, cp_app]
    simp [jn, tCv_one, cp_app, List.append_assoc]
  · simp only [List.mem_cons, List.not_mem_nil, or_false] at hc
    rcases hc with rfl | rfl
    · exact ⟨h1, h12, hf⟩
    · exact ⟨by simp, by simp, fun p hp => by rw [List.mem_singleton.mp hp]; exact ho⟩
noncomputable def manyL (a b : Str) : List Str := [a, b, a, b, a, b, a, b, a, b, a, b, a]
theorem manyL_mem {a b t : Str} (h : t ∈ manyL a b) : t = a ∨ t = b := by
  simp only [manyL, List.mem_cons, List.not_mem_nil, or_false] at h
  rcases h with h | h | h | h | h | h | h | h | h | h | h | h | h <;> simp [h]
theorem bdA_manyL {p o : Pt} : BdA (Str.join " | " (manyL (tPt p) (tPt o))) := .many (by
  rw [spl_pa (ts := manyL (tPt p) (tPt o)) (by simp [manyL]) (fun t ht => by
    rcases manyL_mem ht with rfl | rfl <;> exact tPt_no (by decide) (by decide) (by decide) (by decide)) rfl]
  simp [manyL])
theorem manyL_ln {a b : Str} (ha : a.length ≤ 1000) (hb : b.length ≤ 1000) : (Str.join " | " (manyL a b)).length ≤ 50000 := by
  have := join_ln (sep := " | ") (ts := manyL a b) (B := 1000) fun t ht => by rcases manyL_mem ht with rfl | rfl <;> assumption
  have e : (" | " : Str).length = 3 := rfl
  have e2 : (manyL a b).length = 13 := rfl
  rw [e, e2] at this
  omega
theorem manyL_ok {a b : Str} (ha : a.length ≤ 1000) (hb : b.length ≤ 1000) : JoinOk " | " (manyL a b) = true := join_ok (B := 1000) (fun t ht => by rcases manyL_mem ht with rfl | rfl <;> assumption) (by show 13 * 1000 + 13 * 3 ≤ _; decide)
end Cv

set_option maxHeartbeats 4000000
namespace Cv
open PySem L2
local macro_rules | `(tactic| walk_at "hf") => `(tactic| first
  | assumption
  | exact upd_same
  | (refine upd_keep (by assumption) ?_; walk_at "hf")
  | (refine (by assumption : L2.Same _ _) _ _ ?_; walk_at "hf")
  | fail)
local macro_rules | `(tactic| walk_at "sm") => `(tactic| first
  | assumption
  | exact L2.Same.refl _
  | (refine L2.Same.trans ?_ (by assumption : L2.Same _ _); walk_at "sm")
  | (refine L2.Same.trans ?_ (Same.new (by assumption)); walk_at "sm")
  | fail)
local macro_rules | `(tactic| walk_at "mv") => `(tactic| first
  | assumption
  | (refine ShV.same ?_ (by assumption : L2.Same _ _); walk_at "mv")
  | (refine ShV.same ?_ (Same.new (by assumption)); walk_at "mv")
  | (refine PtV.same ?_ (by assumption : L2.Same _ _); walk_at "mv")
  | (refine PtV.same ?_ (Same.new (by assumption)); walk_at "mv")
  | (refine RwV.same ?_ (by assumption : L2.Same _ _); walk_at "mv")
  | (refine RwV.same ?_ (Same.new (by assumption)); walk_at "mv")
  | (refine RwQ.same ?_ (by assumption : L2.Same _ _); walk_at "mv")
  | (refine RwQ.same ?_ (Same.new (by assumption)); walk_at "mv")
  | (refine MpV.same ?_ (by assumption : L2.Same _ _); walk_at "mv")
  | (refine MpV.same ?_ (Same.new (by assumption)); walk_at "mv")
  | (refine PtsV.same ?_ (by assumption : L2.Same _ _); walk_at "mv")
  | (refine PtsV.same ?_ (Same.new (by assumption)); walk_at "mv")
  | (refine AxV.same ?_ (by assumption : L2.Same _ _); walk_at "mv")
  | (refine AxV.same ?_ (Same.new (by assumption)); walk_at "mv")
  | (refine ShL.same ?_ (by assumption : L2.Same _ _); walk_at "mv")
  | (refine ShL.same ?_ (Same.new (by assumption)); walk_at "mv")
  | (refine SqL.same' ?_ (by assumption : L2.Same _ _); walk_at "mv")
  | (refine SqL.same' ?_ (Same.new (by assumption)); walk_at "mv")
  | fail)
local macro_rules | `(tactic| walk_at "sq") => `(tactic| first
  | exact SqT.of (by walk_at "hf")
  | exact SqL.of (by walk_at "hf")
  | walk_at "mv"
  | fail)
local macro_rules | `(tactic| walk_at "at") => `(tactic| first
  | rfl
  | assumption
  | exact at_mapZ _ _ (by omega) (by omega)
  | fail)
local macro_rules | `(tactic| walk_at "sz") => `(tactic| first
  | assumption
  | exact Bd.num (by assumption)
  | exact Bd.den (by assumption)
  | exact Sz.one
  | exact Sz.mul (by walk_at "sz") (by walk_at "sz")
  | exact Sz.add (by walk_at "sz") (by walk_at "sz")
  | exact Sz.sub (by walk_at "sz") (by walk_at "sz")
  | exact Sz.neg (by walk_at "sz")
  | fail)
local macro_rules | `(tactic| walk_at "bdx") => `(tactic| first
  | assumption
  | exact Bd.zero'
  | exact Bd.one'
  | exact Bd.add (by walk_at "bdx") (by walk_at "bdx")
  | exact Bd.sub (by walk_at "bdx") (by walk_at "bdx")
  | exact Bd.mul (by walk_at "bdx") (by walk_at "bdx")
  | fail)
local macro_rules | `(tactic| walk_at "bd") => `(tactic| exact Bd.mono (by walk_at "bdx") (by decide))
local macro_rules | `(tactic| walk_at "szm") => `(tactic| exact Sz.mono (by walk_at "sz") (by decide))
local macro_rules | `(tactic| walk_at "arith") => `(tactic| first
  | exact pos30
  | exact pl
  | exact ⟨by decide, by decide⟩
  | exact ⟨by decide, by decide, by decide⟩
  | exact mulL (by decide) (by decide)
  | exact mulR (by decide) (by decide)
  | exact mulR (by omega) (by omega)
  | exact mulL (by omega) (by omega)
  | exact mulB (by walk_at "sz") (by walk_at "sz")
  | fail)
local macro_rules | `(tactic| walk_at "len") => `(tactic| first
  | (show 2 ≤ sizeLine; decide)
  | (show 0 ≤ sizeLine; decide)
  | (show 1 ≤ sizeLine; decide)
  | (show 3 ≤ sizeLine; decide)
  | (show 4 ≤ sizeLine; decide)
  | (show 5 ≤ sizeLine; decide)
  | (show 6 ≤ sizeLine; decide)
  | (show 8 ≤ sizeLine; decide)
  | fail)
local macro_rules | `(tactic| walk_at "r1") => `(tactic| first
  | refine ⟨_, _, rfl, rfl, by walk_at "arith", ?_⟩
  | refine ⟨_, _, rfl, rfl, ?_⟩
  | refine ⟨_, _, _, _, rfl, rfl, by walk_at "sq", by walk_at "at", ?_⟩
  | refine ⟨_, rfl, ?_⟩
  | refine ⟨rfl, ?_⟩
  | refine ⟨_, _, rfl, .inr (SqT.of (by walk_at "hf")), ?_⟩
  | refine ⟨_, _, rfl, .inl (SqL.of (by walk_at "hf")), ?_⟩
  | refine ⟨_, "tuple", _, _, rfl, TyOf.tup (by walk_at "hf"), kit_tt _, ?_⟩
  | refine ⟨_, "list", _, _, rfl, TyOf.lst (by walk_at "hf"), kit_ll _, ?_⟩
  | refine ⟨_, "int", _, _, rfl, TyOf.int _, kit_ii _, ?_⟩
  | refine ⟨_, "bool", _, _, rfl, TyOf.int _, kit_ib _, ?_⟩
  | refine ⟨_, "bool", _, _, rfl, TyOf.bl _, kit_bb _, ?_⟩
  | refine ⟨by walk_at "len", ?_⟩
  | refine ⟨by decide, ?_⟩
  | fail)
local macro_rules | `(tactic| walk_at "rd") => `(tactic| repeat walk_at "r1")
local macro_rules | `(tactic| walk_at "fr") => `(tactic| first
  | assumption
  | (refine L2.Same.free (by assumption : L2.Same _ _) ?_; walk_at "fr")
  | (refine L2.Same.free (Same.new (by assumption)) ?_; walk_at "fr")
  | fail)
local macro_rules | `(tactic| walk_at "tk") => `(tactic| first
  | assumption
  | fail)
local macro_rules | `(tactic| walk_at "mv") => `(tactic| first
  | assumption
  | (refine ShK.same ?_ (by assumption : L2.Same _ _); walk_at "mv")
  | (refine ShK.same ?_ (Same.new (by assumption)); walk_at "mv")
  | (refine PtK.same ?_ (by assumption : L2.Same _ _); walk_at "mv")
  | (refine PtK.same ?_ (Same.new (by assumption)); walk_at "mv")
  | (refine PtsK.same ?_ (by assumption : L2.Same _ _); walk_at "mv")
  | (refine PtsK.same ?_ (Same.new (by assumption)); walk_at "mv")
  | (refine ShV.k ?_; walk_at "mv")
  | (refine PtV.k ?_; walk_at "mv")
  | (refine PtsV.k ?_; walk_at "mv")
  | fail)
local macro_rules | `(tactic| walk_at "sq") => `(tactic| first
  | exact TK.sq (by walk_at "tk")
  | fail)
local macro_rules | `(tactic| walk_at "rk1") => `(tactic| first
  | refine ⟨_, "tuple", _, _, rfl, .inr ⟨rfl, _, _, rfl, by walk_at "sq"⟩, kit_tt _, ?_⟩
  | refine ⟨_, "list", _, _, rfl, .inl (TyOf.lst (by walk_at "hf")), kit_ll _, ?_⟩
  | refine ⟨_, "int", _, _, rfl, .inl (TyOf.int _), kit_ii _, ?_⟩
  | refine ⟨_, "bool", _, _, rfl, .inl (TyOf.int _), kit_ib _, ?_⟩
  | refine ⟨_, "bool", _, _, rfl, .inl (TyOf.bl _), kit_bb _, ?_⟩
  | refine ⟨_, _, rfl, .inr (by walk_at "sq"), ?_⟩
  | walk_at "r1"
  | fail)
local macro_rules | `(tactic| walk_at "rk") => `(tactic| repeat walk_at "rk1")

structure Cst (K : PySem.W.Frag) (mg : Str → Option Value) (t_MOST_CURVES t_MOST_SEATS t_FIGURES t_MOST_FIGURES : Tok) : Prop where
  MOST_CURVES : mg "MOST_CURVES" = some (.int 12 t_MOST_CURVES)
  MOST_SEATS : mg "MOST_SEATS" = some (.int 12 t_MOST_SEATS)
  FIGURES : mg "FIGURES" = some (.str "0123456789" t_FIGURES)
  MOST_FIGURES : mg "MOST_FIGURES" = some (.int 100 t_MOST_FIGURES)
  divmod : mg "divmod" = none
structure Exc (K : PySem.W.Frag) (mg : Str → Option Value) (C_SeatError C_NoJoin C_NoPlace C_NoText C_NoShare C_NoLower C_NoMap C_TooMany C_NoName : Addr) : Prop where
  SeatError : mg "SeatError" = some (.ref C_SeatError)
  NoJoin : mg "NoJoin" = some (.ref C_NoJoin)
  NoPlace : mg "NoPlace" = some (.ref C_NoPlace)
  NoText : mg "NoText" = some (.ref C_NoText)
  NoShare : mg "NoShare" = some (.ref C_NoShare)
  NoLower : mg "NoLower" = some (.ref C_NoLower)
  NoMap : mg "NoMap" = some (.ref C_NoMap)
  TooMany : mg "TooMany" = some (.ref C_TooMany)
  NoName : mg "NoName" = some (.ref C_NoName)
  xNoJoin : XCls K mg "NoJoin" C_NoJoin
  mNoJoin : PySem.W.exmOne K (.ref C_NoJoin) (.ref C_SeatError) = some true
  vNoJoin : PySem.W.kitOne K (.ref C_NoJoin) (.type "ValueError") = some true
  xNoPlace : XCls K mg "NoPlace" C_NoPlace
  mNoPlace : PySem.W.exmOne K (.ref C_NoPlace) (.ref C_SeatError) = some true
  vNoPlace : PySem.W.kitOne K (.ref C_NoPlace) (.type "ValueError") = some true
  xNoText : XCls K mg "NoText" C_NoText
  mNoText : PySem.W.exmOne K (.ref C_NoText) (.ref C_SeatError) = some true
  vNoText : PySem.W.kitOne K (.ref C_NoText) (.type "ValueError") = some true
  sNoText : PySem.W.exmOne K (.ref C_NoText) (.ref C_NoText) = some true
  nNoText : XNot K C_NoText
  fNoText_NoJoin : PySem.W.kitOne K (.ref C_NoText) (.ref C_NoJoin) = some false
  fNoText_NoPlace : PySem.W.kitOne K (.ref C_NoText) (.ref C_NoPlace) = some false
  fNoText_NoShare : PySem.W.kitOne K (.ref C_NoText) (.ref C_NoShare) = some false
  fNoText_NoLower : PySem.W.kitOne K (.ref C_NoText) (.ref C_NoLower) = some false
  fNoText_NoMap : PySem.W.kitOne K (.ref C_NoText) (.ref C_NoMap) = some false
  fNoText_TooMany : PySem.W.kitOne K (.ref C_NoText) (.ref C_TooMany) = some false
  fNoText_NoName : PySem.W.kitOne K (.ref C_NoText) (.ref C_NoName) = some false
  sNoJoin : PySem.W.exmOne K (.ref C_NoJoin) (.ref C_NoJoin) = some true
  nNoJoin : XNot K C_NoJoin
  fNoJoin_NoPlace : PySem.W.kitOne K (.ref C_NoJoin) (.ref C_NoPlace) = some false
  fNoJoin_NoText : PySem.W.kitOne K (.ref C_NoJoin) (.ref C_NoText) = some false
  fNoJoin_NoShare : PySem.W.kitOne K (.ref C_NoJoin) (.ref C_NoShare) = some false
  fNoJoin_NoLower : PySem.W.kitOne K (.ref C_NoJoin) (.ref C_NoLower) = some false
  fNoJoin_NoMap : PySem.W.kitOne K (.ref C_NoJoin) (.ref C_NoMap) = some false
  fNoJoin_TooMany : PySem.W.kitOne K (.ref C_NoJoin) (.ref C_TooMany) = some false
  fNoJoin_NoName : PySem.W.kitOne K (.ref C_NoJoin) (.ref C_NoName) = some false
noncomputable def top (i : Nat) : Stmt := PySem.Challenge.pw_curveseat_k81_no_text.main.body.getD i (.Pass ⟨0, 0, 0, 0⟩)
noncomputable abbrev s_greatest_common : Stmt := top 12
theorem sc_greatest_common : FnScope ["one", "other"] ["one", "other"] (defScope s_greatest_common) := ⟨rfl, rfl, rfl, by decide +kernel, rfl, by decide +kernel, by decide +kernel⟩
noncomputable abbrev s_share : Stmt := top 13
theorem sc_share : FnScope ["top", "bottom", "common"] ["top", "bottom"] (defScope s_share) := ⟨rfl, rfl, rfl, by decide +kernel, rfl, by decide +kernel, by decide +kernel⟩
noncomputable abbrev s_copied : Stmt := top 28
theorem sc_copied : FnScope ["curves"] ["curves"] (defScope s_copied) := ⟨rfl, rfl, rfl, by decide +kernel, rfl, by decide +kernel, by decide +kernel⟩
noncomputable abbrev s_Path___init__ : Stmt := inClass (top 29) 0
theorem sc_Path___init__ : FnScope ["self", "curves"] ["self", "curves"] (defScope s_Path___init__) := ⟨rfl, rfl, rfl, by decide +kernel, rfl, by decide +kernel, by decide +kernel⟩
noncomputable abbrev s_Path_curves : Stmt := inClass (top 29) 1
theorem sc_Path_curves : FnScope ["self"] ["self"] (defScope s_Path_curves) := ⟨rfl, rfl, rfl, by decide +kernel, rfl, by decide +kernel, by decide +kernel⟩
noncomputable abbrev s_pieces : Stmt := top 34
theorem sc_pieces : FnScope ["text", "sign"] ["text", "sign"] (defScope s_pieces) := ⟨rfl, rfl, rfl, by decide +kernel, rfl, by decide +kernel, by decide +kernel⟩
noncomputable abbrev s_read_figures : Stmt := top 35
theorem sc_read_figures : FnScope ["text"] ["text"] (defScope s_read_figures) := ⟨rfl, rfl, rfl, by decide +kernel, rfl, by decide +kernel, by decide +kernel⟩
noncomputable abbrev s_read_whole : Stmt := top 36
theorem sc_read_whole : FnScope ["text", "number"] ["text"] (defScope s_read_whole) := ⟨rfl, rfl, rfl, by decide +kernel, rfl, by decide +kernel, by decide +kernel⟩
noncomputable abbrev s_read_share : Stmt := top 37
theorem sc_read_share : FnScope ["text", "found", "top", "bottom"] ["text"] (defScope s_read_share) := ⟨rfl, rfl, rfl, by decide +kernel, rfl, by decide +kernel, by decide +kernel⟩
noncomputable abbrev s_read_point : Stmt := top 38
theorem sc_read_point : FnScope ["text", "found"] ["text"] (defScope s_read_point) := ⟨rfl, rfl, rfl, by decide +kernel, rfl, by decide +kernel, by decide +kernel⟩
noncomputable abbrev s_read_curve : Stmt := top 39
theorem sc_read_curve : FnScope ["text", "found"] ["text"] (defScope s_read_curve) := ⟨rfl, rfl, rfl, by decide +kernel, rfl, by decide +kernel, by decide +kernel⟩
noncomputable abbrev s_read_path : Stmt := top 40
theorem sc_read_path : FnScope ["text", "found"] ["text"] (defScope s_read_path) := ⟨rfl, rfl, rfl, by decide +kernel, rfl, by decide +kernel, by decide +kernel⟩
noncomputable abbrev s_l_cell_at : Stmt := top 42
theorem sc_l_cell_at : FnScope ["_law_script", "_law_k"] ["_law_script", "_law_k"] (defScope s_l_cell_at) := ⟨rfl, rfl, rfl, by decide +kernel, rfl, by decide +kernel, by decide +kernel⟩
noncomputable abbrev s_l_stream : Stmt := top 43
theorem sc_l_stream : FnScope ["_law_cell", "_law_many", "_law_number", "_law_found", "_law_k"] ["_law_cell", "_law_many"] (defScope s_l_stream) := ⟨rfl, rfl, rfl, by decide +kernel, rfl, by decide +kernel, by decide +kernel⟩
noncomputable abbrev s_l_low : Stmt := top 44
theorem sc_l_low : FnScope ["_law_top", "_law_bottom", "_law_one", "_law_other"] ["_law_top", "_law_bottom"] (defScope s_l_low) := ⟨rfl, rfl, rfl, by decide +kernel, rfl, by decide +kernel, by decide +kernel⟩
noncomputable abbrev s_l_plus : Stmt := top 45
theorem sc_l_plus : FnScope ["_law_one", "_law_other"] ["_law_one", "_law_other"] (defScope s_l_plus) := ⟨rfl, rfl, rfl, by decide +kernel, rfl, by decide +kernel, by decide +kernel⟩
noncomputable abbrev s_l_curve : Stmt := top 52
theorem sc_l_curve : FnScope ["_law_cell", "_law_more", "_law_xs", "_law_many", "_law_bottom", "_law_far", "_law_curve_here", "_law_k", "_law_x", "_law_y"] ["_law_cell", "_law_more"] (defScope s_l_curve) := ⟨rfl, rfl, rfl, by decide +kernel, rfl, by decide +kernel, by decide +kernel⟩
noncomputable abbrev s_l_share_text : Stmt := top 55
theorem sc_l_share_text : FnScope ["_law_one"] ["_law_one"] (defScope s_l_share_text) := ⟨rfl, rfl, rfl, by decide +kernel, rfl, by decide +kernel, by decide +kernel⟩
noncomputable abbrev s_l_curve_text : Stmt := top 56
theorem sc_l_curve_text : FnScope ["_law_curve_here"] ["_law_curve_here"] (defScope s_l_curve_text) := ⟨rfl, rfl, rfl, by decide +kernel, rfl, by decide +kernel, by decide +kernel⟩
noncomputable abbrev s_l_asked_of : Stmt := top 57
theorem sc_l_asked_of : FnScope ["_law_way", "_law_text"] ["_law_way", "_law_text"] (defScope s_l_asked_of) := ⟨rfl, rfl, rfl, by decide +kernel, rfl, by decide +kernel, by decide +kernel⟩
noncomputable abbrev s_l_refused : Stmt := top 58
theorem sc_l_refused : FnScope ["_law_way", "_law_text", "_law_joined", "e", "_law_kinds", "_law_due"] ["_law_way", "_law_text", "_law_joined"] (defScope s_l_refused) := ⟨rfl, rfl, rfl, by decide +kernel, rfl, by decide +kernel, by decide +kernel⟩
noncomputable abbrev s_l_no_share : Stmt := top 59
theorem sc_l_no_share : FnScope ["_law_cell", "_law_n", "_law_some"] ["_law_cell"] (defScope s_l_no_share) := ⟨rfl, rfl, rfl, by decide +kernel, rfl, by decide +kernel, by decide +kernel⟩
noncomputable abbrev s_l_all_refused : Stmt := top 60
theorem sc_l_all_refused : FnScope ["_law_script", "_law_curve_here", "_law_cell", "_law_odd", "_law_parts", "_law_at", "_law_x", "_law_y", "_law_pair", "_law_some", "_law_bad", "_law_text", "_law_good"] ["_law_script", "_law_curve_here"] (defScope s_l_all_refused) := ⟨rfl, rfl, rfl, by decide +kernel, rfl, by decide +kernel, by decide +kernel⟩
noncomputable abbrev s_law : Stmt := top 61
theorem sc_law : FnScope ["_law_script", "_law_curve_here", "_law_good", "_law_thing", "_law_way", "_law_first", "_law_x", "_law_y", "_law_other", "_law_text"] ["_law_script"] (defScope s_law) := ⟨rfl, rfl, rfl, by decide +kernel, rfl, by decide +kernel, by decide +kernel⟩
section
variable {P : Program} {w : World} {K : PySem.W.Frag} {mg : Str → Option Value} {base : Heap}
theorem ok_copied {C_Path : Addr} (T_Path : ClsK K mg "Path" C_Path) (N_Path_parts : NoAttr K C_Path "parts") (F : FunAt K mg "copied" s_copied ["curves"]) (B : Blt mg) {C_SeatError C_NoJoin C_NoPlace C_NoText C_NoShare C_NoLower C_NoMap C_TooMany C_NoName : Addr} (X : Exc K mg C_SeatError C_NoJoin C_NoPlace C_NoText C_NoShare C_NoLower C_NoMap C_TooMany C_NoName) {t_MOST_CURVES t_MOST_SEATS t_FIGURES t_MOST_FIGURES : Tok} (G : Cst K mg t_MOST_CURVES t_MOST_SEATS t_FIGURES t_MOST_FIGURES) : DefOk P w K mg base CX0 1 "copied" ["curves"] (spCopied K) := by
  refine def_okI F sc_copied (fun vs H Q E h => ?_) (fun f cdv A outer s H vs Q E hr h => ?_)
  · obtain ⟨a, us, n, qs, rfl, _⟩ := h; rfl
  · obtain ⟨a, us, n, qs, rfl, ha, hU, hn, k⟩ := h
    have hu := hr.units
    refine ⟨_, (pss_oneI (ps_retI (pe_compSI (os := ["curve"]) (caps := []) ["curves"] (defScope s_copied) (pi_listKI K (pvI 0)) (fun _ _ _ _ _ => (pg_nameI (i := 0) (show List.Nodup (["curve"] : List Str) from by decide +kernel) rfl (by first | exact Or.inl rfl | exact Or.inr rfl))) (fun _ _ _ _ _ => (pe_callTyI (call_list_ofKH K) rfl B.list PyProof.Rows.boot_list (pa_consI (pvI 0) pa_nilI))) (by decide +kernel)))), ?_⟩
    walk_at "rd"
    refine ⟨⟨_, SqL.of ha⟩, compL (plain_list (SqL.of ha)) (by have := hU.1; omega) (fun i xs H => PtsV H xs (qs i)) (fun _ _ _ _ tt h => h.tup tt) (fun j H8 kk hj s8 hk => ?_) (fun lk ks H8 hk0 s8 hk8 hkl hKs => ?_)⟩
    · obtain ⟨lj, xj, ej, hj8, hPj⟩ := (hU.same s8).at (show j < n by have := hU.1; omega)
      rw [ej]
      walk_at "rd"
      intro l9 hl9
      exact hk l9 xj _ (Same.new hl9) hl9 upd_same (hPj.same (Same.new hl9))
    exact k lk ks H8 s8 hk0 hk8 (by have := hU.1; omega) hKs
theorem ok_Path_curves {C_Path : Addr} (T_Path : ClsK K mg "Path" C_Path) (N_Path_parts : NoAttr K C_Path "parts") (F : MthAt K C_Path "curves" "Path.curves" s_Path_curves ["self"]) (B : Blt mg) {C_SeatError C_NoJoin C_NoPlace C_NoText C_NoShare C_NoLower C_NoMap C_TooMany C_NoName : Addr} (X : Exc K mg C_SeatError C_NoJoin C_NoPlace C_NoText C_NoShare C_NoLower C_NoMap C_TooMany C_NoName) {t_MOST_CURVES t_MOST_SEATS t_FIGURES t_MOST_FIGURES : Tok} (G : Cst K mg t_MOST_CURVES t_MOST_SEATS t_FIGURES t_MOST_FIGURES) (D_copied : DefOk P w K mg base CX0 1 "copied" ["curves"] (spCopied K)) : MthOk P w K mg base CX0 2 C_Path "curves" ["self"] (spCurves K C_Path) := by
  refine mth_ok F sc_Path_curves (fun vs H Q E h => ?_) (fun f cdv A outer s H vs Q E hr h => ?_)
  · obtain ⟨p, lp, ks, n, qs, rfl, _⟩ := h; rfl
  · obtain ⟨p, lp, ks, n, qs, rfl, ⟨⟨dx, ho⟩, hl, hK⟩, hn, k⟩ := h
    have hu := hr.units
    refine ⟨_, (pss_oneI (ps_retI (pe_fnI D_copied hr pass0 (pa_consI (show PEi _ _ (tFld K _ _) from (pe_fldI (pvI 0))) pa_nilI)))), ?_⟩
    refine ⟨_, rfl, p, C_Path, dx, _, _, rfl, ho, T_Path.cl, N_Path_parts, parts_get lp, ?_⟩
    exact ⟨lp, ks, n, qs, rfl, hl, hK, hn, k⟩
theorem ok_l_cell_at {C_Path : Addr} (T_Path : ClsK K mg "Path" C_Path) (N_Path_parts : NoAttr K C_Path "parts") (F : FunAt K mg "_law_cell_at" s_l_cell_at ["_law_script", "_law_k"]) (B : Blt mg) {C_SeatError C_NoJoin C_NoPlace C_NoText C_NoShare C_NoLower C_NoMap C_TooMany C_NoName : Addr} (X : Exc K mg C_SeatError C_NoJoin C_NoPlace C_NoText C_NoShare C_NoLower C_NoMap C_TooMany C_NoName) {t_MOST_CURVES t_MOST_SEATS t_FIGURES t_MOST_FIGURES : Tok} (G : Cst K mg t_MOST_CURVES t_MOST_SEATS t_FIGURES t_MOST_FIGURES) : DefOk P w K mg base CX0 1 "_law_cell_at" ["_law_script", "_law_k"] (spCell K) := by
  refine def_okI F sc_l_cell_at (fun vs H Q E h => ?_) (fun f cdv A outer s H vs Q E hr h => ?_)
  · obtain ⟨a, ns, i, rfl, _⟩ := h; rfl
  · obtain ⟨a, ns, i, rfl, hS, h0, k⟩ := h
    have hu := hr.units
    refine ⟨_, (pss_consI (ps_ifI (pt_cmpRI op_lt (pvI 1) (pe_callBI (call_lenK K) (by rfl) B.len PySem.boot_len (pa_consI (pvI 0) pa_nilI)) (nomark _)) (pss_oneI (ps_retI (pe_ixI (ix_listK K) (pvI 0) (pvI 1) (fun _ _ => rfl)))) pss_nilI)
      (pss_oneI (ps_retI pe_intI))), ?_⟩
    refine ⟨_, rfl, _, rfl, a, _, rfl, .inl hS, _, _, rfl, rfl, _, rfl, ite_dec (fun hn => ?_) (fun hn => ?_)⟩
    · rw [List.length_map] at hn
      refine ⟨_, rfl, _, rfl, a, _, _, _, rfl, rfl, hS, at_mapZ ns i h0 hn, ?_⟩
      exact k _
    · exact k 0
theorem ok_l_no_share {C_Path : Addr} (T_Path : ClsK K mg "Path" C_Path) (N_Path_parts : NoAttr K C_Path "parts") (F : FunAt K mg "_law_no_share" s_l_no_share ["_law_cell"]) (B : Blt mg) {C_SeatError C_NoJoin C_NoPlace C_NoText C_NoShare C_NoLower C_NoMap C_TooMany C_NoName : Addr} (X : Exc K mg C_SeatError C_NoJoin C_NoPlace C_NoText C_NoShare C_NoLower C_NoMap C_TooMany C_NoName) {t_MOST_CURVES t_MOST_SEATS t_FIGURES t_MOST_FIGURES : Tok} (G : Cst K mg t_MOST_CURVES t_MOST_SEATS t_FIGURES t_MOST_FIGURES) : DefOk P w K mg base CX0 1 "_law_no_share" ["_law_cell"] spOdd := by
  refine def_okI F sc_l_no_share (fun vs H Q E h => ?_) (fun f cdv A outer s H vs Q E hr h => ?_)
  · obtain ⟨c, rfl, _⟩ := h; rfl
  · obtain ⟨c, rfl, k⟩ := h
    have hu := hr.units
    refine ⟨_, (pss_consI (ps_setI (i := 1) sc_l_no_share.nd rfl (by first | exact Or.inl rfl | exact Or.inr rfl) (pe_callTyI call_str_int rfl B.str PyProof.Rows.boot_str (pa_consI (pe_opI op_add pe_intI (pe_opI op_mod (pe_opI op_fdiv (pvI 0) pe_intI) (pe_opI op_pow pe_intI pe_intI))) pa_nilI)))
      (pss_consI (ps_setI (i := 2) sc_l_no_share.nd rfl (by first | exact Or.inl rfl | exact Or.inr rfl) (pe_lstI (pa_consI pe_strI (pa_consI pe_strI (pa_consI pe_strI (pa_consI (pe_opI op_add_str pe_strI (pvI 1)) (pa_consI (pe_opI op_add_str pe_strI (pvI 1)) (pa_consI (pe_opI op_add_str pe_strI (pvI 1)) (pa_consI (pe_opI op_add_str (pvI 1) pe_strI) (pa_consI (pe_opI op_add_str (pvI 1) pe_strI) (pa_consI (pe_opI op_add_str (pvI 1) pe_strI) (pa_consI (pe_opI op_add_str (pvI 1) pe_strI) (pa_consI (pe_opI op_add_str pe_strI (pvI 1)) (pa_consI (pe_opI op_add_str (pe_opI op_add_str (pvI 1) pe_strI) (pvI 1)) pa_nilI))))))))))))))
      (pss_consI (ps_setI (i := 2) sc_l_no_share.nd rfl (by first | exact Or.inl rfl | exact Or.inr rfl) (pe_opI op_cat (pvI 2) (pe_lstI (pa_consI (pe_opI op_add_str (pe_callTyI call_str_int rfl B.str PyProof.Rows.boot_str (pa_consI (pe_opI op_mulA pe_intI (pe_callTyI call_int_text rfl B.int PyProof.Rows.boot_int (pa_consI (pvI 1) pa_nilI))) pa_nilI)) pe_strI) (pa_consI pe_strI (pa_consI (pe_opI op_add_str (pvI 1) pe_strI) (pa_consI (pe_opI op_add_str (pvI 1) pe_strI) (pa_consI (pe_opI op_add_str pe_strI (pvI 1)) (pa_consI (pe_opI op_add_str (pvI 1) pe_strI) (pa_consI (pe_opI op_add_str (pe_opI op_add_str (pvI 1) pe_strI) (pvI 1)) (pa_consI pe_strI (pa_consI (pe_opI op_repS pe_strI pe_intI) pa_nilI))))))))))))
      (pss_oneI (ps_retI (pe_ixI (ix_listK K) (pvI 2) (pe_opI op_mod (pvI 0) pe_intI) (fun _ _ => rfl))))))), ?_⟩
    have p30 : (10 : Int) ^ (30 : Int).toNat = 1000000000000000000000000000000 := by decide
    walk_at "rd"
    obtain ⟨N, hN⟩ : ∃ N : Nat, 2 + c / 21 % (10 : Int) ^ (30 : Int).toNat = (N : Int) := Int.eq_ofNat_of_zero_le (by rw [p30]; omega)
    have n2 : 2 ≤ N := by rw [p30] at hN; omega
    have nN : N < 10 ^ 35 := by rw [p30] at hN; have : (10 : Nat) ^ 35 = 100000000000000000000000000000000000 := by decide
                                omega
    rw [hN]
    clear hN p30
    have nN' : N < 10 ^ 40 := Nat.lt_trans nN (Nat.pow_lt_pow_right (by decide) (by decide))
    have n2N : 2 * N < 10 ^ 40 := by
      have : 10 ^ 40 = 100000 * 10 ^ 35 := by decide
      omega
    have l1 : (tN (N : Int)).length ≤ 300 := Nat.le_trans (tN_ln40 nN') (by decide)
    have l2 : (tN ((2 * N : Nat) : Int)).length ≤ 300 := Nat.le_trans (tN_ln40 n2N) (by decide)
    have l3 : (tN (N : Int) ++ "/").length ≤ 300 := by rw [len_app]; have := tN_ln40 nN'; show _ + 1 ≤ 300; omega
    have l4 : (tN (N : Int) ++ ".").length ≤ 300 := by rw [len_app]; have := tN_ln40 nN'; show _ + 1 ≤ 300; omega
    refine ⟨log_small (by rw [Int.natAbs_natCast]; exact Nat.lt_trans nN (Nat.pow_lt_pow_right (by decide) (by decide))), ?_⟩
    walk_at "rd"
    repeat (refine ⟨cat_ln (by first | assumption | decide) (by first | assumption | decide), ?_⟩; walk_at "rd")
    refine ⟨by show 12 ≤ sizeLine; decide, fun a1 ha1 => ?_⟩
    have hd1 := upd_same (H := H) (a := a1) (o := .lst ((List.take 12 (oddL N)).map V.str))
    have s1 := Same.new (o := .lst ((List.take 12 (oddL N)).map V.str)) ha1
    change gName 2 (V.ref a1) _ (upd H a1 (.lst ((List.take 12 (oddL N)).map V.str))) _
    generalize upd H a1 (.lst ((List.take 12 (oddL N)).map V.str)) = H1 at *
    have zN : Sz 200 (N : Int) := ⟨by rw [Int.natAbs_natCast]; exact Nat.lt_of_lt_of_le nN' (by rw [show (200 : Nat) = 5 * 40 by decide, Nat.pow_mul]; exact Nat.pow_le_pow_left (by decide) 40)⟩
    walk_at "rd"
    refine ⟨_, _, rfl, tN_reads (m := N) (Nat.le_trans (dg_len (k := 40) (by decide) nN') (by decide)), Nat.le_trans l1 (by decide), ?_⟩
    walk_at "rd"
    rw [show (2 : Int) * (N : Int) = ((2 * N : Nat) : Int) by omega]
    refine ⟨log_small (by rw [Int.natAbs_natCast]; exact Nat.lt_trans n2N (Nat.pow_lt_pow_right (by decide) (by decide))), ?_⟩
    walk_at "rd"
    repeat (refine ⟨cat_ln (by first | assumption | decide) (by first | assumption | decide), ?_⟩; walk_at "rd")
    refine ⟨by show 9 ≤ sizeLine; decide, fun a2 ha2 => ?_⟩
    have hd2 := upd_same (H := H1) (a := a2) (o := .lst ((List.drop 12 (oddL N)).map V.str))
    have s2 := Same.new (o := .lst ((List.drop 12 (oddL N)).map V.str)) ha2
    refine ⟨a1, a2, (List.take 12 (oddL N)).map V.str, (List.drop 12 (oddL N)).map V.str, rfl, rfl, s2 _ _ hd1, hd2, by show 21 ≤ sizeLine; decide, fun a3 ha3 => ?_⟩
    rw [← List.map_append, List.take_append_drop]
    change (upd H1 a2 (.lst ((List.drop 12 (oddL N)).map V.str))) a3 = none at ha3
    change gName 2 (V.ref a3) _ (upd (upd H1 a2 (.lst ((List.drop 12 (oddL N)).map V.str))) a3 (.lst ((oddL N).map V.str))) _
    have hd3 := upd_same (H := upd H1 a2 (.lst ((List.drop 12 (oddL N)).map V.str))) (a := a3) (o := .lst ((oddL N).map V.str))
    have s3 := Same.new (o := .lst ((oddL N).map V.str)) ha3
    generalize upd (upd H1 a2 (.lst ((List.drop 12 (oddL N)).map V.str))) a3 (.lst ((oddL N).map V.str)) = H3 at *
    have r0 := Int.emod_nonneg c (b := 21) (by decide)
    have r1 := Int.emod_lt_of_pos c (b := 21) (by decide)
    have hlo : (oddL N).length = 21 := rfl
    have hlt : (c % 21).toNat < (oddL N).length := by omega
    walk_at "rd"
    refine ⟨a3, _, _, _, rfl, rfl, SqL.of hd3, atI_nat' (j := (c % 21).toNat) (v := .str ((oddL N)[(c % 21).toNat]'hlt)) (by omega) (by rw [List.getElem?_map, List.getElem?_eq_getElem hlt]; rfl), ?_⟩
    exact k _ _ ((s1.trans s2).trans s3) (oddL_ok n2 nN _ (List.getElem_mem hlt))
theorem ok_pieces {C_Path : Addr} (T_Path : ClsK K mg "Path" C_Path) (N_Path_parts : NoAttr K C_Path "parts") (F : FunAt K mg "pieces" s_pieces ["text", "sign"]) (B : Blt mg) {C_SeatError C_NoJoin C_NoPlace C_NoText C_NoShare C_NoLower C_NoMap C_TooMany C_NoName : Addr} (X : Exc K mg C_SeatError C_NoJoin C_NoPlace C_NoText C_NoShare C_NoLower C_NoMap C_TooMany C_NoName) {t_MOST_CURVES t_MOST_SEATS t_FIGURES t_MOST_FIGURES : Tok} (G : Cst K mg t_MOST_CURVES t_MOST_SEATS t_FIGURES t_MOST_FIGURES) : DefOk P w K mg base (CXx P w) 1 "pieces" ["text", "sign"] (spPieX K C_NoText) := by
  refine def_okXI F sc_pieces (fun vs H Q E h => ?_) (fun f cdv A outer s H vs Q E hr h => ?_)
  · obtain ⟨v, y, rfl, _⟩ := h; rfl
  · obtain ⟨v, y, rfl, hk⟩ := h
    have hu := hr.units
    refine ⟨_, (pss_consI (ps_ifI (pt_notI (pt_valI (pe_callBI (call_isiK K) (by rfl) B.isinstance PyProof.Rows.boot_isinstance (pa_consI (pvI 0) (pa_consI (pe_bltnI (v := .ty "str") rfl B.str PyProof.Rows.boot_str rfl) pa_nilI))))) (pss_oneI (ps_raiseI throws_cx X.xNoText (pa_consI pe_strI pa_nilI))) pss_nilI)
      (pss_oneI (ps_retI (show PEi _ _ (tBM K _ _ _ _) from (pe_bmI PySem.F.plainAttrs_str PySem.F.slot_str_split PySem.F.type_str_split mt_split (pvI 0) (pa_consI (pvI 1) pa_nilI)))))), ?_⟩
    rcases hk with ⟨x, rfl, hy, hx, k⟩ | ⟨⟨t, ht, hb⟩, kE⟩
    · refine ⟨_, rfl, _, "str", _, _, rfl, TyOf.str _, kit_ss _, ?_⟩
      walk_at "rd"
      exact ⟨hy, hx, k⟩
    · refine ⟨_, rfl, v, "str", t, false, rfl, ht, hb, ?_⟩
      walk_at "rd"
      exact kE H (L2.Same.refl _)
theorem ok_read_figures {C_Path : Addr} (T_Path : ClsK K mg "Path" C_Path) (N_Path_parts : NoAttr K C_Path "parts") (F : FunAt K mg "read_figures" s_read_figures ["text"]) (B : Blt mg) {C_SeatError C_NoJoin C_NoPlace C_NoText C_NoShare C_NoLower C_NoMap C_TooMany C_NoName : Addr} (X : Exc K mg C_SeatError C_NoJoin C_NoPlace C_NoText C_NoShare C_NoLower C_NoMap C_TooMany C_NoName) {t_MOST_CURVES t_MOST_SEATS t_FIGURES t_MOST_FIGURES : Tok} (G : Cst K mg t_MOST_CURVES t_MOST_SEATS t_FIGURES t_MOST_FIGURES) : DefOk P w K mg base (CXx P w) 1 "read_figures" ["text"] (spRdF C_NoText) := by
  refine def_okXI F sc_read_figures (fun vs H Q E h => ?_) (fun f cdv A outer s H vs Q E hr h => ?_)
  · obtain ⟨x, rfl, _⟩ := h; rfl
  · obtain ⟨x, rfl, hx, hk⟩ := h
    have hu := hr.units
    refine ⟨_, (pss_consI (ps_ifI (PW_ptI (pw_orI (pt_notI (pt_chainI op_le op_le pe_intI (pe_callBI call_len_str (by rfl) B.len PySem.boot_len (pa_consI (pvI 0) pa_nilI)) (pe_globI (v := .int 100) rfl G.MOST_FIGURES ⟨_, rfl⟩) (by with_unfolding_all rfl))) (pw_or1I (pt_notI (pt_valI (pe_callBI (call_allBK K rfl) (by rfl) B.all PyProof.Rows.boot_all (pa_consI (pe_compSI (os := ["sign"]) (caps := []) ["text"] (defScope s_read_figures) (pi_strI (pvI 0)) (fun _ _ _ _ _ => (pg_nameI (i := 0) (show List.Nodup (["sign"] : List Str) from by decide +kernel) rfl (by first | exact Or.inl rfl | exact Or.inr rfl))) (fun _ _ _ _ _ => (pe_cmpRI op_in_str (pvI 0) (pe_globI (v := .str "0123456789") rfl G.FIGURES ⟨_, rfl⟩) rfl)) (by decide +kernel)) pa_nilI))))))) (pss_oneI (ps_raiseI throws_cx X.xNoText (pa_consI pe_strI pa_nilI))) pss_nilI)
      (pss_consI (ps_ifI (PW_ptI (pw_andI (pt_cmpRI op_eq (pe_ixI ix_str (pvI 0) pe_intI (fun _ _ => rfl)) pe_strI (nomark _)) (pw_and1I (pt_cmpRI op_gt (pe_callBI call_len_str (by rfl) B.len PySem.boot_len (pa_consI (pvI 0) pa_nilI)) pe_intI (nomark _))))) (pss_oneI (ps_raiseI throws_cx X.xNoText (pa_consI pe_strI pa_nilI))) pss_nilI)
      (pss_oneI (ps_retI (pe_callTyI call_int_text rfl B.int PyProof.Rows.boot_int (pa_consI (pvI 0) pa_nilI)))))), ?_⟩
    rcases hk with ⟨m, rfl, hm, k⟩ | ⟨bd, kE⟩
    · have hc : cp (tN (m : Int)) = dg m := tN_nat m
      have ll : (tN (m : Int)).length = (dg m).length := by rw [← cp_len, hc]
      have l1 := dg_len_pos m
      have l2 := dg_len (k := 100) (by decide) hm
      walk_at "rd"
      refine ⟨Nat.le_of_lt (small_line (by omega)), ?_⟩
      walk_at "rd"
      refine ifT (by simp; omega) ?_
      walk_at "rd"
      refine ifF (by simp; omega) ?_
      walk_at "rd"
      refine comp1 (plain_str _ _) (by show (tN (m : Int)).length ≤ 100000; omega) (fun i v H => v = .bl true) (fun _ _ _ _ tt h => h) (fun i H2 kk hi s2 hk => ?_) (fun D ys H2 hD s2 hd hl hr => ?_)
      · obtain ⟨c1, c2⟩ := dg_at hc hi
        walk_at "rd"
        rw [fig_in c1 c2]
        exact hk _ _ (L2.Same.refl _) rfl
      rw [bls_true hr] at hd
      walk_at "rd"
      refine ⟨D, _, rfl, SqL.of hd, ?_⟩
      rw [all_rep]
      walk_at "rd"
      have hz : (tN (m : Int)).length ≤ sizeLine := Nat.le_of_lt (small_line (by omega))
      have hc' : (tN (m : Int)).cps.toList = dg m := hc
      have hrd := tN_reads (m := m) (by omega)
      by_cases m0 : m = 0
      · have e0 : dg m = [48] := by rw [m0]; exact dg_lt (by decide)
        have a0 : atI (tN (m : Int)).cps.toList 0 = some 48 := by rw [hc', e0]; rfl
        refine ⟨_, _, 48, rfl, rfl, hz, a0, ?_⟩
        rw [e0] at ll
        walk_at "rd"
        refine ⟨hz, ?_⟩
        walk_at "rd"
        refine ifF (by rw [ll]; rfl) ?_
        walk_at "rd"
        exact ⟨_, _, rfl, hrd, by rw [ll]; decide, k H2 s2⟩
      · obtain ⟨c, r, e0, c1, c2⟩ := dg_head m (by omega)
        have a0 : atI (tN (m : Int)).cps.toList 0 = some c := by rw [hc', e0]; exact at0 _ _
        refine ⟨_, _, c, rfl, rfl, hz, a0, ?_⟩
        walk_at "rd"
        refine ite_dec (fun h => ?_) (fun h => ?_)
        · have hs : c = 48 := str_one.mp h
          omega
        walk_at "rd"
        exact ⟨_, _, rfl, hrd, by omega, k H2 s2⟩
    · have hz : x.length ≤ sizeLine := Nat.le_of_lt (small_line (by omega))
      have hcl := cp_len x
      walk_at "rd"
      by_cases h0 : x.length = 0
      · refine ⟨hz, ?_⟩
        walk_at "rd"
        refine ifF (by simp; omega) ?_
        walk_at "rd"
        exact kE H (L2.Same.refl _)
      by_cases h100 : 100 < x.length
      · refine ⟨hz, ?_⟩
        walk_at "rd"
        refine ifT (by simp; omega) ?_
        walk_at "rd"
        refine ifT (by simp; omega) ?_
        walk_at "rd"
        exact kE H (L2.Same.refl _)
      refine ⟨hz, ?_⟩
      walk_at "rd"
      refine ifT (by simp; omega) ?_
      walk_at "rd"
      refine ifF (by simp; omega) ?_
      walk_at "rd"
      refine comp1 (plain_str _ _) (by show x.length ≤ 100000; omega) (fun i v H => v = .bl (fgB (x.cps.getD i 0))) (fun _ _ _ _ tt h => h) (fun i H2 kk hi s2 hk => ?_) (fun D ys H2 hD s2 hd hl hr => ?_)
      · walk_at "rd"
        rw [fig_dec]
        exact hk _ _ (L2.Same.refl _) rfl
      have hyl : ys.length = (cp x).length := by rw [hcl]; exact hl
      have ey : ys = ((cp x).map fgB).map V.bl := bls_map hyl fun i v e c ec => by
        rw [hr i v e, Array.getD_eq_getD_getElem?, ← Array.getElem?_toList]
        show V.bl (fgB (((cp x)[i]?).getD 0)) = _
        rw [ec]; rfl
      rw [ey] at hd
      walk_at "rd"
      refine ⟨D, _, rfl, SqL.of hd, ?_⟩
      cases bd with
      | none h => omega
      | many h => omega
      | sign h1 h2 h =>
        obtain ⟨c, hc, hn⟩ := h
        have ef : ((cp x).map fgB).all id = false := by
          rw [List.all_eq_false]
          exact ⟨fgB c, List.mem_map.mpr ⟨c, hc, rfl⟩, by unfold fgB; simpa using hn⟩
        rw [ef]
        walk_at "rd"
        exact kE _ s2
      | nought h1 h2 h h0' =>
        have ef : ((cp x).map fgB).all id = true := by
          rw [List.all_eq_true]
          intro b hb
          obtain ⟨c, hc, rfl⟩ := List.mem_map.mp hb
          unfold fgB
          simpa using h c hc
        rw [ef]
        walk_at "rd"
        have a0 : atI x.cps.toList 0 = some 48 := atI_nat' (j := 0) rfl h0'
        refine ⟨_, _, 48, rfl, rfl, hz, a0, ?_⟩
        walk_at "rd"
        refine ⟨hz, ?_⟩
        walk_at "rd"
        refine ifT (by simp; omega) ?_
        walk_at "rd"
        exact kE _ s2
theorem ok_read_whole {C_Path : Addr} (T_Path : ClsK K mg "Path" C_Path) (N_Path_parts : NoAttr K C_Path "parts") (F : FunAt K mg "read_whole" s_read_whole ["text"]) (B : Blt mg) {C_SeatError C_NoJoin C_NoPlace C_NoText C_NoShare C_NoLower C_NoMap C_TooMany C_NoName : Addr} (X : Exc K mg C_SeatError C_NoJoin C_NoPlace C_NoText C_NoShare C_NoLower C_NoMap C_TooMany C_NoName) {t_MOST_CURVES t_MOST_SEATS t_FIGURES t_MOST_FIGURES : Tok} (G : Cst K mg t_MOST_CURVES t_MOST_SEATS t_FIGURES t_MOST_FIGURES) (D_read_figures : DefOk P w K mg base (CXx P w) 1 "read_figures" ["text"] (spRdF C_NoText)) : DefOk P w K mg base (CXx P w) 2 "read_whole" ["text"] (spRdW C_NoText) := by
  refine def_okXI F sc_read_whole (fun vs H Q E h => ?_) (fun f cdv A outer s H vs Q E hr h => ?_)
  · obtain ⟨x, rfl, _⟩ := h; rfl
  · obtain ⟨x, rfl, hx, hk⟩ := h
    have hu := hr.units
    refine ⟨_, (pss_consI (ps_ifI (pt_notI (pt_valI (show PEi _ _ (tBM K _ _ _ _) from (pe_bmI PySem.F.plainAttrs_str PySem.F.slot_str_startswith PySem.F.type_str_startswith mt_starts (pvI 0) (pa_consI pe_strI pa_nilI))))) (pss_oneI (ps_retI (pe_fnI D_read_figures hr passes_cx (pa_consI (pvI 0) pa_nilI)))) pss_nilI)
      (pss_consI (ps_setI (i := 1) sc_read_whole.nd rfl (by first | exact Or.inl rfl | exact Or.inr rfl) (pe_fnI D_read_figures hr passes_cx (pa_consI (pe_sliceI sl_str (pvI 0) (po_someI pe_intI) po_noneI) pa_nilI)))
      (pss_consI (ps_ifI (pt_cmpRI op_eq (pvI 1) pe_intI (nomark _)) (pss_oneI (ps_raiseI throws_cx X.xNoText (pa_consI pe_strI pa_nilI))) pss_nilI)
      (pss_oneI (ps_retI (pe_unI un_neg (pvI 1))))))), ?_⟩
    have sw : ∀ i : Int, Txt.startswith (tN i) "-" = decide (i < 0) := starts_neg
    rcases hk with ⟨i, rfl, hi, k⟩ | ⟨bd, kE⟩
    · walk_at "rd"
      rw [sw]
      by_cases hn : i < 0
      · refine ifF (by simp [hn]) ?_
        have l1 := tN_ln (k := 100) (by decide) hi
        obtain ⟨m, hm⟩ := Int.eq_ofNat_of_zero_le (show 0 ≤ -i by omega)
        have hm1 : 0 < m := by omega
        have hm2 : m < 10 ^ 100 := by unfold FgN at hi; omega
        walk_at "rd"
        refine ⟨by omega, ?_⟩
        rw [tail_neg hn, hm]
        have lm := tN_ln (k := 100) (i := (m : Int)) (by decide) (by unfold FgN; rw [Int.natAbs_natCast]; exact hm2)
        walk_at "rd"
        refine ⟨by omega, .inl ⟨m, rfl, hm2, fun H1 s1 => ?_⟩⟩
        walk_at "rd"
        refine ite_dec (fun h => ?_) (fun h => ?_)
        · have := V.int.inj h; omega
        walk_at "rd"
        have e : -((m : Nat) : Int) = i := by omega
        show Q (.int (-((m : Nat) : Int))) H1
        rw [e]
        exact k H1 s1
      · refine ifT (by simp [hn]) ?_
        obtain ⟨m, rfl⟩ := Int.eq_ofNat_of_zero_le (show 0 ≤ i by omega)
        walk_at "rd"
        exact ⟨hx, .inl ⟨m, rfl, by unfold FgN at hi; rw [Int.natAbs_natCast] at hi; exact hi, k⟩⟩
    · walk_at "rd"
      rw [starts_cp]
      cases bd with
      | fig h b =>
        refine ifT (by simp [h]) ?_
        walk_at "rd"
        exact ⟨hx, .inr ⟨b, kE⟩⟩
      | neg y h b =>
        refine ifF (by rw [h]; simp) ?_
        walk_at "rd"
        refine ⟨hx, ?_⟩
        have ly : y.length + 1 = x.length := by rw [← cp_len x, h, List.length_cons, cp_len]
        rw [tail_cons h]
        walk_at "rd"
        exact ⟨by omega, .inr ⟨b, kE⟩⟩
      | nought h =>
        refine ifF (by rw [h]; simp) ?_
        walk_at "rd"
        refine ⟨hx, ?_⟩
        have e0 : cp (tN ((0 : Nat) : Int)) = [48] := by rw [show cp (tN ((0 : Nat) : Int)) = dg 0 from tN_nat 0]; exact dg_lt (by decide)
        rw [tail_cons (y := tN ((0 : Nat) : Int)) (by rw [h, e0])]
        walk_at "rd"
        refine .inl ⟨0, rfl, by decide, fun H1 s1 => ?_⟩
        walk_at "rd"
        exact kE H1 s1
theorem ok_greatest_common {C_Path : Addr} (T_Path : ClsK K mg "Path" C_Path) (N_Path_parts : NoAttr K C_Path "parts") (F : FunAt K mg "greatest_common" s_greatest_common ["one", "other"]) (B : Blt mg) {C_SeatError C_NoJoin C_NoPlace C_NoText C_NoShare C_NoLower C_NoMap C_TooMany C_NoName : Addr} (X : Exc K mg C_SeatError C_NoJoin C_NoPlace C_NoText C_NoShare C_NoLower C_NoMap C_TooMany C_NoName) {t_MOST_CURVES t_MOST_SEATS t_FIGURES t_MOST_FIGURES : Tok} (G : Cst K mg t_MOST_CURVES t_MOST_SEATS t_FIGURES t_MOST_FIGURES) : DefOk P w K mg base CX0 1 "greatest_common" ["one", "other"] spGcd := by
  refine def_okI F sc_greatest_common (fun vs H Q E h => ?_) (fun f cdv A outer s H vs Q E hr h => ?_)
  · obtain ⟨a, b, rfl, _⟩ := h; rfl
  · obtain ⟨a, b, rfl, k⟩ := h
    have hu := hr.units
    refine ⟨_, (pss_consI (ps_whileI PassesOwn.never (pt_cmpRI op_ne (pvI 1) pe_intI (nomark _)) (pss_oneI (ps_parI (i := 0) (j := 1) rfl sc_greatest_common.nd rfl rfl (by decide) rfl rfl (pa_consI (pvI 1) (pa_consI (pe_opI op_modN (pvI 0) (pvI 1)) pa_nilI)) rfl)))
      (pss_oneI (ps_retI (pe_callBI call_abs (by rfl) B.abs PyProof.Rows.boot_abs (pa_consI (pvI 0) pa_nilI))))), ?_⟩
    refine while_by (fun σ H' => ∃ x y : Int, σ = [some (.int x), some (.int y)] ∧ H' = H ∧ Int.gcd x y = Int.gcd a b) (fun σ _ => match σ with | [_, some (.int y)] => y.natAbs | _ => 0) ⟨a, b, rfl, rfl, rfl⟩ ?_ ?_
    · rintro σ H' ⟨x, y, rfl, rfl, e⟩
      refine ⟨_, rfl, rfl, _, rfl, ?_⟩
      by_cases hy : y = 0
      · subst hy
        refine iteNS rfl ?_
        refine ⟨_, rfl, _, rfl, ?_⟩
        rw [gcd_zero, e]
        exact k
      · refine ifT (dec_int_ne hy) ?_
        refine ⟨_, rfl, _, rfl, _, rfl, _, _, rfl, rfl, hy, _, _, rfl, ⟨_, _, rfl, rfl, ?_⟩, ?_⟩
        · rw [gcd_step]; exact e
        · exact fmod_lt x y hy
    · rintro σ H' Q Q' hq ⟨v, h1, hs, k1, h2, h3⟩
      exact ⟨v, h1, hs, k1, h2, hq _ _ h3⟩
theorem ok_share {C_Path : Addr} (T_Path : ClsK K mg "Path" C_Path) (N_Path_parts : NoAttr K C_Path "parts") (F : FunAt K mg "share" s_share ["top", "bottom"]) (B : Blt mg) {C_SeatError C_NoJoin C_NoPlace C_NoText C_NoShare C_NoLower C_NoMap C_TooMany C_NoName : Addr} (X : Exc K mg C_SeatError C_NoJoin C_NoPlace C_NoText C_NoShare C_NoLower C_NoMap C_TooMany C_NoName) {t_MOST_CURVES t_MOST_SEATS t_FIGURES t_MOST_FIGURES : Tok} (G : Cst K mg t_MOST_CURVES t_MOST_SEATS t_FIGURES t_MOST_FIGURES) (D_greatest_common : DefOk P w K mg base CX0 1 "greatest_common" ["one", "other"] spGcd) : DefOk P w K mg base CX0 2 "share" ["top", "bottom"] spShare := by
  refine def_okI F sc_share (fun vs H Q E h => ?_) (fun f cdv A outer s H vs Q E hr h => ?_)
  · obtain ⟨a, b, rfl, _⟩ := h; rfl
  · obtain ⟨t, b, rfl, hb, hz, k⟩ := h
    have hu := hr.units
    refine ⟨_, (pss_consI (ps_ifI (pt_cmpRI op_eq (pvI 1) pe_intI (nomark _)) (pss_oneI ps_neverI) pss_nilI)
      (pss_consI (ps_setI (i := 2) sc_share.nd rfl (by first | exact Or.inl rfl | exact Or.inr rfl) (pe_fnI D_greatest_common hr pass0 (pa_consI (pvI 0) (pa_consI (pvI 1) pa_nilI))))
      (pss_consI (ps_ifI (pt_cmpRI op_lt (pvI 1) pe_intI (nomark _)) (pss_oneI (ps_setI (i := 2) sc_share.nd rfl (by first | exact Or.inl rfl | exact Or.inr rfl) (pe_unI un_neg (pvI 2)))) pss_nilI)
      (pss_oneI (ps_retI (pe_tupI (pa_consI (pe_opI op_fdivB (pvI 0) (pvI 2)) (pa_consI (pe_opI op_fdivB (pvI 1) (pvI 2)) pa_nilI)))))))), ?_⟩
    have g0 : (Int.gcd t b : Int) ≠ 0 := gcd_pos' t b hb
    have gz : Sz 9000 (Int.gcd t b : Int) := hz.le (by
      rw [Int.natAbs_natCast]
      exact Nat.le_of_dvd (by omega) (Int.gcd_dvd_natAbs_right t b))
    refine ⟨_, rfl, rfl, _, rfl, ?_⟩
    refine ifF (by simp [hb]) ?_
    refine ⟨_, rfl, _, rfl, t, b, rfl, ?_⟩
    refine ⟨_, rfl, _, _, rfl, rfl, _, rfl, ite_dec (fun hn => ?_) (fun hn => ?_)⟩
    · refine ⟨_, rfl, _, rfl, ?_⟩
      refine ⟨_, rfl, _, rfl, _, _, rfl, rfl, ⟨by omega, gz.neg⟩, _, rfl, _, rfl, _, _, rfl, rfl, ⟨by omega, gz.neg⟩, (by show 2 ≤ sizeLine; decide), fun p hp => ?_⟩
      have e := share_neg t b hn
      refine k _ _ (Same.new hp) ⟨p, rfl, ?_⟩
      rw [upd_same, ← e.1, ← e.2]
    · refine ⟨_, rfl, _, rfl, _, _, rfl, rfl, ⟨g0, gz⟩, _, rfl, _, rfl, _, _, rfl, rfl, ⟨g0, gz⟩, (by show 2 ≤ sizeLine; decide), fun p hp => ?_⟩
      have e := share_pos t b (by omega)
      refine k _ _ (Same.new hp) ⟨p, rfl, ?_⟩
      rw [upd_same, ← e.1, ← e.2]
theorem ok_read_share {C_Path : Addr} (T_Path : ClsK K mg "Path" C_Path) (N_Path_parts : NoAttr K C_Path "parts") (F : FunAt K mg "read_share" s_read_share ["text"]) (B : Blt mg) {C_SeatError C_NoJoin C_NoPlace C_NoText C_NoShare C_NoLower C_NoMap C_TooMany C_NoName : Addr} (X : Exc K mg C_SeatError C_NoJoin C_NoPlace C_NoText C_NoShare C_NoLower C_NoMap C_TooMany C_NoName) {t_MOST_CURVES t_MOST_SEATS t_FIGURES t_MOST_FIGURES : Tok} (G : Cst K mg t_MOST_CURVES t_MOST_SEATS t_FIGURES t_MOST_FIGURES) (D_pieces : DefOk P w K mg base (CXx P w) 1 "pieces" ["text", "sign"] (spPieX K C_NoText)) (D_read_figures : DefOk P w K mg base (CXx P w) 1 "read_figures" ["text"] (spRdF C_NoText)) (D_read_whole : DefOk P w K mg base (CXx P w) 2 "read_whole" ["text"] (spRdW C_NoText)) (D_share : DefOk P w K mg base CX0 2 "share" ["top", "bottom"] spShare) : DefOk P w K mg base (CXx P w) 3 "read_share" ["text"] (spRdS K C_NoText) := by
  refine def_okXI F sc_read_share (fun vs H Q E h => ?_) (fun f cdv A outer s H vs Q E hr h => ?_)
  · obtain ⟨v, rfl, _⟩ := h; rfl
  · obtain ⟨v, rfl, hk⟩ := h
    have hu := hr.units
    refine ⟨_, (pss_consI (ps_setI (i := 1) sc_read_share.nd rfl (by first | exact Or.inl rfl | exact Or.inr rfl) (pe_fnI D_pieces hr passes_cx (pa_consI (pvI 0) (pa_consI pe_strI pa_nilI))))
      (pss_consI (ps_ifI (pt_cmpRI op_gt (pe_callBI (call_lenK K) (by rfl) B.len PySem.boot_len (pa_consI (pvI 1) pa_nilI)) pe_intI (nomark _)) (pss_oneI (ps_raiseI throws_cx X.xNoText (pa_consI pe_strI pa_nilI))) pss_nilI)
      (pss_consI (ps_setI (i := 2) sc_read_share.nd rfl (by first | exact Or.inl rfl | exact Or.inr rfl) (pe_fnI D_read_whole hr passes_cx (pa_consI (pe_ixI (ix_listK K) (pvI 1) pe_intI (fun _ _ => rfl)) pa_nilI)))
      (pss_consI (ps_ifI (pt_cmpRI op_eq (pe_callBI (call_lenK K) (by rfl) B.len PySem.boot_len (pa_consI (pvI 1) pa_nilI)) pe_intI (nomark _)) (pss_oneI (ps_retI (pe_tupI (pa_consI (pvI 2) (pa_consI pe_intI pa_nilI))))) pss_nilI)
      (pss_consI (ps_setI (i := 3) sc_read_share.nd rfl (by first | exact Or.inl rfl | exact Or.inr rfl) (pe_fnI D_read_figures hr passes_cx (pa_consI (pe_ixI (ix_listK K) (pvI 1) pe_intI (fun _ _ => rfl)) pa_nilI)))
      (pss_consI (ps_ifI (PW_ptI (pw_orI (pt_cmpRI op_lt (pvI 3) pe_intI (nomark _)) (pw_or1I (pt_cmpRI (op_neDK K hu) (pe_fnI D_share hr pass0 (pa_consI (pvI 2) (pa_consI (pvI 3) pa_nilI))) (pe_tupI (pa_consI (pvI 2) (pa_consI (pvI 3) pa_nilI))) (nomark _))))) (pss_oneI (ps_raiseI throws_cx X.xNoText (pa_consI pe_strI pa_nilI))) pss_nilI)
      (pss_oneI (ps_retI (pe_tupI (pa_consI (pvI 2) (pa_consI (pvI 3) pa_nilI))))))))))), ?_⟩
    rcases hk with ⟨q, rfl, hq, k⟩ | ⟨x, rfl, hx, bd, kE⟩ | ⟨hn, kE⟩
    · have ln := tSh_ln (k := 100) (by decide) hq
      have hdn : FgN 100 (q.den : Int) := by unfold FgN; rw [Int.natAbs_natCast]; exact hq.2
      have lt1 := tN_ln (k := 100) (i := q.num) (by decide) hq.1
      have lt2 := tN_ln (k := 100) (by decide) hdn
      walk_at "rd"
      refine ⟨_, _, rfl, .inl ⟨_, rfl, rfl, by omega, fun l hl => ?_⟩⟩
      rw [split_sl]
      by_cases h1 : q.den = 1
      · rw [if_pos h1]
        have s1 := Same.new (o := .lst ([tN q.num].map V.str)) hl
        have hl1 := upd_same (H := H) (a := l) (o := .lst [.str (tN q.num)])
        walk_at "rd"
        refine ⟨by omega, .inl ⟨q.num, rfl, hq.1, fun H2 s2 => ?_⟩⟩
        have hl2 := s2 _ _ hl1
        walk_at "rd"
        intro t ht
        refine k _ _ ((s1.trans s2).trans (Same.new ht)) ⟨t, rfl, ?_⟩
        rw [upd_same, h1]; rfl
      · rw [if_neg h1]
        have s1 := Same.new (o := .lst ([tN q.num, tN (q.den : Int)].map V.str)) hl
        have hl1 := upd_same (H := H) (a := l) (o := .lst [.str (tN q.num), .str (tN (q.den : Int))])
        walk_at "rd"
        refine ⟨by omega, .inl ⟨q.num, rfl, hq.1, fun H2 s2 => ?_⟩⟩
        have hl2 := s2 _ _ hl1
        walk_at "rd"
        refine ⟨by omega, .inl ⟨q.den, rfl, hq.2, fun H3 s3 => ?_⟩⟩
        have d2 := q.den_pos
        walk_at "rd"
        refine ifF (by simp; omega) ?_
        walk_at "rd"
        refine ⟨q.num, (q.den : Int), rfl, by omega, fg_sz hq.2, fun v H4 s4 hv => ?_⟩
        rw [Rat.num_divInt_den] at hv
        walk_at "rd"
        intro g hg
        have sg := Same.new (o := .tup [.int q.num, .int (q.den : Int)]) hg
        have gv : ShV (upd H4 g (.tup [.int q.num, .int (q.den : Int)])) (.ref g) q := ⟨g, rfl, upd_same⟩
        refine ⟨_, _, (hv.same sg).dn, gv.dn, datSh_ok q 6, datSh_ok q 6, fun b0 hb0 => ?_⟩
        obtain rfl := hb0.mpr rfl
        walk_at "rd"
        intro t ht
        refine k _ _ (((((s1.trans s2).trans s3).trans s4).trans sg).trans (Same.new ht)) ⟨t, rfl, upd_same⟩
    · walk_at "rd"
      refine ⟨_, _, rfl, .inl ⟨_, rfl, rfl, hx, fun l hl => ?_⟩⟩
      have s1 := Same.new (o := .lst ((Txt.split x "/").map V.str)) hl
      have hl1 := upd_same (H := H) (a := l) (o := .lst ((Txt.split x "/").map V.str))
      generalize upd H l (.lst ((Txt.split x "/").map V.str)) = H1 at *
      cases bd with
      | many h =>
        walk_at "rd"
        refine ifT (by rw [List.length_map]; simp; omega) ?_
        walk_at "rd"
        exact kE _ s1
      | top a r h ha b =>
        by_cases h2 : 2 < (Txt.split x "/").length
        · walk_at "rd"
          refine ifT (by rw [List.length_map]; simp; omega) ?_
          walk_at "rd"
          exact kE _ s1
        rw [h] at hl1 h2
        have hl1' : H1 l = some (.lst (.str a :: r.map V.str)) := hl1
        walk_at "rd"
        refine ifF (by simp at h2 ⊢; omega) ?_
        walk_at "rd"
        refine ⟨l, _, _, _, rfl, rfl, SqL.of hl1', atI_nat' (j := 0) rfl rfl, ?_⟩
        walk_at "rd"
        exact ⟨ha, .inr ⟨b, fun H2 s2 => kE H2 (s1.trans s2)⟩⟩
      | bot i y h hi hy b =>
        rw [h] at hl1
        have hl1' : H1 l = some (.lst [.str (tN i), .str y]) := hl1
        have lt1 := tN_ln (k := 100) (i := i) (by decide) hi
        walk_at "rd"
        refine ⟨by omega, .inl ⟨i, rfl, hi, fun H2 s2 => ?_⟩⟩
        have hl2 := s2 _ _ hl1'
        walk_at "rd"
        exact ⟨hy, .inr ⟨b, fun H3 s3 => kE H3 ((s1.trans s2).trans s3)⟩⟩
      | low i m h hi hm b =>
        rw [h] at hl1
        have hl1' : H1 l = some (.lst [.str (tN i), .str (tN (m : Int))]) := hl1
        have lt1 := tN_ln (k := 100) (i := i) (by decide) hi
        have lt2 := tN_ln (k := 100) (i := (m : Int)) (by decide) (by unfold FgN; rw [Int.natAbs_natCast]; exact hm)
        walk_at "rd"
        refine ⟨by omega, .inl ⟨i, rfl, hi, fun H2 s2 => ?_⟩⟩
        have hl2 := s2 _ _ hl1'
        walk_at "rd"
        refine ⟨by omega, .inl ⟨m, rfl, hm, fun H3 s3 => ?_⟩⟩
        have s13 := (s1.trans s2).trans s3
        walk_at "rd"
        by_cases m2 : m < 2
        · refine ifT (by simp; omega) ?_
          walk_at "rd"
          exact kE _ s13
        have b' := b.resolve_left m2
        refine ifF (by simp; omega) ?_
        walk_at "rd"
        refine ⟨i, (m : Int), rfl, by omega, fg_sz hm, fun v H4 s4 hv => ?_⟩
        walk_at "rd"
        intro g hg
        have sg := Same.new (o := .tup [.int i, .int (m : Int)]) hg
        refine ⟨datSh (Rat.divInt i m), datII i m, (hv.same sg).dn, dnII upd_same, datSh_ok (Rat.divInt i m) 6, datII_ok i m, fun b0 hb0 => ?_⟩
        cases b0 with
        | true => exact absurd (datII_eq (hb0.mp rfl)) b'
        | false =>
          walk_at "rd"
          exact kE _ ((s13.trans s4).trans sg)
    · walk_at "rd"
      exact ⟨_, _, rfl, .inr ⟨hn, kE⟩⟩
theorem ok_read_point {C_Path : Addr} (T_Path : ClsK K mg "Path" C_Path) (N_Path_parts : NoAttr K C_Path "parts") (F : FunAt K mg "read_point" s_read_point ["text"]) (B : Blt mg) {C_SeatError C_NoJoin C_NoPlace C_NoText C_NoShare C_NoLower C_NoMap C_TooMany C_NoName : Addr} (X : Exc K mg C_SeatError C_NoJoin C_NoPlace C_NoText C_NoShare C_NoLower C_NoMap C_TooMany C_NoName) {t_MOST_CURVES t_MOST_SEATS t_FIGURES t_MOST_FIGURES : Tok} (G : Cst K mg t_MOST_CURVES t_MOST_SEATS t_FIGURES t_MOST_FIGURES) (D_pieces : DefOk P w K mg base (CXx P w) 1 "pieces" ["text", "sign"] (spPieX K C_NoText)) (D_read_share : DefOk P w K mg base (CXx P w) 3 "read_share" ["text"] (spRdS K C_NoText)) : DefOk P w K mg base (CXx P w) 4 "read_point" ["text"] (spRdP K C_NoText) := by
  refine def_okXI F sc_read_point (fun vs H Q E h => ?_) (fun f cdv A outer s H vs Q E hr h => ?_)
  · obtain ⟨v, rfl, _⟩ := h; rfl
  · obtain ⟨v, rfl, hk⟩ := h
    have hu := hr.units
    refine ⟨_, (pss_consI (ps_setI (i := 1) sc_read_point.nd rfl (by first | exact Or.inl rfl | exact Or.inr rfl) (pe_fnI D_pieces hr passes_cx (pa_consI (pvI 0) (pa_consI pe_strI pa_nilI))))
      (pss_consI (ps_ifI (pt_cmpRI op_ne (pe_callBI (call_lenK K) (by rfl) B.len PySem.boot_len (pa_consI (pvI 1) pa_nilI)) pe_intI (nomark _)) (pss_oneI (ps_raiseI throws_cx X.xNoText (pa_consI pe_strI pa_nilI))) pss_nilI)
      (pss_oneI (ps_retI (pe_tupI (pa_consI (pe_fnI D_read_share hr passes_cx (pa_consI (pe_ixI (ix_listK K) (pvI 1) pe_intI (fun _ _ => rfl)) pa_nilI)) (pa_consI (pe_fnI D_read_share hr passes_cx (pa_consI (pe_ixI (ix_listK K) (pvI 1) pe_intI (fun _ _ => rfl)) pa_nilI)) pa_nilI))))))), ?_⟩
    rcases hk with ⟨p, rfl, hq, k⟩ | ⟨x, rfl, hx, bd, kE⟩ | ⟨hn, kE⟩
    · have ln := tPt_ln (k := 100) (by decide) hq
      walk_at "rd"
      refine ⟨_, _, rfl, .inl ⟨_, rfl, rfl, by omega, fun l hl => ?_⟩⟩
      rw [split_cm]
      have s1 := Same.new (o := .lst ([tSh p.1, tSh p.2].map V.str)) hl
      have hl1 := upd_same (H := H) (a := l) (o := .lst [.str (tSh p.1), .str (tSh p.2)])
      walk_at "rd"
      refine .inl ⟨p.1, rfl, hq.1, fun v1 H2 s2 g1 => ?_⟩
      have hl2 := s2 _ _ hl1
      walk_at "rd"
      refine .inl ⟨p.2, rfl, hq.2, fun v2 H3 s3 g2 => ?_⟩
      walk_at "rd"
      intro t ht
      have st := Same.new (o := .tup [v1, v2]) ht
      exact k _ _ (((s1.trans s2).trans s3).trans st) ⟨t, v1, v2, rfl, upd_same, (g1.same s3).same st, g2.same st⟩
    · walk_at "rd"
      refine ⟨_, _, rfl, .inl ⟨_, rfl, rfl, hx, fun l hl => ?_⟩⟩
      have s1 := Same.new (o := .lst ((Txt.split x ",").map V.str)) hl
      have hl1 := upd_same (H := H) (a := l) (o := .lst ((Txt.split x ",").map V.str))
      generalize upd H l (.lst ((Txt.split x ",").map V.str)) = H1 at *
      cases bd with
      | many h =>
        walk_at "rd"
        refine ifT (by rw [List.length_map]; simp; omega) ?_
        walk_at "rd"
        exact kE _ s1
      | one a y h ha b =>
        rw [h] at hl1
        have hl1' : H1 l = some (.lst [.str a, .str y]) := hl1
        walk_at "rd"
        exact .inr (.inl ⟨a, rfl, ha, b, fun H2 s2 => kE H2 (s1.trans s2)⟩)
      | two q y h hq hy b =>
        rw [h] at hl1
        have hl1' : H1 l = some (.lst [.str (tSh q), .str y]) := hl1
        walk_at "rd"
        refine .inl ⟨q, rfl, hq, fun v1 H2 s2 g1 => ?_⟩
        have hl2 := s2 _ _ hl1'
        walk_at "rd"
        exact .inr (.inl ⟨y, rfl, hy, b, fun H3 s3 => kE H3 ((s1.trans s2).trans s3)⟩)
    · walk_at "rd"
      exact ⟨_, _, rfl, .inr ⟨hn, kE⟩⟩
theorem ok_read_curve {C_Path : Addr} (T_Path : ClsK K mg "Path" C_Path) (N_Path_parts : NoAttr K C_Path "parts") (F : FunAt K mg "read_curve" s_read_curve ["text"]) (B : Blt mg) {C_SeatError C_NoJoin C_NoPlace C_NoText C_NoShare C_NoLower C_NoMap C_TooMany C_NoName : Addr} (X : Exc K mg C_SeatError C_NoJoin C_NoPlace C_NoText C_NoShare C_NoLower C_NoMap C_TooMany C_NoName) {t_MOST_CURVES t_MOST_SEATS t_FIGURES t_MOST_FIGURES : Tok} (G : Cst K mg t_MOST_CURVES t_MOST_SEATS t_FIGURES t_MOST_FIGURES) (D_pieces : DefOk P w K mg base (CXx P w) 1 "pieces" ["text", "sign"] (spPieX K C_NoText)) (D_read_point : DefOk P w K mg base (CXx P w) 4 "read_point" ["text"] (spRdP K C_NoText)) : DefOk P w K mg base (CXx P w) 5 "read_curve" ["text"] (spRdC K C_NoText) := by
  refine def_okXI F sc_read_curve (fun vs H Q E h => ?_) (fun f cdv A outer s H vs Q E hr h => ?_)
  · obtain ⟨v, rfl, _⟩ := h; rfl
  · obtain ⟨v, rfl, hk⟩ := h
    have hu := hr.units
    refine ⟨_, (pss_consI (ps_setI (i := 1) sc_read_curve.nd rfl (by first | exact Or.inl rfl | exact Or.inr rfl) (pe_fnI D_pieces hr passes_cx (pa_consI (pvI 0) (pa_consI pe_strI pa_nilI))))
      (pss_consI (ps_ifI (pt_cmpRI op_gt (pe_callBI (call_lenK K) (by rfl) B.len PySem.boot_len (pa_consI (pvI 1) pa_nilI)) (pe_globI (v := .int 12) rfl G.MOST_SEATS ⟨_, rfl⟩) (nomark _)) (pss_oneI (ps_raiseI throws_cx X.xNoText (pa_consI pe_strI pa_nilI))) pss_nilI)
      (pss_oneI (ps_retI (pe_compXI (os := ["one"]) (caps := []) ["text", "found"] (defScope s_read_curve) flyOut_cx (pi_listKI K (pvI 1)) (fun _ _ _ _ _ => (pg_nameI (i := 0) (show List.Nodup (["one"] : List Str) from by decide +kernel) rfl (by first | exact Or.inl rfl | exact Or.inr rfl))) (fun _ _ _ _ _ => (pe_fnI D_read_point hr passes_comp (pa_consI (pvI 0) pa_nilI))) (by decide +kernel)))))), ?_⟩
    rcases hk with ⟨ps, rfl, h1, h12, hq, k⟩ | ⟨x, rfl, hx, bd, kE⟩ | ⟨hn, kE⟩
    · have ln := tCv_ln (k := 100) (by decide) hq
      walk_at "rd"
      refine ⟨_, _, rfl, .inl ⟨_, rfl, rfl, by omega, fun l hl => ?_⟩⟩
      rw [split_bl (by intro e; rw [e] at h1; simp at h1)]
      have s1 := Same.new (o := .lst ((ps.map tPt).map V.str)) hl
      have hl1 := upd_same (H := H) (a := l) (o := .lst ((ps.map tPt).map V.str))
      generalize upd H l (.lst ((ps.map tPt).map V.str)) = H1 at *
      walk_at "rd"
      refine ifF (by simp; omega) ?_
      walk_at "rd"
      refine ⟨⟨_, SqL.of hl1⟩, comp1 (plain_list (SqL.of hl1)) (by rw [List.length_map, List.length_map]; omega) (fun i v H => ∀ p, ps[i]? = some p → PtV H v p.1 p.2) (fun _ _ _ _ tt h p e => (h p e).tup tt) (fun i H2 kk hi s2 hk => ?_) (fun D ys H2 hD s2 hd hyl hr => ?_)⟩
      · rw [List.length_map, List.length_map] at hi
        have ep : ps[i]? = some (ps[i]'hi) := List.getElem?_eq_getElem _
        have ev : (((ps.map tPt).map V.str)[i]?).getD .non = .str (tPt (ps[i]'hi)) := by rw [List.getElem?_map, List.getElem?_map, ep]; rfl
        rw [ev]
        walk_at "rd"
        refine .inl ⟨_, rfl, hq _ (List.mem_of_getElem? ep), fun v H3 s3 gv => ?_⟩
        refine hk _ _ s3 fun p e => ?_
        rw [ep] at e; cases e
        exact gv
      rw [List.length_map, List.length_map] at hyl
      exact k D ys H2 (s1.trans s2) (s1.free hD) hd ⟨hyl, fun i v p e1 e2 => hr i v e1 p e2⟩
    · walk_at "rd"
      refine ⟨_, _, rfl, .inl ⟨_, rfl, rfl, hx, fun l hl => ?_⟩⟩
      have s1 := Same.new (o := .lst ((Txt.split x " ").map V.str)) hl
      have hl1 := upd_same (H := H) (a := l) (o := .lst ((Txt.split x " ").map V.str))
      generalize upd H l (.lst ((Txt.split x " ").map V.str)) = H1 at *
      by_cases h12 : 12 < (Txt.split x " ").length
      · walk_at "rd"
        refine ifT (by rw [List.length_map]; simp; omega) ?_
        walk_at "rd"
        exact kE _ s1
      walk_at "rd"
      refine ifF (by rw [List.length_map]; simp; omega) ?_
      walk_at "rd"
      cases bd with
      | many h => exact absurd h h12
      | item ps y r h hq hy b =>
        have hlen : ((Txt.split x " ").map V.str).length ≤ 12 := by rw [List.length_map]; omega
        have hpl : ps.length < ((Txt.split x " ").map V.str).length := by rw [h, List.length_map, List.length_append, List.length_map, List.length_cons]; omega
        refine ⟨⟨_, SqL.of hl1⟩, compE (plain_list (SqL.of hl1)) (by omega) ps.length hpl (fun i H2 kk hip s2 hk => ?_) (fun H2 kk s2 => ?_)⟩
        · have ep : ps[i]? = some (ps[i]'hip) := List.getElem?_eq_getElem _
          have ev : (((Txt.split x " ").map V.str)[i]?).getD .non = .str (tPt (ps[i]'hip)) := by rw [h, List.getElem?_map, List.getElem?_append_left (by rw [List.length_map]; exact hip), List.getElem?_map, ep]; rfl
          rw [ev]
          walk_at "rd"
          exact .inl ⟨_, rfl, hq _ (List.mem_of_getElem? ep), fun v H3 s3 gv => hk _ _ s3⟩
        · have ev : (((Txt.split x " ").map V.str)[ps.length]?).getD .non = .str y := by rw [h, List.getElem?_map, List.getElem?_append_right (by rw [List.length_map]; omega), List.length_map, Nat.sub_self]; rfl
          rw [ev]
          walk_at "rd"
          exact .inr (.inl ⟨y, rfl, hy, b, fun H3 s3 => kE H3 ((s1.trans s2).trans s3)⟩)
    · walk_at "rd"
      exact ⟨_, _, rfl, .inr ⟨hn, kE⟩⟩
theorem ok_Path___init__ {C_Path : Addr} (T_Path : ClsK K mg "Path" C_Path) (N_Path_parts : NoAttr K C_Path "parts") (F : MthAt K C_Path "__init__" "Path.__init__" s_Path___init__ ["self", "curves"]) (B : Blt mg) {C_SeatError C_NoJoin C_NoPlace C_NoText C_NoShare C_NoLower C_NoMap C_TooMany C_NoName : Addr} (X : Exc K mg C_SeatError C_NoJoin C_NoPlace C_NoText C_NoShare C_NoLower C_NoMap C_TooMany C_NoName) {t_MOST_CURVES t_MOST_SEATS t_FIGURES t_MOST_FIGURES : Tok} (G : Cst K mg t_MOST_CURVES t_MOST_SEATS t_FIGURES t_MOST_FIGURES) (D_copied : DefOk P w K mg base CX0 1 "copied" ["curves"] (spCopied K)) : MthOk P w K mg base (CXx P w) 2 C_Path "__init__" ["self", "curves"] (spInit K C_Path C_NoJoin) := by
  refine mth_okX F sc_Path___init__ (fun vs H Q E h => ?_) (fun f cdv A outer s H vs Q E hr h => ?_)
  · obtain ⟨x, a, dx, us, n, qs, rfl, _⟩ := h; rfl
  · obtain ⟨x, a, dx, us, n, qs, rfl, hx, ha, hU, hn, h1, k⟩ := h
    have hu := hr.units
    refine ⟨_, (pss_consI (ps_ifI (pt_notI (pt_chainI op_le op_le pe_intI (pe_callBI (call_lenK K) (by rfl) B.len PySem.boot_len (pa_consI (pvI 1) pa_nilI)) (pe_globI (v := .int 12) rfl G.MOST_CURVES ⟨_, rfl⟩) (by with_unfolding_all rfl))) (pss_oneI (ps_raiseI throws_cx X.xNoJoin (pa_consI pe_strI pa_nilI))) pss_nilI)
      (pss_consI (ps_ifI (pt_notI (pt_valI (pe_callBI (call_allBK K rfl) (by rfl) B.all PyProof.Rows.boot_all (pa_consI (pe_compSI (os := ["one", "other"]) (caps := []) ["self", "curves"] (defScope s_Path___init__) (show PIi _ _ _ (iZip K _) from (pi_zipI rfl B.zip (pa_consI (pvI 1) (pa_consI (pe_sliceI (sl_listK K) (pvI 1) (po_someI pe_intI) po_noneI) pa_nilI)))) (fun _ _ _ _ _ => (pg_tupKI (n := 2) K rfl (pgs_consI (pg_nameI (i := 0) (show List.Nodup (["one", "other"] : List Str) from by decide +kernel) rfl (by first | exact Or.inl rfl | exact Or.inr rfl)) (pgs_consI (pg_nameI (i := 1) (show List.Nodup (["one", "other"] : List Str) from by decide +kernel) rfl (by first | exact Or.inl rfl | exact Or.inr rfl)) pgs_nilI)))) (fun _ _ _ _ _ => (pe_cmpRI (op_eqDK K hu) (pe_ixI (ix_listK K) (pvI 0) (pe_unI un_neg pe_intI) (fun _ _ => rfl)) (pe_ixI (ix_listK K) (pvI 1) pe_intI (fun _ _ => rfl)) (nomark _))) (by decide +kernel)) pa_nilI)))) (pss_oneI (ps_raiseI throws_cx X.xNoJoin (pa_consI pe_strI pa_nilI))) pss_nilI)
      (pss_oneI (show PSi _ _ (sFld K _ _ _) from (ps_fldI (pvI 0) (pe_fnI D_copied hr pass0 (pa_consI (pvI 1) pa_nilI))))))), ?_⟩
    have hul := hU.1
    walk_at "rd"
    refine ite_dec (fun g1 => ?_) (fun g1 => ?_)
    rotate_left
    · rcases k with ⟨k1, _⟩ | ⟨_, k⟩
      · omega
      · exact ⟨_, rfl, ifT rfl ⟨by show 1 ≤ sizeLine; decide, k H (L2.Same.refl _)⟩⟩
    walk_at "rd"
    by_cases g2 : (us.length : Int) ≤ 12
    rotate_left
    · refine ifT (by simpa using g2) ?_
      rcases k with ⟨_, k1, _⟩ | ⟨_, k⟩
      · omega
      · exact ⟨by show 1 ≤ sizeLine; decide, k H (L2.Same.refl _)⟩
    refine ifF (by simpa using g2) ?_
    walk_at "rd"
    refine ⟨a, us, rfl, SqL.of ha, fun l1 hl1 => ?_⟩
    rw [cut_rest us (by omega)]
    have s1 := Same.new (o := .lst (us.drop 1)) hl1
    have hv1 : (upd H l1 (.lst (us.drop 1))) l1 = some (.lst (us.drop 1)) := upd_same
    replace ha := s1 _ _ ha
    replace hU := hU.same s1
    replace hx := s1 _ _ hx
    clear hl1
    generalize upd H l1 (.lst (us.drop 1)) = H1 at *
    refine ⟨_, _, rfl, ⟨_, SqL.of ha⟩, ⟨_, SqL.of hv1⟩, comp2 (plain_zip (SqL.of ha) (SqL.of hv1)) (by rw [List.length_drop]; omega) (fun i v _ => v = .bl (decide (lastQ (qs i) = headQ (qs (i + 1))))) (fun _ _ _ _ _ h => h) (fun i H2 kk hi s2 hk => ?_) (fun D bs H2 hD s2 hd hbl hr => ?_)⟩
    · rw [List.length_drop] at hi
      obtain ⟨la, xa, ea, ha2, hPa⟩ := (hU.same s2).at (show i < n by omega)
      obtain ⟨lb, xb, eb, hb2, hPb⟩ := (hU.same s2).at (show i + 1 < n by omega)
      have qa := h1 i (by omega)
      have qb := h1 (i + 1) (by omega)
      obtain ⟨va, wa, pa⟩ := hPa.at (getQ (show (qs i).length - 1 < (qs i).length by omega))
      obtain ⟨vb, wb, pb⟩ := hPb.at (getQ (show 0 < (qs (i + 1)).length by omega))
      rw [List.getElem?_drop, Nat.add_comm 1 i, ea, eb]
      walk_at "rd"
      refine ⟨la, _, _, _, rfl, rfl, SqL.of ha2, atI_last' xa va (by rw [hPa.len]; exact wa) (by rw [hPa.len]; omega), ?_⟩
      walk_at "rd"
      refine ⟨lb, _, _, _, rfl, rfl, SqL.of hb2, atI_nat' (j := 0) rfl wb, ?_⟩
      refine ⟨datPt _, datPt _, PtV.dn pa, PtV.dn pb, datPt_ok _ 6, datPt_ok _ 6, fun b hb => ?_⟩
      refine hk _ _ (L2.Same.refl _) ?_
      have e1 : lastQ (qs i) = some _ := getQ (show (qs i).length - 1 < (qs i).length by omega)
      have e2 : headQ (qs (i + 1)) = some _ := getQ (show 0 < (qs (i + 1)).length by omega)
      rw [datPt_inj] at hb
      rw [e1, e2]
      congr 1
      rw [Bool.eq_iff_iff, hb, decide_eq_true_eq, Option.some.injEq]
    rw [List.length_drop] at hbl
    obtain rfl := bls_ext (f := fun i => decide (lastQ (qs i) = headQ (qs (i + 1)))) (show bs.length = n - 1 by omega) hr
    refine ⟨D, _, rfl, SqL.of hd, ?_⟩
    have s12 := s1.trans s2
    replace ha := s2 _ _ ha
    replace hU := hU.same s2
    replace hx := s2 _ _ hx
    by_cases hj : Joined n qs
    rotate_left
    · refine ⟨_, rfl, ifT (by rw [Bool.not_eq_true']; cases hz : ((List.range (n - 1)).map fun i => decide (lastQ (qs i) = headQ (qs (i + 1)))).all id with | false => rfl | true => exact absurd (all_joined hz) hj) ?_⟩
      rcases k with ⟨_, _, k1, _⟩ | ⟨_, k⟩
      · exact absurd k1 hj
      · exact ⟨by show 1 ≤ sizeLine; decide, k H2 s12⟩
    refine ⟨_, rfl, ifF (by rw [joined_all hj]; rfl) ?_⟩
    rcases k with ⟨_, _, _, k⟩ | ⟨k1, _⟩
    rotate_left
    · exact absurd ⟨by omega, by omega, hj⟩ k1
    refine ⟨_, rfl, a, us, n, qs, rfl, ha, hU, hn, fun lp ks H3 s3 hlp hp hkl hLs => ?_⟩
    refine ⟨_, rfl, x, C_Path, dx, [], rfl, s3 _ _ hx, T_Path.cl, N_Path_parts, by show 0 < 1000; decide, ?_⟩
    exact k lp ks H3 (s12.trans s3) (s12.free hlp) hp hkl (hLs.base s12)
theorem ok_read_path {C_Path : Addr} (T_Path : ClsK K mg "Path" C_Path) (N_Path_parts : NoAttr K C_Path "parts") (F : FunAt K mg "read_path" s_read_path ["text"]) (B : Blt mg) {C_SeatError C_NoJoin C_NoPlace C_NoText C_NoShare C_NoLower C_NoMap C_TooMany C_NoName : Addr} (X : Exc K mg C_SeatError C_NoJoin C_NoPlace C_NoText C_NoShare C_NoLower C_NoMap C_TooMany C_NoName) {t_MOST_CURVES t_MOST_SEATS t_FIGURES t_MOST_FIGURES : Tok} (G : Cst K mg t_MOST_CURVES t_MOST_SEATS t_FIGURES t_MOST_FIGURES) (D_pieces : DefOk P w K mg base (CXx P w) 1 "pieces" ["text", "sign"] (spPieX K C_NoText)) (D_read_curve : DefOk P w K mg base (CXx P w) 5 "read_curve" ["text"] (spRdC K C_NoText)) (D_Path___init__ : MthOk P w K mg base (CXx P w) 2 C_Path "__init__" ["self", "curves"] (spInit K C_Path C_NoJoin)) : DefOk P w K mg base (CXx P w) 6 "read_path" ["text"] (spRdA K C_Path C_NoText C_NoJoin) := by
  refine def_okXI F sc_read_path (fun vs H Q E h => ?_) (fun f cdv A outer s H vs Q E hr h => ?_)
  · obtain ⟨v, rfl, _⟩ := h; rfl
  · obtain ⟨v, rfl, hk⟩ := h
    have hu := hr.units
    refine ⟨_, (pss_consI (ps_setI (i := 1) sc_read_path.nd rfl (by first | exact Or.inl rfl | exact Or.inr rfl) (pe_fnI D_pieces hr passes_cx (pa_consI (pvI 0) (pa_consI pe_strI pa_nilI))))
      (pss_consI (ps_ifI (pt_cmpRI op_gt (pe_callBI (call_lenK K) (by rfl) B.len PySem.boot_len (pa_consI (pvI 1) pa_nilI)) (pe_globI (v := .int 12) rfl G.MOST_CURVES ⟨_, rfl⟩) (nomark _)) (pss_oneI (ps_raiseI throws_cx X.xNoText (pa_consI pe_strI pa_nilI))) pss_nilI)
      (pss_oneI (ps_retI (pe_mkI T_Path D_Path___init__ hr passes_cx (pa_consI (pe_compXI (os := ["one"]) (caps := []) ["text", "found"] (defScope s_read_path) flyOut_cx (pi_listKI K (pvI 1)) (fun _ _ _ _ _ => (pg_nameI (i := 0) (show List.Nodup (["one"] : List Str) from by decide +kernel) rfl (by first | exact Or.inl rfl | exact Or.inr rfl))) (fun _ _ _ _ _ => (pe_fnI D_read_curve hr passes_comp (pa_consI (pvI 0) pa_nilI))) (by decide +kernel)) pa_nilI)))))), ?_⟩
    rcases hk with ⟨n, qs, rfl, n1, n8, hq, hj⟩ | ⟨x, rfl, hx, bd, kE⟩ | ⟨hn, kE⟩
    · have ln : (tPa n qs).length ≤ 50000 := tPa_ln n8 hq
      walk_at "rd"
      refine ⟨_, _, rfl, .inl ⟨_, rfl, rfl, by omega, fun l hl => ?_⟩⟩
      rw [split_pa n1]
      have s1 := Same.new (o := .lst (((List.range n).map fun i => tCv (qs i)).map V.str)) hl
      have hl1 := upd_same (H := H) (a := l) (o := .lst (((List.range n).map fun i => tCv (qs i)).map V.str))
      generalize upd H l (.lst (((List.range n).map fun i => tCv (qs i)).map V.str)) = H1 at *
      walk_at "rd"
      refine ifF (by simp; omega) ?_
      walk_at "rd"
      refine ⟨⟨_, SqL.of hl1⟩, compL (plain_list (SqL.of hl1)) (by rw [List.length_map, List.length_map, List.length_range]; omega) (fun i xs H => PtsV H xs (qs i)) (fun _ _ _ _ tt h => h.tup tt) (fun i H2 kk hi s2 hk => ?_) (fun l2 us H2 hl0 s2 hlu hln hLs => ?_)⟩
      · rw [List.length_map, List.length_map, List.length_range] at hi
        have ev : ((((List.range n).map fun i => tCv (qs i)).map V.str)[i]?).getD .non = .str (tCv (qs i)) := by rw [List.getElem?_map, List.getElem?_map, List.getElem?_range hi]; rfl
        rw [ev]
        have h := hq i hi
        walk_at "rd"
        exact .inl ⟨_, rfl, h.1, h.2.1, h.2.2, fun l9 us9 H3 s3 h90 h9 hP9 => hk l9 us9 H3 s3 h90 h9 hP9⟩
      rw [List.length_map, List.length_map, List.length_range] at hln
      have hU := hLs.pss hln
      have s12 := s1.trans s2
      intro x1 dx1 hx1 hdx1 ne1
      have v1 := same_ins (C := C_Path) hx1 hdx1
      have hx1' : (upd (upd H2 dx1 (.own x1)) x1 (.ins C_Path dx1 [])) x1 = some (.ins C_Path dx1 []) := upd_same
      generalize upd (upd H2 dx1 (.own x1)) x1 (.ins C_Path dx1 []) = H5 at *
      rcases hj with ⟨hj, k⟩ | ⟨hj, kE⟩
      · refine ⟨x1, l2, dx1, us, n, qs, rfl, hx1', v1 _ _ hlu, hU.same v1, by omega, fun i hi => (hq i hi).1, .inl ⟨n1, by omega, hj, fun lp1 ks1 H6 s6 hlp1 hp1 hkl1 hL1 => ⟨rfl, ?_⟩⟩⟩
        exact k x1 lp1 ks1 _ (s12.trans (same_upd hx1 (v1.trans s6))) (PathAt.made hx1' s6 hlp1 hp1 hkl1 hL1)
      · exact ⟨x1, l2, dx1, us, n, qs, rfl, hx1', v1 _ _ hlu, hU.same v1, by omega, fun i hi => (hq i hi).1, .inr ⟨fun h => hj h.2.2, fun H6 s6 => kE H6 ((s12.trans v1).trans s6)⟩⟩
    · walk_at "rd"
      refine ⟨_, _, rfl, .inl ⟨_, rfl, rfl, hx, fun l hl => ?_⟩⟩
      have s1 := Same.new (o := .lst ((Txt.split x " | ").map V.str)) hl
      have hl1 := upd_same (H := H) (a := l) (o := .lst ((Txt.split x " | ").map V.str))
      generalize upd H l (.lst ((Txt.split x " | ").map V.str)) = H1 at *
      by_cases h12 : 12 < (Txt.split x " | ").length
      · walk_at "rd"
        refine ifT (by rw [List.length_map]; simp; omega) ?_
        walk_at "rd"
        exact kE _ s1
      walk_at "rd"
      refine ifF (by rw [List.length_map]; simp; omega) ?_
      walk_at "rd"
      cases bd with
      | many h => exact absurd h h12
      | item ps y r h hq hy b =>
        have hlen : ((Txt.split x " | ").map V.str).length ≤ 12 := by rw [List.length_map]; omega
        have hpl : ps.length < ((Txt.split x " | ").map V.str).length := by rw [h, List.length_map, List.length_append, List.length_map, List.length_cons]; omega
        refine ⟨⟨_, SqL.of hl1⟩, compE (plain_list (SqL.of hl1)) (by omega) ps.length hpl (fun i H2 kk hip s2 hk => ?_) (fun H2 kk s2 => ?_)⟩
        · have ep : ps[i]? = some (ps[i]'hip) := List.getElem?_eq_getElem _
          have ev : (((Txt.split x " | ").map V.str)[i]?).getD .non = .str (tCv (ps[i]'hip)) := by rw [h, List.getElem?_map, List.getElem?_append_left (by rw [List.length_map]; exact hip), List.getElem?_map, ep]; rfl
          rw [ev]
          have hc := hq _ (List.mem_of_getElem? ep)
          walk_at "rd"
          exact .inl ⟨_, rfl, hc.1, hc.2.1, hc.2.2, fun l9 us9 H3 s3 h90 h9 hP9 => hk _ _ s3⟩
        · have ev : (((Txt.split x " | ").map V.str)[ps.length]?).getD .non = .str y := by rw [h, List.getElem?_map, List.getElem?_append_right (by rw [List.length_map]; omega), List.length_map, Nat.sub_self]; rfl
          rw [ev]
          walk_at "rd"
          exact .inr (.inl ⟨y, rfl, hy, b, fun H3 s3 => kE H3 ((s1.trans s2).trans s3)⟩)
    · walk_at "rd"
      exact ⟨_, _, rfl, .inr ⟨hn, kE⟩⟩
theorem ok_l_asked_of {C_Path : Addr} (T_Path : ClsK K mg "Path" C_Path) (N_Path_parts : NoAttr K C_Path "parts") (F : FunAt K mg "_law_asked_of" s_l_asked_of ["_law_way", "_law_text"]) (B : Blt mg) {C_SeatError C_NoJoin C_NoPlace C_NoText C_NoShare C_NoLower C_NoMap C_TooMany C_NoName : Addr} (X : Exc K mg C_SeatError C_NoJoin C_NoPlace C_NoText C_NoShare C_NoLower C_NoMap C_TooMany C_NoName) {t_MOST_CURVES t_MOST_SEATS t_FIGURES t_MOST_FIGURES : Tok} (G : Cst K mg t_MOST_CURVES t_MOST_SEATS t_FIGURES t_MOST_FIGURES) (D_read_share : DefOk P w K mg base (CXx P w) 3 "read_share" ["text"] (spRdS K C_NoText)) (D_read_point : DefOk P w K mg base (CXx P w) 4 "read_point" ["text"] (spRdP K C_NoText)) (D_read_curve : DefOk P w K mg base (CXx P w) 5 "read_curve" ["text"] (spRdC K C_NoText)) (D_read_path : DefOk P w K mg base (CXx P w) 6 "read_path" ["text"] (spRdA K C_Path C_NoText C_NoJoin)) : DefOk P w K mg base (CXx P w) 7 "_law_asked_of" ["_law_way", "_law_text"] (spAsk K C_NoText C_NoJoin) := by
  refine def_okXI F sc_l_asked_of (fun vs H Q E h => ?_) (fun f cdv A outer s H vs Q E hr h => ?_)
  · obtain ⟨w, v, j, rfl, _⟩ := h; rfl
  · obtain ⟨w, v, j, rfl, hR, kE⟩ := h
    have hu := hr.units
    refine ⟨_, (pss_consI (ps_ifI (pt_cmpRI op_eq (pvI 0) pe_intI (nomark _)) (pss_oneI (ps_retI (pe_fnI D_read_share hr passes_cx (pa_consI (pvI 1) pa_nilI)))) pss_nilI)
      (pss_consI (ps_ifI (pt_cmpRI op_eq (pvI 0) pe_intI (nomark _)) (pss_oneI (ps_retI (pe_fnI D_read_point hr passes_cx (pa_consI (pvI 1) pa_nilI)))) pss_nilI)
      (pss_consI (ps_ifI (pt_cmpRI op_eq (pvI 0) pe_intI (nomark _)) (pss_oneI (ps_retI (pe_fnI D_read_curve hr passes_cx (pa_consI (pvI 1) pa_nilI)))) pss_nilI)
      (pss_oneI (ps_retI (pe_fnI D_read_path hr passes_cx (pa_consI (pvI 1) pa_nilI))))))), ?_⟩
    cases hR with
    | thing w v h0 h3 h =>
      by_cases e0 : w = 0
      · subst e0
        walk_at "rd"
        exact .inr (.inr ⟨h, kE⟩)
      by_cases e1 : w = 1
      · subst e1
        walk_at "rd"
        exact .inr (.inr ⟨h, kE⟩)
      by_cases e2 : w = 2
      · subst e2
        walk_at "rd"
        exact .inr (.inr ⟨h, kE⟩)
      have e3 : w = 3 := by omega
      subst e3
      walk_at "rd"
      exact .inr (.inr ⟨h, kE⟩)
    | share x hx b =>
      walk_at "rd"
      exact .inr (.inl ⟨x, rfl, hx, b, kE⟩)
    | point x hx b =>
      walk_at "rd"
      exact .inr (.inl ⟨x, rfl, hx, b, kE⟩)
    | curve x hx b =>
      walk_at "rd"
      exact .inr (.inl ⟨x, rfl, hx, b, kE⟩)
    | path x hx b =>
      walk_at "rd"
      exact .inr (.inl ⟨x, rfl, hx, b, kE⟩)
    | join n qs n1 n8 hq hj =>
      walk_at "rd"
      exact .inl ⟨n, qs, rfl, n1, n8, hq, .inr ⟨hj, kE⟩⟩
theorem ok_l_refused {C_Path : Addr} (T_Path : ClsK K mg "Path" C_Path) (N_Path_parts : NoAttr K C_Path "parts") (F : FunAt K mg "_law_refused" s_l_refused ["_law_way", "_law_text", "_law_joined"]) (B : Blt mg) {C_SeatError C_NoJoin C_NoPlace C_NoText C_NoShare C_NoLower C_NoMap C_TooMany C_NoName : Addr} (X : Exc K mg C_SeatError C_NoJoin C_NoPlace C_NoText C_NoShare C_NoLower C_NoMap C_TooMany C_NoName) {t_MOST_CURVES t_MOST_SEATS t_FIGURES t_MOST_FIGURES : Tok} (G : Cst K mg t_MOST_CURVES t_MOST_SEATS t_FIGURES t_MOST_FIGURES) (D_l_asked_of : DefOk P w K mg base (CXx P w) 7 "_law_asked_of" ["_law_way", "_law_text"] (spAsk K C_NoText C_NoJoin)) : DefOk P w K mg base CX0 8 "_law_refused" ["_law_way", "_law_text", "_law_joined"] (spRefX K) := by
  refine def_okI F sc_l_refused (fun vs H Q E h => ?_) (fun f cdv A outer s H vs Q E hr h => ?_)
  · obtain ⟨w, v, j, rfl, _⟩ := h; rfl
  · obtain ⟨w, v, j, rfl, hR, k⟩ := h
    have hu := hr.units
    refine ⟨_, (pss_consI (ps_tryS_I (n := 3) X.SeatError sc_l_refused.nd (fun xe pn Ex hx => (pss_oneI (ps_exprI (pe_fnS_I D_l_asked_of hr hx (pa_consI (pvI 0) (pa_consI (pvI 1) pa_nilI)))))) (fun x => (pss_consI (ps_setI (i := 4) sc_l_refused.nd rfl (by first | exact Or.inl rfl | exact Or.inr rfl) (pe_lstI (pa_consI (pe_callBI (call_isxK K) (by rfl) B.isinstance PyProof.Rows.boot_isinstance (pa_consI (pvI 3) (pa_consI (pe_globI (v := .ref C_NoText) rfl X.NoText rfl) pa_nilI))) (pa_consI (pe_callBI (call_isxK K) (by rfl) B.isinstance PyProof.Rows.boot_isinstance (pa_consI (pvI 3) (pa_consI (pe_globI (v := .ref C_NoJoin) rfl X.NoJoin rfl) pa_nilI))) (pa_consI (pe_callBI (call_isxK K) (by rfl) B.isinstance PyProof.Rows.boot_isinstance (pa_consI (pvI 3) (pa_consI (pe_globI (v := .ref C_TooMany) rfl X.TooMany rfl) pa_nilI))) (pa_consI (pe_callBI (call_isxK K) (by rfl) B.isinstance PyProof.Rows.boot_isinstance (pa_consI (pvI 3) (pa_consI (pe_globI (v := .ref C_NoMap) rfl X.NoMap rfl) pa_nilI))) pa_nilI))))))
      (pss_consI (ps_setI (i := 4) sc_l_refused.nd rfl (by first | exact Or.inl rfl | exact Or.inr rfl) (pe_opI op_cat (pvI 4) (pe_lstI (pa_consI (pe_callBI (call_isxK K) (by rfl) B.isinstance PyProof.Rows.boot_isinstance (pa_consI (pvI 3) (pa_consI (pe_globI (v := .ref C_NoLower) rfl X.NoLower rfl) pa_nilI))) (pa_consI (pe_callBI (call_isxK K) (by rfl) B.isinstance PyProof.Rows.boot_isinstance (pa_consI (pvI 3) (pa_consI (pe_globI (v := .ref C_NoName) rfl X.NoName rfl) pa_nilI))) (pa_consI (pe_callBI (call_isxK K) (by rfl) B.isinstance PyProof.Rows.boot_isinstance (pa_consI (pvI 3) (pa_consI (pe_globI (v := .ref C_NoPlace) rfl X.NoPlace rfl) pa_nilI))) pa_nilI))))))
      (pss_consI (ps_setI (i := 5) sc_l_refused.nd rfl (by first | exact Or.inl rfl | exact Or.inr rfl) (pe_lstI (pa_consI (pvI 2) (pa_consI (pe_notI (pvI 2)) (pa_consI pe_blI (pa_consI pe_blI (pa_consI pe_blI (pa_consI pe_blI (pa_consI pe_blI (pa_consI pe_blI pa_nilI))))))))))
      (pss_oneI (ps_retI (pe_andI (pe_callBI (call_isxK K) (by rfl) B.isinstance PyProof.Rows.boot_isinstance (pa_consI (pvI 3) (pa_consI (pe_bltnI (v := .ty "ValueError") rfl B.ValueError PyProof.Rows.Boot.«ValueError» rfl) pa_nilI))) (pe_oneI (pe_cmpRI (op_eqB K hu) (pe_opI op_cat (pvI 4) (pe_lstI (pa_consI (pe_callBI (call_isxK K) (by rfl) B.isinstance PyProof.Rows.boot_isinstance (pa_consI (pvI 3) (pa_consI (pe_globI (v := .ref C_NoShare) rfl X.NoShare rfl) pa_nilI))) pa_nilI))) (pvI 5) (nomark _)))))))))))
      (pss_oneI (ps_retI pe_blI))), ?_⟩
    refine ⟨fun σ cls d H' => σ = [some (.int w), some v, some (.bl j), none, none, none] ∧ ((j = true ∧ cls = .ref C_NoText) ∨ (j = false ∧ cls = .ref C_NoJoin)) ∧ d = none ∧ Same H H', ⟨_, rfl, _, rfl, ?_⟩, ?_⟩
    · exact ⟨w, v, j, rfl, hR, fun H' s' => ⟨rfl, by cases j <;> simp, rfl, s'⟩⟩
    · rintro cls x H' σ' ⟨rfl, hc, _, hs⟩ hx hl
      clear hR
      rcases hc with ⟨rfl, rfl⟩ | ⟨rfl, rfl⟩
      rotate_left
      · refine ⟨X.mNoJoin, ?_⟩
        have sx : Same H' (upd H' x (ExcO x (.ref C_NoJoin))) := Same.new hx
        have hx1 : (upd H' x (ExcO x (.ref C_NoJoin))) x = some (ExcO x (.ref C_NoJoin)) := upd_same
        generalize upd H' x (ExcO x (.ref C_NoJoin)) = H1 at *
        refine ⟨_, rfl, x, C_NoJoin, _, _, _, rfl, hx1, rfl, X.nNoJoin, X.fNoJoin_NoText, ?_⟩
        refine ⟨_, rfl, x, C_NoJoin, _, _, _, rfl, hx1, rfl, X.nNoJoin, kit_self K _, ?_⟩
        refine ⟨_, rfl, x, C_NoJoin, _, _, _, rfl, hx1, rfl, X.nNoJoin, X.fNoJoin_TooMany, ?_⟩
        refine ⟨_, rfl, x, C_NoJoin, _, _, _, rfl, hx1, rfl, X.nNoJoin, X.fNoJoin_NoMap, ?_⟩
        refine ⟨by show 4 ≤ sizeLine; decide, fun l1 hl1 => ?_⟩
        have hx2 : (upd H1 l1 (.lst [.bl false, .bl true, .bl false, .bl false])) x = some (ExcO x (.ref C_NoJoin)) := upd_keep hl1 hx1
        have v1 : Same H1 (upd H1 l1 (.lst [.bl false, .bl true, .bl false, .bl false])) := Same.new hl1
        have z1 : (upd H1 l1 (.lst [.bl false, .bl true, .bl false, .bl false])) l1 = some (.lst [.bl false, .bl true, .bl false, .bl false]) := upd_same
        generalize upd H1 l1 (.lst [.bl false, .bl true, .bl false, .bl false]) = H2 at *
        refine ⟨_, rfl, ?_⟩
        refine ⟨_, rfl, x, C_NoJoin, _, _, _, rfl, hx2, rfl, X.nNoJoin, X.fNoJoin_NoLower, ?_⟩
        refine ⟨_, rfl, x, C_NoJoin, _, _, _, rfl, hx2, rfl, X.nNoJoin, X.fNoJoin_NoName, ?_⟩
        refine ⟨_, rfl, x, C_NoJoin, _, _, _, rfl, hx2, rfl, X.nNoJoin, X.fNoJoin_NoPlace, ?_⟩
        refine ⟨by show 3 ≤ sizeLine; decide, fun l2 hl2 => ?_⟩
        have hx3 : (upd H2 l2 (.lst [.bl false, .bl false, .bl false])) x = some (ExcO x (.ref C_NoJoin)) := upd_keep hl2 hx2
        have v2 : Same H2 (upd H2 l2 (.lst [.bl false, .bl false, .bl false])) := Same.new hl2
        have z2 : (upd H2 l2 (.lst [.bl false, .bl false, .bl false])) l2 = some (.lst [.bl false, .bl false, .bl false]) := upd_same
        replace z1 := v2 _ _ z1
        generalize upd H2 l2 (.lst [.bl false, .bl false, .bl false]) = H3 at *
        refine ⟨l1, l2, _, _, rfl, rfl, z1, z2, by show 7 ≤ sizeLine; decide, fun l3 hl3 => ?_⟩
        have hx4 : (upd H3 l3 (.lst [.bl false, .bl true, .bl false, .bl false, .bl false, .bl false, .bl false])) x = some (ExcO x (.ref C_NoJoin)) := upd_keep hl3 hx3
        have v3 : Same H3 (upd H3 l3 (.lst [.bl false, .bl true, .bl false, .bl false, .bl false, .bl false, .bl false])) := Same.new hl3
        have z3 : (upd H3 l3 (.lst [.bl false, .bl true, .bl false, .bl false, .bl false, .bl false, .bl false])) l3 = some (.lst [.bl false, .bl true, .bl false, .bl false, .bl false, .bl false, .bl false]) := upd_same
        simp only [List.cons_append, List.nil_append] at hx4 v3 z3 ⊢
        walk_at "rd"
        intro l4 hl4
        simp only [Bool.not_false, Bool.not_true] at hl4 ⊢
        generalize upd H3 l3 (.lst [.bl false, .bl true, .bl false, .bl false, .bl false, .bl false, .bl false]) = H4 at *
        have v4 : Same H4 (upd H4 l4 (.lst [.bl false, .bl true, .bl false, .bl false, .bl false, .bl false, .bl false, .bl false])) := Same.new hl4
        have z4 : (upd H4 l4 (.lst [.bl false, .bl true, .bl false, .bl false, .bl false, .bl false, .bl false, .bl false])) l4 = some (.lst [.bl false, .bl true, .bl false, .bl false, .bl false, .bl false, .bl false, .bl false]) := upd_same
        have hx5 := v4 _ _ hx4
        replace z3 := v4 _ _ z3
        generalize upd H4 l4 (.lst [.bl false, .bl true, .bl false, .bl false, .bl false, .bl false, .bl false, .bl false]) = H5 at *
        refine ⟨_, rfl, x, C_NoJoin, _, _, _, rfl, hx5, rfl, X.nNoJoin, X.vNoJoin, _, rfl, iteT ?_⟩
        refine ⟨_, rfl, ?_⟩
        refine ⟨_, rfl, x, C_NoJoin, _, _, _, rfl, hx5, rfl, X.nNoJoin, X.fNoJoin_NoShare, ?_⟩
        refine ⟨by show 1 ≤ sizeLine; decide, fun l5 hl5 => ?_⟩
        have v5 : Same H5 (upd H5 l5 (.lst [.bl false])) := Same.new hl5
        have z5 : (upd H5 l5 (.lst [.bl false])) l5 = some (.lst [.bl false]) := upd_same
        replace z3 := v5 _ _ z3
        replace z4 := v5 _ _ z4
        generalize upd H5 l5 (.lst [.bl false]) = H6 at *
        refine ⟨l3, l5, _, _, rfl, rfl, z3, z5, by show 8 ≤ sizeLine; decide, fun l6 hl6 => ?_⟩
        have v6 : Same H6 (upd H6 l6 (.lst [.bl false, .bl true, .bl false, .bl false, .bl false, .bl false, .bl false, .bl false])) := Same.new hl6
        have z6 : (upd H6 l6 (.lst [.bl false, .bl true, .bl false, .bl false, .bl false, .bl false, .bl false, .bl false])) l6 = some (.lst [.bl false, .bl true, .bl false, .bl false, .bl false, .bl false, .bl false, .bl false]) := upd_same
        replace z4 := v6 _ _ z4
        refine ⟨_, rfl, l6, l4, [false, true, false, false, false, false, false, false], [false, true, false, false, false, false, false, false], rfl, rfl, SqL.of z6, SqL.of z4, by decide +kernel, by decide +kernel, ?_⟩
        exact k _ (((((((hs.trans sx).trans v1).trans v2).trans v3).trans v4).trans v5).trans v6)
      · refine ⟨X.mNoText, ?_⟩
        have sx : Same H' (upd H' x (ExcO x (.ref C_NoText))) := Same.new hx
        have hx1 : (upd H' x (ExcO x (.ref C_NoText))) x = some (ExcO x (.ref C_NoText)) := upd_same
        generalize upd H' x (ExcO x (.ref C_NoText)) = H1 at *
        refine ⟨_, rfl, x, C_NoText, _, _, _, rfl, hx1, rfl, X.nNoText, kit_self K _, ?_⟩
        refine ⟨_, rfl, x, C_NoText, _, _, _, rfl, hx1, rfl, X.nNoText, X.fNoText_NoJoin, ?_⟩
        refine ⟨_, rfl, x, C_NoText, _, _, _, rfl, hx1, rfl, X.nNoText, X.fNoText_TooMany, ?_⟩
        refine ⟨_, rfl, x, C_NoText, _, _, _, rfl, hx1, rfl, X.nNoText, X.fNoText_NoMap, ?_⟩
        refine ⟨by show 4 ≤ sizeLine; decide, fun l1 hl1 => ?_⟩
        have hx2 : (upd H1 l1 (.lst [.bl true, .bl false, .bl false, .bl false])) x = some (ExcO x (.ref C_NoText)) := upd_keep hl1 hx1
        have v1 : Same H1 (upd H1 l1 (.lst [.bl true, .bl false, .bl false, .bl false])) := Same.new hl1
        have z1 : (upd H1 l1 (.lst [.bl true, .bl false, .bl false, .bl false])) l1 = some (.lst [.bl true, .bl false, .bl false, .bl false]) := upd_same
        generalize upd H1 l1 (.lst [.bl true, .bl false, .bl false, .bl false]) = H2 at *
        refine ⟨_, rfl, ?_⟩
        refine ⟨_, rfl, x, C_NoText, _, _, _, rfl, hx2, rfl, X.nNoText, X.fNoText_NoLower, ?_⟩
        refine ⟨_, rfl, x, C_NoText, _, _, _, rfl, hx2, rfl, X.nNoText, X.fNoText_NoName, ?_⟩
        refine ⟨_, rfl, x, C_NoText, _, _, _, rfl, hx2, rfl, X.nNoText, X.fNoText_NoPlace, ?_⟩
        refine ⟨by show 3 ≤ sizeLine; decide, fun l2 hl2 => ?_⟩
        have hx3 : (upd H2 l2 (.lst [.bl false, .bl false, .bl false])) x = some (ExcO x (.ref C_NoText)) := upd_keep hl2 hx2
        have v2 : Same H2 (upd H2 l2 (.lst [.bl false, .bl false, .bl false])) := Same.new hl2
        have z2 : (upd H2 l2 (.lst [.bl false, .bl false, .bl false])) l2 = some (.lst [.bl false, .bl false, .bl false]) := upd_same
        replace z1 := v2 _ _ z1
        generalize upd H2 l2 (.lst [.bl false, .bl false, .bl false]) = H3 at *
        refine ⟨l1, l2, _, _, rfl, rfl, z1, z2, by show 7 ≤ sizeLine; decide, fun l3 hl3 => ?_⟩
        have hx4 : (upd H3 l3 (.lst [.bl true, .bl false, .bl false, .bl false, .bl false, .bl false, .bl false])) x = some (ExcO x (.ref C_NoText)) := upd_keep hl3 hx3
        have v3 : Same H3 (upd H3 l3 (.lst [.bl true, .bl false, .bl false, .bl false, .bl false, .bl false, .bl false])) := Same.new hl3
        have z3 : (upd H3 l3 (.lst [.bl true, .bl false, .bl false, .bl false, .bl false, .bl false, .bl false])) l3 = some (.lst [.bl true, .bl false, .bl false, .bl false, .bl false, .bl false, .bl false]) := upd_same
        simp only [List.cons_append, List.nil_append] at hx4 v3 z3 ⊢
        walk_at "rd"
        intro l4 hl4
        simp only [Bool.not_false, Bool.not_true] at hl4 ⊢
        generalize upd H3 l3 (.lst [.bl true, .bl false, .bl false, .bl false, .bl false, .bl false, .bl false]) = H4 at *
        have v4 : Same H4 (upd H4 l4 (.lst [.bl true, .bl false, .bl false, .bl false, .bl false, .bl false, .bl false, .bl false])) := Same.new hl4
        have z4 : (upd H4 l4 (.lst [.bl true, .bl false, .bl false, .bl false, .bl false, .bl false, .bl false, .bl false])) l4 = some (.lst [.bl true, .bl false, .bl false, .bl false, .bl false, .bl false, .bl false, .bl false]) := upd_same
        have hx5 := v4 _ _ hx4
        replace z3 := v4 _ _ z3
        generalize upd H4 l4 (.lst [.bl true, .bl false, .bl false, .bl false, .bl false, .bl false, .bl false, .bl false]) = H5 at *
        refine ⟨_, rfl, x, C_NoText, _, _, _, rfl, hx5, rfl, X.nNoText, X.vNoText, _, rfl, iteT ?_⟩
        refine ⟨_, rfl, ?_⟩
        refine ⟨_, rfl, x, C_NoText, _, _, _, rfl, hx5, rfl, X.nNoText, X.fNoText_NoShare, ?_⟩
        refine ⟨by show 1 ≤ sizeLine; decide, fun l5 hl5 => ?_⟩
        have v5 : Same H5 (upd H5 l5 (.lst [.bl false])) := Same.new hl5
        have z5 : (upd H5 l5 (.lst [.bl false])) l5 = some (.lst [.bl false]) := upd_same
        replace z3 := v5 _ _ z3
        replace z4 := v5 _ _ z4
        generalize upd H5 l5 (.lst [.bl false]) = H6 at *
        refine ⟨l3, l5, _, _, rfl, rfl, z3, z5, by show 8 ≤ sizeLine; decide, fun l6 hl6 => ?_⟩
        have v6 : Same H6 (upd H6 l6 (.lst [.bl true, .bl false, .bl false, .bl false, .bl false, .bl false, .bl false, .bl false])) := Same.new hl6
        have z6 : (upd H6 l6 (.lst [.bl true, .bl false, .bl false, .bl false, .bl false, .bl false, .bl false, .bl false])) l6 = some (.lst [.bl true, .bl false, .bl false, .bl false, .bl false, .bl false, .bl false, .bl false]) := upd_same
        replace z4 := v6 _ _ z4
        refine ⟨_, rfl, l6, l4, [true, false, false, false, false, false, false, false], [true, false, false, false, false, false, false, false], rfl, rfl, SqL.of z6, SqL.of z4, by decide +kernel, by decide +kernel, ?_⟩
        exact k _ (((((((hs.trans sx).trans v1).trans v2).trans v3).trans v4).trans v5).trans v6)
theorem ok_l_share_text {C_Path : Addr} (T_Path : ClsK K mg "Path" C_Path) (N_Path_parts : NoAttr K C_Path "parts") (F : FunAt K mg "_law_share_text" s_l_share_text ["_law_one"]) (B : Blt mg) {C_SeatError C_NoJoin C_NoPlace C_NoText C_NoShare C_NoLower C_NoMap C_TooMany C_NoName : Addr} (X : Exc K mg C_SeatError C_NoJoin C_NoPlace C_NoText C_NoShare C_NoLower C_NoMap C_TooMany C_NoName) {t_MOST_CURVES t_MOST_SEATS t_FIGURES t_MOST_FIGURES : Tok} (G : Cst K mg t_MOST_CURVES t_MOST_SEATS t_FIGURES t_MOST_FIGURES) : DefOk P w K mg base CX0 1 "_law_share_text" ["_law_one"] spLTxS := by
  refine def_okI F sc_l_share_text (fun vs H Q E h => ?_) (fun f cdv A outer s H vs Q E hr h => ?_)
  · obtain ⟨v, q, rfl, _⟩ := h; rfl
  · obtain ⟨_, q, rfl, ⟨a, rfl, ha⟩, hq, k⟩ := h
    have hu := hr.units
    refine ⟨_, (pss_consI (ps_ifI (pt_cmpRI op_eq (pe_ixI (ix_tupK K) (pvI 0) pe_intI (fun _ _ => rfl)) pe_intI (nomark _)) (pss_oneI (ps_retI (pe_callTyI call_str_int rfl B.str PyProof.Rows.boot_str (pa_consI (pe_ixI (ix_tupK K) (pvI 0) pe_intI (fun _ _ => rfl)) pa_nilI)))) pss_nilI)
      (pss_oneI (ps_retI (pe_opI op_add_str (pe_opI op_add_str (pe_callTyI call_str_int rfl B.str PyProof.Rows.boot_str (pa_consI (pe_ixI (ix_tupK K) (pvI 0) pe_intI (fun _ _ => rfl)) pa_nilI)) pe_strI) (pe_callTyI call_str_int rfl B.str PyProof.Rows.boot_str (pa_consI (pe_ixI (ix_tupK K) (pvI 0) pe_intI (fun _ _ => rfl)) pa_nilI)))))), ?_⟩
    have l1 := tN_ln (k := 300) (by decide) (show FgN 300 q.num from hq.1)
    have hdn : FgN 300 (q.den : Int) := by unfold FgN; rw [Int.natAbs_natCast]; exact hq.2
    have l2 := tN_ln (k := 300) (by decide) hdn
    have g1 := log_small (i := q.num) hq.1
    have g2 := log_small (i := (q.den : Int)) hdn
    walk_at "rd"
    refine ite_dec (fun h => ?_) (fun h => ?_)
    · have hd1 : q.den = 1 := by exact_mod_cast V.int.inj h
      walk_at "rd"
      refine ⟨g1, ?_⟩
      have e : tN q.num = tSh q := (if_pos hd1).symm
      show Q (.str (tN q.num)) H
      rw [e]
      exact k
    · have hd1 : q.den ≠ 1 := fun e => h (by rw [e]; rfl)
      walk_at "rd"
      refine ⟨g1, ?_⟩
      refine ⟨_, _, rfl, rfl, Nat.le_of_lt (small_line (by show (tN q.num).length + 1 ≤ 100000; omega)), ?_⟩
      walk_at "rd"
      refine ⟨g2, ?_⟩
      refine ⟨_, _, rfl, rfl, Nat.le_of_lt (small_line (by rw [len_app]; show (tN q.num).length + 1 + (tN (q.den : Int)).length ≤ 100000; omega)), ?_⟩
      have e : tN q.num ++ "/" ++ tN (q.den : Int) = tSh q := (if_neg hd1).symm
      show Q (.str (tN q.num ++ "/" ++ tN (q.den : Int))) H
      rw [e]
      exact k
theorem ok_l_all_refused {C_Path : Addr} (T_Path : ClsK K mg "Path" C_Path) (N_Path_parts : NoAttr K C_Path "parts") (F : FunAt K mg "_law_all_refused" s_l_all_refused ["_law_script", "_law_curve_here"]) (B : Blt mg) {C_SeatError C_NoJoin C_NoPlace C_NoText C_NoShare C_NoLower C_NoMap C_TooMany C_NoName : Addr} (X : Exc K mg C_SeatError C_NoJoin C_NoPlace C_NoText C_NoShare C_NoLower C_NoMap C_TooMany C_NoName) {t_MOST_CURVES t_MOST_SEATS t_FIGURES t_MOST_FIGURES : Tok} (G : Cst K mg t_MOST_CURVES t_MOST_SEATS t_FIGURES t_MOST_FIGURES) (D_l_cell_at : DefOk P w K mg base CX0 1 "_law_cell_at" ["_law_script", "_law_k"] (spCell K)) (D_l_no_share : DefOk P w K mg base CX0 1 "_law_no_share" ["_law_cell"] spOdd) (D_l_refused : DefOk P w K mg base CX0 8 "_law_refused" ["_law_way", "_law_text", "_law_joined"] (spRefX K)) (D_l_share_text : DefOk P w K mg base CX0 1 "_law_share_text" ["_law_one"] spLTxS) : DefOk P w K mg base CX0 9 "_law_all_refused" ["_law_script", "_law_curve_here"] (spAllR K) := by
  refine def_okI F sc_l_all_refused (fun vs H Q E h => ?_) (fun f cdv A outer s H vs Q E hr h => ?_)
  · obtain ⟨a, l, ns, ws, ps, rfl, _⟩ := h; rfl
  · obtain ⟨a, l, ns, ws, ps, rfl, hS, hl, hP, p1, p12, fgp, k⟩ := h
    have hu := hr.units
    refine ⟨_, (pss_consI (ps_setI (i := 2) sc_l_all_refused.nd rfl (by first | exact Or.inl rfl | exact Or.inr rfl) (pe_fnI D_l_cell_at hr pass0 (pa_consI (pvI 0) (pa_consI pe_intI pa_nilI))))
      (pss_consI (ps_setI (i := 3) sc_l_all_refused.nd rfl (by first | exact Or.inl rfl | exact Or.inr rfl) (pe_fnI D_l_no_share hr pass0 (pa_consI (pvI 2) pa_nilI)))
      (pss_consI (ps_compSI (i := 4) (os := ["_law_x", "_law_y"]) (caps := []) ["_law_script", "_law_curve_here", "_law_cell", "_law_odd", "_law_parts", "_law_at", "_law_x", "_law_y", "_law_pair", "_law_some", "_law_bad", "_law_text", "_law_good"] (defScope s_l_all_refused) sc_l_all_refused.nd rfl rfl (pi_listKI K (pvI 1)) (fun _ _ _ _ _ => (pg_tupKI (n := 2) K rfl (pgs_consI (pg_nameI (i := 0) (show List.Nodup (["_law_x", "_law_y"] : List Str) from by decide +kernel) rfl (by first | exact Or.inl rfl | exact Or.inr rfl)) (pgs_consI (pg_nameI (i := 1) (show List.Nodup (["_law_x", "_law_y"] : List Str) from by decide +kernel) rfl (by first | exact Or.inl rfl | exact Or.inr rfl)) pgs_nilI)))) (fun _ _ _ _ _ => (pe_opI op_add_str (pe_opI op_add_str (pe_fnI D_l_share_text hr pass0 (pa_consI (pvI 0) pa_nilI)) pe_strI) (pe_fnI D_l_share_text hr pass0 (pa_consI (pvI 1) pa_nilI)))) (by decide +kernel))
      (pss_consI (ps_setI (i := 5) sc_l_all_refused.nd rfl (by first | exact Or.inl rfl | exact Or.inr rfl) (pe_opI op_mod (pe_fnI D_l_cell_at hr pass0 (pa_consI (pvI 0) (pa_consI pe_intI pa_nilI))) (pe_callBI (call_lenK K) (by rfl) B.len PySem.boot_len (pa_consI (pvI 4) pa_nilI))))
      (pss_consI (ps_asgI (pe_ixI (ix_listK K) (pvI 1) (pvI 5) (fun _ _ => rfl)) (pg_tupKI (n := 2) K rfl (pgs_consI (pg_nameI (i := 6) sc_l_all_refused.nd rfl (by first | exact Or.inl rfl | exact Or.inr rfl)) (pgs_consI (pg_nameI (i := 7) sc_l_all_refused.nd rfl (by first | exact Or.inl rfl | exact Or.inr rfl)) pgs_nilI))))
      (pss_consI (ps_setI (i := 8) sc_l_all_refused.nd rfl (by first | exact Or.inl rfl | exact Or.inr rfl) (pe_ixI (ix_listK K) (pe_lstI (pa_consI (pe_opI op_add_str (pe_opI op_add_str (pvI 3) pe_strI) (pe_fnI D_l_share_text hr pass0 (pa_consI (pvI 7) pa_nilI))) (pa_consI (pe_opI op_add_str (pe_opI op_add_str (pe_fnI D_l_share_text hr pass0 (pa_consI (pvI 6) pa_nilI)) pe_strI) (pvI 3)) pa_nilI))) (pe_opI op_mod (pe_opI op_fdiv (pvI 2) pe_intI) pe_intI) (fun _ _ => rfl)))
      (pss_consI (ps_ifI (PW_ptI (pw_orI (pt_notI (pt_valI (pe_fnI D_l_refused hr pass0 (pa_consI pe_intI (pa_consI (pvI 3) (pa_consI pe_blI pa_nilI)))))) (pw_or1I (pt_notI (pt_valI (pe_fnI D_l_refused hr pass0 (pa_consI pe_intI (pa_consI (pvI 8) (pa_consI pe_blI pa_nilI))))))))) (pss_oneI (ps_retI pe_blI)) pss_nilI)
      (pss_consI (ps_setI (i := 9) sc_l_all_refused.nd rfl (by first | exact Or.inl rfl | exact Or.inr rfl) (pe_lstI (pa_consI (pe_fnI D_l_share_text hr pass0 (pa_consI (pvI 6) pa_nilI)) (pa_consI (pvI 8) (pa_consI (pe_opI op_add_str (pe_opI op_add_str (pe_opI op_add_str (pe_fnI D_l_share_text hr pass0 (pa_consI (pvI 6) pa_nilI)) pe_strI) (pe_fnI D_l_share_text hr pass0 (pa_consI (pvI 7) pa_nilI))) pe_strI) (pa_consI (pe_opI op_add_str (pe_ixI (ix_listK K) (pvI 4) (pvI 5) (fun _ _ => rfl)) pe_strI) (pa_consI pe_strI pa_nilI)))))))
      (pss_consI (ps_setI (i := 10) sc_l_all_refused.nd rfl (by first | exact Or.inl rfl | exact Or.inr rfl) (pe_ixI (ix_listK K) (pvI 9) (pe_opI op_mod (pe_opI op_fdiv (pe_fnI D_l_cell_at hr pass0 (pa_consI (pvI 0) (pa_consI pe_intI pa_nilI))) pe_intI) pe_intI) (fun _ _ => rfl)))
      (pss_consI (ps_setI (i := 11) sc_l_all_refused.nd rfl (by first | exact Or.inl rfl | exact Or.inr rfl) (show PEi _ _ (tBM K _ _ _ _) from (pe_bmI PySem.F.plainAttrs_str PySem.F.slot_str_join PySem.F.type_str_join (mt_joinK K) pe_strI (pa_consI (pe_opI op_cat (pe_opI op_cat (pe_sliceI (sl_listK K) (pvI 4) po_noneI (po_someI (pvI 5))) (pe_lstI (pa_consI (pvI 10) pa_nilI))) (pe_sliceI (sl_listK K) (pvI 4) (po_someI (pe_opI op_add (pvI 5) pe_intI)) po_noneI)) pa_nilI))))
      (pss_consI (ps_ifI (PW_ptI (pw_orI (pt_notI (pt_valI (pe_fnI D_l_refused hr pass0 (pa_consI pe_intI (pa_consI (pvI 11) (pa_consI pe_blI pa_nilI)))))) (pw_or1I (pt_notI (pt_valI (pe_fnI D_l_refused hr pass0 (pa_consI pe_intI (pa_consI (pvI 11) (pa_consI pe_blI pa_nilI))))))))) (pss_oneI (ps_retI pe_blI)) pss_nilI)
      (pss_consI (ps_setI (i := 12) sc_l_all_refused.nd rfl (by first | exact Or.inl rfl | exact Or.inr rfl) (show PEi _ _ (tBM K _ _ _ _) from (pe_bmI PySem.F.plainAttrs_str PySem.F.slot_str_join PySem.F.type_str_join (mt_joinK K) pe_strI (pa_consI (pvI 4) pa_nilI))))
      (pss_consI (ps_setI (i := 11) sc_l_all_refused.nd rfl (by first | exact Or.inl rfl | exact Or.inr rfl) (pe_ixI (ix_listK K) (pe_lstI (pa_consI (pe_opI op_add_str (pe_opI op_add_str (pvI 12) pe_strI) (pvI 11)) (pa_consI (pe_opI op_add_str (pe_opI op_add_str (pvI 12) pe_strI) (pvI 12)) (pa_consI (pe_opI op_add_str (pe_opI op_add_str (pvI 12) pe_strI) (pvI 12)) (pa_consI (pe_opI op_add_str (pvI 12) pe_strI) pa_nilI))))) (pe_opI op_mod (pe_opI op_fdiv (pvI 2) pe_intI) pe_intI) (fun _ _ => rfl)))
      (pss_oneI (ps_retI (pe_fnI D_l_refused hr pass0 (pa_consI pe_intI (pa_consI (pvI 11) (pa_consI pe_blI pa_nilI))))))))))))))))))), ?_⟩
    have hwl := hP.len
    walk_at "rd"
    refine ⟨a, ns, 2, rfl, hS, by decide, fun z2 => ?_⟩
    walk_at "rd"
    refine fun x H1 s1 od => ?_
    replace hS : SqL K H1 a (ns.map V.int) := SqL.same' hS s1
    replace hl := s1 _ _ hl
    replace hP := hP.same s1
    walk_at "rd"
    obtain ⟨fx, fy, hJ, hxy⟩ := plain_ptsV (SqL.of (K := K) hl) hP
    refine ⟨⟨_, SqL.of hl⟩, comp2 hJ (by omega) (fun i v H => ∀ p, ps[i]? = some p → v = .str (tPt p)) (fun _ _ _ _ tt h => h) (fun i H2 kk hi s2 hk => ?_) (fun d ys H2 hd0 s2 hd hyl hr => ?_)⟩
    · have ep : ps[i]? = some (ps[i]'hi) := List.getElem?_eq_getElem _
      obtain ⟨gx, gy⟩ := hxy i _ ep
      have hp := fgp _ (List.mem_of_getElem? ep)
      generalize ps[i]'hi = p at *
      have l1 := tSh_ln (k := 100) (by decide) hp.1
      have l2 := tSh_ln (k := 100) (by decide) hp.2
      walk_at "rd"
      refine ⟨fx i, p.1, rfl, gx.same s2, fg_mono hp.1 (by decide), ?_⟩
      walk_at "rd"
      refine ⟨Nat.le_of_lt (small_line (by show (tSh p.1).length + 1 ≤ 100000; omega)), ?_⟩
      walk_at "rd"
      refine ⟨fy i, p.2, rfl, gy.same s2, fg_mono hp.2 (by decide), ?_⟩
      refine ⟨_, _, rfl, rfl, Nat.le_of_lt (small_line (by rw [len_app]; show (tSh p.1).length + 1 + (tSh p.2).length ≤ 100000; omega)), ?_⟩
      refine hk _ _ (L2.Same.refl _) fun p' e => ?_
      rw [ep] at e; cases e
      rfl
    have ey : ys = (ps.map tPt).map V.str := strs_eq hyl hr
    subst ey
    clear hyl hr hxy hJ fx fy hd0
    replace hS : SqL K H2 a (ns.map V.int) := SqL.same' hS s2
    replace hl := s2 _ _ hl
    replace hP := hP.same s2
    have sA := s1.trans s2
    clear s1 s2
    have hdl : ((ps.map tPt).map V.str).length = ps.length := by rw [List.length_map, List.length_map]
    walk_at "rd"
    refine ⟨a, ns, 3, rfl, hS, by decide, fun z3 => ?_⟩
    walk_at "rd"
    refine ⟨by show (0 : Int) < _; omega, ?_⟩
    dsimp only
    rw [hdl]
    have r0 := Int.emod_nonneg z3 (b := (ps.length : Int)) (by omega)
    have r1 := Int.emod_lt_of_pos z3 (b := (ps.length : Int)) (by omega)
    generalize z3 % (ps.length : Int) = at1 at *
    obtain ⟨j, rfl⟩ := Int.eq_ofNat_of_zero_le r0
    have hj : j < ps.length := by omega
    have epj : ps[j]? = some (ps[j]'hj) := List.getElem?_eq_getElem _
    have hsp : ps = ps.take j ++ ps[j]'hj :: ps.drop (j + 1) := by rw [List.getElem_cons_drop, List.take_append_drop]
    obtain ⟨vj, evj, gj⟩ := hP.at epj
    generalize ps[j]'hj = p at *
    obtain ⟨bj, vx, vy, rfl, hbj, gx, gy⟩ := gj
    have hp := fgp p (List.mem_of_getElem? epj)
    have lx := tSh_ln (k := 100) (by decide) hp.1
    have ly := tSh_ln (k := 100) (by decide) hp.2
    have lo := od.len
    have lx3 : (tSh p.1).length ≤ 300 := by omega
    have ly3 : (tSh p.2).length ≤ 300 := by omega
    have lo3 : x.length ≤ 300 := by omega
    have lo4 : (x ++ ",").length ≤ 300 := by rw [len_app]; show _ + 1 ≤ 300; omega
    have lx4 : (tSh p.1 ++ ",").length ≤ 300 := by rw [len_app]; show _ + 1 ≤ 300; omega
    walk_at "rd"
    refine ⟨l, _, _, _, rfl, rfl, SqL.of hl, atI_nat' (j := j) rfl evj, ?_⟩
    refine ⟨bj, _, rfl, SqT.of hbj, rfl, _, _, rfl, _, _, rfl, rfl, ?_⟩
    walk_at "rd"
    refine ⟨cat_ln lo3 (by decide), ?_⟩
    walk_at "rd"
    refine ⟨vy, p.2, rfl, gy, fg_mono hp.2 (by decide), ?_⟩
    refine ⟨_, _, rfl, rfl, cat_ln lo4 ly3, ?_⟩
    walk_at "rd"
    refine ⟨vx, p.1, rfl, gx, fg_mono hp.1 (by decide), ?_⟩
    walk_at "rd"
    refine ⟨cat_ln lx3 (by decide), ?_⟩
    walk_at "rd"
    refine ⟨cat_ln lx4 lo3, ?_⟩
    refine ⟨by show 2 ≤ sizeLine; decide, fun q1 hq1 => ?_⟩
    have hq1' := upd_same (H := H2) (a := q1) (o := .lst [.str (x ++ "," ++ tSh p.2), .str (tSh p.1 ++ "," ++ x)])
    have sq := Same.new (o := .lst [.str (x ++ "," ++ tSh p.2), .str (tSh p.1 ++ "," ++ x)]) hq1
    obtain ⟨t, et, tP, tB⟩ : ∃ t : Str, atI [V.str (x ++ "," ++ tSh p.2), V.str (tSh p.1 ++ "," ++ x)] (z2 / 21 % 2) = some (.str t) ∧ BdP t ∧ BadS t := by
      rcases Int.emod_two_eq (z2 / 21) with e | e
      · rw [e]
        exact ⟨_, rfl, bdP_one od.cm (tSh_no (by decide) (by decide) (by decide)) (by omega) od.bad, badS_odd1 od hp.2⟩
      · rw [e]
        exact ⟨_, rfl, bdP_two hp.1 od.cm (by omega) od.bad, badS_odd2 od hp.1⟩
    replace hS := SqL.same' hS sq
    replace hl := sq _ _ hl
    replace hd := sq _ _ hd
    replace gx := gx.same sq
    replace gy := gy.same sq
    replace sA := sA.trans sq
    generalize upd H2 q1 (.lst [.str (x ++ "," ++ tSh p.2), .str (tSh p.1 ++ "," ++ x)]) = H3 at *
    have lt := tB.len
    walk_at "rd"
    clear hq1' sq et hq1 hP hbj
    refine ⟨_, _, _, rfl, .share x (by omega) od.bad, fun H4 s4 => ?_⟩
    walk_at "rd"
    refine ⟨_, _, _, rfl, .point t (by omega) tP, fun H5 s5 => ?_⟩
    have s45 := s4.trans s5
    replace hS := SqL.same' hS s45
    replace hl := s45 _ _ hl
    replace hd := s45 _ _ hd
    replace gx := gx.same s45
    replace gy := gy.same s45
    replace sA := sA.trans s45
    clear s4 s5 s45
    walk_at "rd"
    have lp := tPt_ln (k := 100) (by decide) hp
    have lp2 : (tSh p.1 ++ "," ++ tSh p.2).length ≤ 407 := lp
    have evd : ((ps.map tPt).map V.str)[j]? = some (.str (tPt p)) := by rw [List.getElem?_map, List.getElem?_map, epj]; rfl
    refine ⟨vx, p.1, rfl, gx, fg_mono hp.1 (by decide), ?_⟩
    walk_at "rd"
    refine ⟨vx, p.1, rfl, gx, fg_mono hp.1 (by decide), ?_⟩
    walk_at "rd"
    refine ⟨cat_ln lx3 (by decide), ?_⟩
    walk_at "rd"
    refine ⟨vy, p.2, rfl, gy, fg_mono hp.2 (by decide), ?_⟩
    refine ⟨_, _, rfl, rfl, cat_ln lx4 ly3, ?_⟩
    walk_at "rd"
    refine ⟨cat_lnG (n := 2) lp2 (by decide), ?_⟩
    walk_at "rd"
    refine ⟨d, _, _, _, rfl, rfl, SqL.of hd, atI_nat' (j := j) rfl evd, ?_⟩
    walk_at "rd"
    refine ⟨cat_lnG (n := 1) lp (by decide), ?_⟩
    refine ⟨by show 5 ≤ sizeLine; decide, fun q2 hq2 => ?_⟩
    have hq2' := upd_same (H := H5) (a := q2) (o := .lst [.str (tSh p.1), .str t, .str (tSh p.1 ++ "," ++ tSh p.2 ++ ",1"), .str (tPt p ++ " "), .str ","])
    have sq := Same.new (o := .lst [.str (tSh p.1), .str t, .str (tSh p.1 ++ "," ++ tSh p.2 ++ ",1"), .str (tPt p ++ " "), .str ","]) hq2
    replace hS := SqL.same' hS sq
    replace hl := sq _ _ hl
    replace hd := sq _ _ hd
    replace sA := sA.trans sq
    change gName 9 (V.ref q2) _ (upd H5 q2 (.lst [.str (tSh p.1), .str t, .str (tSh p.1 ++ "," ++ tSh p.2 ++ ",1"), .str (tPt p ++ " "), .str ","])) _
    generalize upd H5 q2 (.lst [.str (tSh p.1), .str t, .str (tSh p.1 ++ "," ++ tSh p.2 ++ ",1"), .str (tPt p ++ " "), .str ","]) = H6 at *
    clear sq hq2 gx gy
    walk_at "rd"
    refine ⟨a, ns, 3, rfl, hS, by decide, fun z4 => ?_⟩
    obtain ⟨bd, eb, bB⟩ : ∃ b : Str, atI [V.str (tSh p.1), .str t, .str (tSh p.1 ++ "," ++ tSh p.2 ++ ",1"), .str (tPt p ++ " "), .str ","] (z4 / 12 % 5) = some (.str b) ∧ BadS b := by
      have c0 := Int.emod_nonneg (z4 / 12) (b := 5) (by decide)
      have c1 := Int.emod_lt_of_pos (z4 / 12) (b := 5) (by decide)
      generalize z4 / 12 % 5 = m at *
      have : m = 0 ∨ m = 1 ∨ m = 2 ∨ m = 3 ∨ m = 4 := by omega
      rcases this with rfl | rfl | rfl | rfl | rfl
      · exact ⟨_, rfl, badS_share hp.1⟩
      · exact ⟨_, rfl, tB⟩
      · exact ⟨_, rfl, badS_three hp⟩
      · exact ⟨_, rfl, badS_blank hp⟩
      · exact ⟨_, rfl, badS_comma⟩
    walk_at "rd"
    refine ⟨d, _, rfl, SqL.of hd, fun g1 hg1 => ?_⟩
    rw [cut_to _ (j : Int) j rfl]
    have v1 := Same.new (o := .lst (((ps.map tPt).map V.str).take j)) hg1
    have k1 := upd_same (H := H6) (a := g1) (o := .lst (((ps.map tPt).map V.str).take j))
    replace hS := SqL.same' hS v1
    replace hd := v1 _ _ hd
    replace sA := sA.trans v1
    generalize upd H6 g1 (.lst (((ps.map tPt).map V.str).take j)) = H7 at *
    walk_at "rd"
    intro g2 hg2
    have v2 := Same.new (o := .lst [.str bd]) hg2
    have k2 := upd_same (H := H7) (a := g2) (o := .lst [.str bd])
    replace k1 := v2 _ _ k1
    replace hS := SqL.same' hS v2
    replace hd := v2 _ _ hd
    replace sA := sA.trans v2
    refine ⟨g1, g2, _, _, rfl, rfl, k1, k2, Nat.le_of_lt (small_line (by rw [List.length_take, hdl]; show _ + 1 ≤ 100000; omega)), fun g3 hg3 => ?_⟩
    have v3 := Same.new (o := .lst (((ps.map tPt).map V.str).take j ++ [.str bd])) hg3
    have k3 := upd_same (H := upd H7 g2 (.lst [.str bd])) (a := g3) (o := .lst (((ps.map tPt).map V.str).take j ++ [.str bd]))
    replace hS := SqL.same' hS v3
    replace hd := v3 _ _ hd
    replace sA := sA.trans v3
    generalize upd (upd H7 g2 (.lst [.str bd])) g3 (.lst (((ps.map tPt).map V.str).take j ++ [.str bd])) = H8 at *
    clear k1 k2 v1 v2 v3 hg1 hg2 hg3
    walk_at "rd"
    refine ⟨d, _, rfl, SqL.of hd, fun g4 hg4 => ?_⟩
    rw [cut_fromI V.str (ps.map tPt) _ (j + 1) (by omega) (by rw [List.length_map]; omega)] at *
    have v1 := Same.new (o := .lst (((ps.map tPt).drop (j + 1)).map V.str)) hg4
    have k4 := upd_same (H := H8) (a := g4) (o := .lst (((ps.map tPt).drop (j + 1)).map V.str))
    replace k3 := v1 _ _ k3
    refine ⟨g3, g4, _, _, rfl, rfl, k3, k4, Nat.le_of_lt (small_line (by rw [List.length_append, List.length_take, hdl, List.length_map, List.length_drop, List.length_map]; show _ + 1 + _ ≤ 100000; omega)), fun g5 hg5 => ?_⟩
    have eT : ((ps.map tPt).map V.str).take j ++ [V.str bd] ++ ((ps.map tPt).drop (j + 1)).map V.str = ((ps.take j).map tPt ++ [bd] ++ (ps.drop (j + 1)).map tPt).map V.str := by
      simp only [List.map_append, List.map_take, List.map_drop, List.map_cons, List.map_nil]
    rw [eT] at *
    have v5 := Same.new (o := .lst (((ps.take j).map tPt ++ [bd] ++ (ps.drop (j + 1)).map tPt).map V.str)) hg5
    have k5 := upd_same (H := upd H8 g4 (.lst (((ps.map tPt).drop (j + 1)).map V.str))) (a := g5) (o := .lst (((ps.take j).map tPt ++ [bd] ++ (ps.drop (j + 1)).map tPt).map V.str))
    have s6 := v1.trans v5
    replace hS := SqL.same' hS s6
    replace hd := s6 _ _ hd
    replace sA := sA.trans s6
    generalize upd (upd H8 g4 (.lst (((ps.map tPt).drop (j + 1)).map V.str))) g5 (.lst (((ps.take j).map tPt ++ [bd] ++ (ps.drop (j + 1)).map tPt).map V.str)) = H9 at *
    clear k3 k4 v1 v5 hg4 hg5 s6 eT
    have hts : ∀ t ∈ (ps.take j).map tPt ++ [bd] ++ (ps.drop (j + 1)).map tPt, t.length ≤ 1000 ∧ 124 ∉ cp t := fun t ht => by
      simp only [List.mem_append, List.mem_map, List.mem_singleton] at ht
      have pp : ∀ q ∈ ps, (tPt q).length ≤ 1000 ∧ 124 ∉ cp (tPt q) := fun q hq => ⟨Nat.le_trans (tPt_ln (k := 100) (by decide) (fgp q hq)) (by decide), tPt_no (by decide) (by decide) (by decide) (by decide)⟩
      rcases ht with (⟨q, hq, rfl⟩ | rfl) | ⟨q, hq, rfl⟩
      · exact pp q (List.mem_of_mem_take hq)
      · exact ⟨bB.len, bB.st⟩
      · exact pp q (List.mem_of_mem_drop hq)
    have hln : ((ps.take j).map tPt ++ [bd] ++ (ps.drop (j + 1)).map tPt).length ≤ 30 := by
      rw [List.length_append, List.length_append, List.length_map, List.length_map, List.length_take, List.length_drop]; show _ + 1 + _ ≤ 30; omega
    walk_at "rd"
    refine ⟨_, g5, _, rfl, rfl, SqL.of k5, jl_ok (fun t ht => (hts t ht).1) hln, ?_⟩
    rw [txt_join]
    have bC : BdC (Str.join " " ((ps.take j).map tPt ++ [bd] ++ (ps.drop (j + 1)).map tPt)) := bdC_in bB.bad fun q hq => fgp q (List.mem_of_mem_take hq)
    have bN := join_no fun t ht => (hts t ht).2
    have bL : (Str.join " " ((ps.take j).map tPt ++ [bd] ++ (ps.drop (j + 1)).map tPt)).length ≤ 40000 := by
      have := join_ln (sep := " ") (B := 1000) fun t ht => (hts t ht).1
      have e : (" " : Str).length = 1 := rfl
      rw [e] at this
      have := Nat.mul_le_mul_right 1000 hln
      omega
    generalize Str.join " " ((ps.take j).map tPt ++ [bd] ++ (ps.drop (j + 1)).map tPt) = text at *
    clear k5 hts hln
    walk_at "rd"
    refine ⟨_, _, _, rfl, .curve text (by omega) bC, fun H10 s10 => ?_⟩
    walk_at "rd"
    refine ⟨_, _, _, rfl, .path text (by omega) (bdA_one bN (by omega) bC), fun H11 s11 => ?_⟩
    have s45 := s10.trans s11
    replace hd := s45 _ _ hd
    replace sA := sA.trans s45
    walk_at "rd"
    refine ⟨_, d, _, rfl, rfl, SqL.of hd, jl_ok (fun t ht => ?_) (by rw [List.length_map]; omega), ?_⟩
    · obtain ⟨q, hq, rfl⟩ := List.mem_map.mp ht
      exact Nat.le_trans (tPt_ln (k := 100) (by decide) (fgp q hq)) (by decide)
    rw [txt_join]
    change gName 12 (V.str (tCv ps)) _ _ _
    have lg : (tCv ps).length ≤ 4896 := Nat.le_trans (tCv_ln (k := 100) (by decide) fgp) (by show _ * 408 ≤ 12 * 408; exact Nat.mul_le_mul_right _ p12)
    have lg1 : (tCv ps ++ " | ").length ≤ 4899 := by rw [len_app]; show _ + 3 ≤ 4899; omega
    have lg2 : (tCv ps ++ " |").length ≤ 4898 := by rw [len_app]; show _ + 2 ≤ 4898; omega
    have lg3 : (tCv ps ++ "| ").length ≤ 4898 := by rw [len_app]; show _ + 2 ≤ 4898; omega
    have hgd : 1 ≤ ps.length ∧ ps.length ≤ 12 ∧ ∀ p ∈ ps, FgP 100 p := ⟨p1, p12, fgp⟩
    have b1 : BdA (tCv ps ++ " | " ++ text) := bdA_two hgd bN (by omega) bC
    have b2 : BdA (tCv ps ++ " |" ++ tCv ps) := by
      cases ps with
      | nil => simp at p1
      | cons q r => exact bdA_left fgp p12
    have b3 : BdA (tCv ps ++ "| " ++ tCv ps) := by
      rcases List.eq_nil_or_concat ps with e | ⟨r, q, e⟩
      · rw [e] at p1; simp at p1
      · rw [List.concat_eq_append] at e
        rw [e] at fgp p12 ⊢
        exact bdA_right fgp p12
    have b4 : BdA (tCv ps ++ " | ") := by
      have := bdA_two (x := "") hgd (by decide) (by decide) bdC_empty
      rwa [show tCv ps ++ " | " ++ "" = tCv ps ++ " | " from cp_ext (by rw [cp_app]; simp [cp_lit_empty])] at this
    clear s45 s10 s11 hS hl evd epj evj hsp
    walk_at "rd"
    refine ⟨cat_lnG (n := 3) lg (by decide), ?_⟩
    walk_at "rd"
    refine ⟨cat_lnG lg1 bL, ?_⟩
    walk_at "rd"
    refine ⟨cat_lnG (n := 2) lg (by decide), ?_⟩
    walk_at "rd"
    refine ⟨cat_lnG lg2 lg, ?_⟩
    walk_at "rd"
    refine ⟨cat_lnG (n := 2) lg (by decide), ?_⟩
    walk_at "rd"
    refine ⟨cat_lnG lg3 lg, ?_⟩
    walk_at "rd"
    refine ⟨cat_lnG (n := 3) lg (by decide), ?_⟩
    refine ⟨by show 4 ≤ sizeLine; decide, fun q3 hq3 => ?_⟩
    have hq3' := upd_same (H := H11) (a := q3) (o := .lst [.str (tCv ps ++ " | " ++ text), .str (tCv ps ++ " |" ++ tCv ps), .str (tCv ps ++ "| " ++ tCv ps), .str (tCv ps ++ " | ")])
    have sq := Same.new (o := .lst [.str (tCv ps ++ " | " ++ text), .str (tCv ps ++ " |" ++ tCv ps), .str (tCv ps ++ "| " ++ tCv ps), .str (tCv ps ++ " | ")]) hq3
    obtain ⟨w, ew, bw, lw⟩ : ∃ w : Str, atI [V.str (tCv ps ++ " | " ++ text), .str (tCv ps ++ " |" ++ tCv ps), .str (tCv ps ++ "| " ++ tCv ps), .str (tCv ps ++ " | ")] (z2 / 42 % 4) = some (.str w) ∧ BdA w ∧ w.length ≤ 50000 := by
      have c0 := Int.emod_nonneg (z2 / 42) (b := 4) (by decide)
      have c1 := Int.emod_lt_of_pos (z2 / 42) (b := 4) (by decide)
      generalize z2 / 42 % 4 = m at *
      have : m = 0 ∨ m = 1 ∨ m = 2 ∨ m = 3 := by omega
      rcases this with rfl | rfl | rfl | rfl
      · exact ⟨_, rfl, b1, by rw [len_app]; omega⟩
      · exact ⟨_, rfl, b2, by rw [len_app]; omega⟩
      · exact ⟨_, rfl, b3, by rw [len_app]; omega⟩
      · exact ⟨_, rfl, b4, by omega⟩
    replace sA := sA.trans sq
    generalize upd H11 q3 (.lst [.str (tCv ps ++ " | " ++ text), .str (tCv ps ++ " |" ++ tCv ps), .str (tCv ps ++ "| " ++ tCv ps), .str (tCv ps ++ " | ")]) = H12 at *
    walk_at "rd"
    refine ⟨_, _, _, rfl, .path w lw bw, fun H13 s13 => ?_⟩
    exact k _ (sA.trans s13)
theorem ok_l_low {C_Path : Addr} (T_Path : ClsK K mg "Path" C_Path) (N_Path_parts : NoAttr K C_Path "parts") (F : FunAt K mg "_law_low" s_l_low ["_law_top", "_law_bottom"]) (B : Blt mg) {C_SeatError C_NoJoin C_NoPlace C_NoText C_NoShare C_NoLower C_NoMap C_TooMany C_NoName : Addr} (X : Exc K mg C_SeatError C_NoJoin C_NoPlace C_NoText C_NoShare C_NoLower C_NoMap C_TooMany C_NoName) {t_MOST_CURVES t_MOST_SEATS t_FIGURES t_MOST_FIGURES : Tok} (G : Cst K mg t_MOST_CURVES t_MOST_SEATS t_FIGURES t_MOST_FIGURES) : DefOk P w K mg base CX0 1 "_law_low" ["_law_top", "_law_bottom"] spLShare := by
  refine def_okI F sc_l_low (fun vs H Q E h => ?_) (fun f cdv A outer s H vs Q E hr h => ?_)
  · obtain ⟨a, b, rfl, _⟩ := h; rfl
  · obtain ⟨t, b, rfl, hb, hz, k⟩ := h
    have hu := hr.units
    refine ⟨_, (pss_consI (ps_setI (i := 2) sc_l_low.nd rfl (by first | exact Or.inl rfl | exact Or.inr rfl) (pe_callBI call_abs (by rfl) B.abs PyProof.Rows.boot_abs (pa_consI (pvI 0) pa_nilI)))
      (pss_consI (ps_setI (i := 3) sc_l_low.nd rfl (by first | exact Or.inl rfl | exact Or.inr rfl) (pvI 1))
      (pss_consI (ps_whileI PassesOwn.never (pt_cmpRI op_ne (pvI 3) pe_intI (nomark _)) (pss_oneI (ps_parI (i := 2) (j := 3) rfl sc_l_low.nd rfl rfl (by decide) rfl rfl (pa_consI (pvI 3) (pa_consI (pe_opI op_mod (pvI 2) (pvI 3)) pa_nilI)) rfl)))
      (pss_oneI (ps_retI (pe_tupI (pa_consI (pe_opI op_fdivB (pvI 0) (pvI 2)) (pa_consI (pe_opI op_fdivB (pvI 1) (pvI 2)) pa_nilI)))))))), ?_⟩
    have g0 : (Int.gcd t b : Int) ≠ 0 := gcd_pos' t b (by omega)
    have gz : Sz 9000 (Int.gcd t b : Int) := hz.le (by
      rw [Int.natAbs_natCast]
      exact Nat.le_of_dvd (by omega) (Int.gcd_dvd_natAbs_right t b))
    walk_at "rd"
    refine while_by (fun σ H' => ∃ x y : Int, σ = [some (.int t), some (.int b), some (.int x), some (.int y)] ∧ H' = H ∧ 0 ≤ x ∧ 0 ≤ y ∧ Int.gcd x y = Int.gcd t b) (fun σ _ => match σ with | [_, _, _, some (.int y)] => y.natAbs | _ => 0) ⟨_, b, rfl, rfl, by split <;> omega, by omega, gcd_abs t b⟩ ?_ ?_
    · rintro σ H' ⟨x, y, rfl, rfl, hx, hy, e⟩
      refine ⟨_, rfl, rfl, _, rfl, ?_⟩
      by_cases h0 : y = 0
      · subst h0
        have hg := low_gcd hx e
        subst hg
        refine iteNS rfl ?_
        refine ⟨_, rfl, _, rfl, _, _, rfl, rfl, ⟨g0, gz⟩, _, rfl, _, rfl, _, _, rfl, rfl, ⟨g0, gz⟩, (by show 2 ≤ sizeLine; decide), fun p hp => ?_⟩
        have e := share_pos t b hb
        refine k _ _ (Same.new hp) ⟨p, rfl, ?_⟩
        rw [upd_same, ← e.1, ← e.2]
      · refine ifT (dec_int_ne h0) ?_
        have hn : 0 < y := by omega
        refine ⟨_, rfl, _, rfl, _, rfl, _, _, rfl, rfl, hn, _, _, rfl, ⟨_, _, rfl, rfl, hy, Int.emod_nonneg x (by omega), ?_⟩, ?_⟩
        · rw [emod_gcd x y hn]; exact e
        · show (x % y).natAbs < y.natAbs
          have := Int.emod_lt_of_pos x hn
          have := Int.emod_nonneg x (b := y) (by omega)
          omega
    · rintro σ H' Q Q' hq ⟨v, h1, hs, k1, h2, h3⟩
      exact ⟨v, h1, hs, k1, h2, hq _ _ h3⟩
theorem ok_l_stream {C_Path : Addr} (T_Path : ClsK K mg "Path" C_Path) (N_Path_parts : NoAttr K C_Path "parts") (F : FunAt K mg "_law_stream" s_l_stream ["_law_cell", "_law_many"]) (B : Blt mg) {C_SeatError C_NoJoin C_NoPlace C_NoText C_NoShare C_NoLower C_NoMap C_TooMany C_NoName : Addr} (X : Exc K mg C_SeatError C_NoJoin C_NoPlace C_NoText C_NoShare C_NoLower C_NoMap C_TooMany C_NoName) {t_MOST_CURVES t_MOST_SEATS t_FIGURES t_MOST_FIGURES : Tok} (G : Cst K mg t_MOST_CURVES t_MOST_SEATS t_FIGURES t_MOST_FIGURES) : DefOk P w K mg base CX0 1 "_law_stream" ["_law_cell", "_law_many"] spStreamB := by
  refine def_okI F sc_l_stream (fun vs H Q E h => ?_) (fun f cdv A outer s H vs Q E hr h => ?_)
  · obtain ⟨c, n, rfl, _⟩ := h; rfl
  · obtain ⟨c, n, rfl, hn, k⟩ := h
    have hu := hr.units
    refine ⟨_, (pss_consI (ps_setI (i := 2) sc_l_stream.nd rfl (by first | exact Or.inl rfl | exact Or.inr rfl) (pe_opI op_add (pe_opI op_mod (pvI 0) pe_intI) pe_intI))
      (pss_consI (ps_setI (i := 3) sc_l_stream.nd rfl (by first | exact Or.inl rfl | exact Or.inr rfl) (pe_lstI pa_nilI))
      (pss_consI (ps_forI PassesOwn.never rfl (pi_range1I rfl B.range (pa_consI (pe_opI op_add (pvI 1) pe_intI) pa_nilI)) (pg_nameI (i := 4) sc_l_stream.nd rfl (by first | exact Or.inl rfl | exact Or.inr rfl))
      (pss_consI (ps_setI (i := 2) sc_l_stream.nd rfl (by first | exact Or.inl rfl | exact Or.inr rfl) (pe_opI op_mod (pe_opI op_add (pe_opI op_add (pe_opI op_add (pe_opI op_mulA (pvI 2) pe_intI) (pe_opI op_fdiv (pvI 2) pe_intI)) (pe_opI op_mulA pe_intI (pvI 4))) pe_intI) pe_intI))
      (pss_oneI (ps_exprI (show PEi _ _ (tBM K _ _ _ _) from (pe_bmI PySem.F.plainAttrs_list PySem.F.slot_list_append PySem.F.type_list_append mt_append (pvI 3) (pa_consI (pe_opI op_fdiv (pvI 2) pe_intI) pa_nilI)))))))
      (pss_oneI (ps_retI (pe_sliceI (sl_listK K) (pvI 3) (po_someI pe_intI) po_noneI)))))), ?_⟩
    walk_at "rd"
    intro l hl
    walk_at "rd"
    refine ⟨by omega, by omega, for_range (fun i σ H' => ∃ (x : Int) (xs : List Int) (y : Option V), σ = [some (.int c), some (.int (n : Int)), some (.int x), some (.ref l), y] ∧ Same H H' ∧ H' l = some (.lst (xs.map V.int)) ∧ xs.length = i ∧ ∀ z ∈ xs, 0 ≤ z) ⟨_, [], none, rfl, Same.new hl, upd_same, rfl, fun _ h => nomatch h⟩ ?_ ?_⟩
    · rintro i σ H2 hi ⟨x, xs, y, rfl, s2, h2, hlen, hx⟩
      walk_at "rd"
      refine ⟨.inl ⟨rfl, _, SqL.of h2⟩, ?_⟩
      walk_at "rd"
      refine ⟨l, _, _, rfl, rfl, h2, ?_, ?_⟩
      · rw [List.length_map, hlen]; exact small_line (by omega)
      · refine ⟨_, xs ++ [(x * 48271 + x / 40692 + 31 * (0 + (i : Int)) + 3) % 2147483647 / 8], _, rfl, fun b o e => ?_, ?_, ?_, ?_⟩
        · rw [upd_ne (ne_of_none e hl)]; exact s2 b o e
        · rw [upd_same, List.map_append]; rfl
        · rw [List.length_append, hlen]; rfl
        · intro z hz
          rcases List.mem_append.mp hz with hz | hz
          · exact hx z hz
          · cases List.mem_singleton.mp hz
            have := Int.emod_nonneg (x * 48271 + x / 40692 + 31 * (0 + (i : Int)) + 3) (b := 2147483647) (by decide)
            exact Int.ediv_nonneg this (by decide)
    · rintro σ H2 ⟨x, xs, y, rfl, s2, h2, hlen, hx⟩
      refine ⟨_, rfl, 2, rfl, l, _, rfl, SqL.of h2, fun q hq => ?_⟩
      rw [cut_fromI V.int xs 2 2 rfl (by omega)]
      exact k q (xs.drop 2) _ (s2.trans (Same.new hq)) upd_same (by rw [List.length_drop, hlen]; omega) fun z hz => hx z (List.mem_of_mem_drop hz)
theorem ok_l_curve {C_Path : Addr} (T_Path : ClsK K mg "Path" C_Path) (N_Path_parts : NoAttr K C_Path "parts") (F : FunAt K mg "_law_curve" s_l_curve ["_law_cell", "_law_more"]) (B : Blt mg) {C_SeatError C_NoJoin C_NoPlace C_NoText C_NoShare C_NoLower C_NoMap C_TooMany C_NoName : Addr} (X : Exc K mg C_SeatError C_NoJoin C_NoPlace C_NoText C_NoShare C_NoLower C_NoMap C_TooMany C_NoName) {t_MOST_CURVES t_MOST_SEATS t_FIGURES t_MOST_FIGURES : Tok} (G : Cst K mg t_MOST_CURVES t_MOST_SEATS t_FIGURES t_MOST_FIGURES) (D_l_low : DefOk P w K mg base CX0 1 "_law_low" ["_law_top", "_law_bottom"] spLShare) (D_l_stream : DefOk P w K mg base CX0 1 "_law_stream" ["_law_cell", "_law_many"] spStreamB) : DefOk P w K mg base CX0 2 "_law_curve" ["_law_cell", "_law_more"] spLCurve := by
  refine def_okI F sc_l_curve (fun vs H Q E h => ?_) (fun f cdv A outer s H vs Q E hr h => ?_)
  · obtain ⟨c, m, rfl, _⟩ := h; rfl
  · obtain ⟨c, m, rfl, k⟩ := h
    have hu := hr.units
    refine ⟨_, (pss_consI (ps_setI (i := 2) sc_l_curve.nd rfl (by first | exact Or.inl rfl | exact Or.inr rfl) (pe_fnI D_l_stream hr pass0 (pa_consI (pvI 0) (pa_consI pe_intI pa_nilI))))
      (pss_consI (ps_setI (i := 3) sc_l_curve.nd rfl (by first | exact Or.inl rfl | exact Or.inr rfl) (pe_ixI (ix_listK K) (pe_lstI (pa_consI pe_intI (pa_consI pe_intI (pa_consI pe_intI (pa_consI pe_intI (pa_consI pe_intI (pa_consI pe_intI (pa_consI pe_intI (pa_consI pe_intI pa_nilI))))))))) (pe_opI op_mod (pe_ixI (ix_listK K) (pvI 2) pe_intI (fun _ _ => rfl)) pe_intI) (fun _ _ => rfl)))
      (pss_consI (ps_ifI (pt_cmpRI op_eq (pe_opI op_mod (pe_ixI (ix_listK K) (pvI 2) pe_intI (fun _ _ => rfl)) pe_intI) pe_intI (nomark _)) (pss_oneI (ps_setI (i := 3) sc_l_curve.nd rfl (by first | exact Or.inl rfl | exact Or.inr rfl) (pe_opI op_add pe_intI (pe_opI op_mod (pe_ixI (ix_listK K) (pvI 2) pe_intI (fun _ _ => rfl)) pe_intI)))) pss_nilI)
      (pss_consI (ps_setI (i := 4) sc_l_curve.nd rfl (by first | exact Or.inl rfl | exact Or.inr rfl) (pe_ixI (ix_listK K) (pe_lstI (pa_consI pe_intI (pa_consI pe_intI (pa_consI pe_intI (pa_consI pe_intI (pa_consI pe_intI (pa_consI pe_intI (pa_consI pe_intI (pa_consI (pe_opI op_add (pe_opI op_pow pe_intI pe_intI) pe_intI) pa_nilI))))))))) (pe_opI op_mod (pe_ixI (ix_listK K) (pvI 2) pe_intI (fun _ _ => rfl)) pe_intI) (fun _ _ => rfl)))
      (pss_consI (ps_setI (i := 5) sc_l_curve.nd rfl (by first | exact Or.inl rfl | exact Or.inr rfl) (pe_opI op_mulA (pe_ixI (ix_listK K) (pe_lstI (pa_consI pe_intI (pa_consI pe_intI (pa_consI pe_intI pa_nilI)))) (pe_opI op_mod (pe_opI op_fdiv (pe_ixI (ix_listK K) (pvI 2) pe_intI (fun _ _ => rfl)) pe_intI) pe_intI) (fun _ _ => rfl)) (pe_opI op_mod (pvI 1) (pe_opI op_pow pe_intI pe_intI))))
      (pss_consI (ps_setI (i := 6) sc_l_curve.nd rfl (by first | exact Or.inl rfl | exact Or.inr rfl) (pe_lstI pa_nilI))
      (pss_consI (ps_forI PassesOwn.never rfl (pi_range1I rfl B.range (pa_consI (pvI 3) pa_nilI)) (pg_nameI (i := 7) sc_l_curve.nd rfl (by first | exact Or.inl rfl | exact Or.inr rfl))
      (pss_consI (ps_setI (i := 8) sc_l_curve.nd rfl (by first | exact Or.inl rfl | exact Or.inr rfl) (pe_opI op_sub (pe_opI op_mod (pe_ixI (ix_listK K) (pvI 2) (pe_opI op_add pe_intI (pvI 7)) (fun _ _ => rfl)) pe_intI) pe_intI))
      (pss_consI (ps_setI (i := 9) sc_l_curve.nd rfl (by first | exact Or.inl rfl | exact Or.inr rfl) (pe_opI op_sub (pe_opI op_mod (pe_opI op_fdiv (pe_ixI (ix_listK K) (pvI 2) (pe_opI op_add pe_intI (pvI 7)) (fun _ _ => rfl)) pe_intI) pe_intI) pe_intI))
      (pss_oneI (ps_ifI (PW_ptI (pw_andI (pt_cmpRI op_gt (pvI 7) pe_intI (nomark _)) (pw_and1I (pt_cmpRI op_eq (pe_opI op_mod (pe_ixI (ix_listK K) (pvI 2) (pe_opI op_add pe_intI (pvI 7)) (fun _ _ => rfl)) pe_intI) pe_intI (nomark _))))) (pss_oneI (ps_exprI (show PEi _ _ (tBM K _ _ _ _) from (pe_bmI PySem.F.plainAttrs_list PySem.F.slot_list_append PySem.F.type_list_append mt_append (pvI 6) (pa_consI (pe_ixI (ix_listK K) (pvI 6) (pe_opI op_sub (pvI 7) pe_intI) (fun _ _ => rfl)) pa_nilI))))) (pss_consI (ps_setI (i := 8) sc_l_curve.nd rfl (by first | exact Or.inl rfl | exact Or.inr rfl) (pe_fnI D_l_low hr pass0 (pa_consI (pe_opI op_add (pvI 8) (pe_opI op_mulA (pvI 5) (pe_opI op_mod (pe_ixI (ix_listK K) (pvI 2) (pe_opI op_add pe_intI (pvI 7)) (fun _ _ => rfl)) pe_intI))) (pa_consI (pvI 4) pa_nilI))))
      (pss_consI (ps_setI (i := 9) sc_l_curve.nd rfl (by first | exact Or.inl rfl | exact Or.inr rfl) (pe_fnI D_l_low hr pass0 (pa_consI (pe_opI op_sub (pvI 9) (pe_opI op_mulA (pvI 5) (pe_opI op_mod (pe_opI op_fdiv (pe_ixI (ix_listK K) (pvI 2) (pe_opI op_add pe_intI (pvI 7)) (fun _ _ => rfl)) pe_intI) pe_intI))) (pa_consI (pvI 4) pa_nilI))))
      (pss_oneI (ps_exprI (show PEi _ _ (tBM K _ _ _ _) from (pe_bmI PySem.F.plainAttrs_list PySem.F.slot_list_append PySem.F.type_list_append mt_append (pvI 6) (pa_consI (pe_tupI (pa_consI (pvI 8) (pa_consI (pvI 9) pa_nilI))) pa_nilI))))))))))))
      (pss_oneI (ps_retI (pvI 6)))))))))), ?_⟩
    walk_at "rd"
    refine ⟨_, 28, rfl, by decide, fun lx xs H1 s1 hx hxl hnn => ?_⟩
    have nn : ∀ j : Nat, 0 ≤ xs.getD j 0 := fun j => getD_nn hnn j
    walk_at "rd"
    intro lm hlm
    walk_at "rd"
    obtain ⟨many, hmany, many1, many2⟩ := tab [2, 3, 4, 1, 4, 5, 3, 6] 1 6 (xs.getD (Int.toNat 0) 0 % 8) (by decide) (by omega) (by show _ < (8 : Int); omega)
    refine ⟨_, _, _, _, rfl, rfl, SqL.of (by walk_at "hf"), hmany, ?_⟩
    walk_at "rd"
    refine ifB (fun _ => ?_) (fun _ => ?_)
    · walk_at "rd"
      clear many1 many2
      have many1 : 1 ≤ 7 + xs.getD (Int.toNat 2) 0 % 6 := by omega
      have many2 : 7 + xs.getD (Int.toNat 2) 0 % 6 ≤ 12 := by omega
      walk_at "rd"
      intro lb hlb
      walk_at "rd"
      obtain ⟨B, hB, B1, B2⟩ := tab [1, 1, 2, 3, 4, 12, 1, (10 : Int) ^ (9 : Int).toNat + 7] 1 1000000007 (xs.getD (Int.toNat 3) 0 % 8) (by rw [p9]; decide) (by omega) (by show _ < (8 : Int); omega)
      refine ⟨_, _, _, _, rfl, rfl, SqL.of (by walk_at "hf"), hB, ?_⟩
      walk_at "rd"
      intro lf hlf
      walk_at "rd"
      obtain ⟨F0, hF0, F1, F2⟩ := tab [0, 0, 1] 0 1 (xs.getD (Int.toNat 1) 0 / 8 % 3) (by decide) (by omega) (by show _ < (3 : Int); omega)
      refine ⟨_, _, _, _, rfl, rfl, SqL.of (by walk_at "hf"), hF0, ?_⟩
      walk_at "rd"
      have fb : (F0 * (m % (10 : Int) ^ (30 : Int).toNat)).natAbs ≤ 1000000000000000000000000000000 := by
        rw [p30]
        have a1 := Int.emod_nonneg m (b := 1000000000000000000000000000000) (by decide)
        have a2 := Int.emod_lt_of_pos m (b := 1000000000000000000000000000000) (by decide)
        have : F0 = 0 ∨ F0 = 1 := by omega
        rcases this with rfl | rfl <;> omega
      intro l hl
      walk_at "rd"
      refine ⟨by omega, by omega, for_range (fun i σ H' => ∃ (y1 y2 y3 : Option V) (ws : List V) (ps : List Pt), σ = [some (.int c), some (.int m), some (.ref lx), some (.int (7 + xs.getD (Int.toNat 2) 0 % 6)), some (.int B), some (.int (F0 * (m % (10 : Int) ^ (30 : Int).toNat))), some (.ref l), y1, y2, y3] ∧ Same (upd (upd (upd H1 lm (.lst [.int 2, .int 3, .int 4, .int 1, .int 4, .int 5, .int 3, .int 6])) lb (.lst [.int 1, .int 1, .int 2, .int 3, .int 4, .int 12, .int 1, .int ((10 : Int) ^ (9 : Int).toNat + 7)])) lf (.lst [.int 0, .int 0, .int 1])) H' ∧ H' l = some (.lst ws) ∧ PtsV H' ws ps ∧ ps.length = i ∧ ∀ p ∈ ps, OvP B 110 p) ⟨none, none, none, [], [], rfl, Same.new hl, upd_same, PtsV.nil _, rfl, fun _ h => nomatch h⟩ ?_ ?_⟩
      · rintro i σ H2 hi ⟨y1, y2, y3, ws, ps, rfl, s2, h2, hP, hpl, hov⟩
        have hx2 : H2 lx = some (.lst (xs.map V.int)) := s2 _ _ (by walk_at "hf")
        have hi' : (i : Int) < 12 := by omega
        have hwl := hP.len
        walk_at "rd"
        have n1 := nn (16 + (0 + (i : Int))).toNat
        have n2 := nn (4 + (0 + (i : Int))).toNat
        refine ite_dec (fun h0 => ?_) (fun h0 => ?_)
        · walk_at "rd"
          refine ifB (fun _ => ?_) (fun _ => ?_)
          · have ei : ps[i - 1]? = some (ps[i - 1]'(by omega)) := List.getElem?_eq_getElem _
            obtain ⟨w, ew, pw⟩ := hP.at ei
            walk_at "rd"
            refine ⟨.inl ⟨rfl, _, SqL.of h2⟩, ?_⟩
            refine ⟨_, rfl, _, rfl, _, _, rfl, rfl, l, _, _, _, rfl, rfl, SqL.of h2, atI_nat' (j := i - 1) (by omega) ew, ?_⟩
            refine ⟨l, _, _, rfl, rfl, h2, small_line (by omega), ?_⟩
            refine ⟨_, _, _, ws ++ [w], ps ++ [ps[i - 1]'(by omega)], rfl, fun b o e => ?_, upd_same, PtsV.snoc (hP.tup (Tup.lst h2)) (pw.tup (Tup.lst h2)), by rw [List.length_append]; show ps.length + 1 = i + 1; omega, fun p hp => ?_⟩
            · rw [upd_ne (ne_of_none e hl)]; exact s2 b o e
            · rcases List.mem_append.mp hp with hp | hp
              · exact hov p hp
              · rw [List.mem_singleton.mp hp]; exact hov _ (List.getElem_mem _)
          · walk_at "rd"
            refine ⟨_, _, rfl, by omega, Sz.mono (n := 31) (sz_of (b := 1000000007) (by omega) (by decide)) (by decide), fun v1 H3 s3 w1 => ?_⟩
            have hx3 : H3 lx = some (.lst (xs.map V.int)) := s3 _ _ hx2
            walk_at "rd"
            refine ⟨_, _, rfl, by omega, Sz.mono (n := 31) (sz_of (b := 1000000007) (by omega) (by decide)) (by decide), fun v2 H4 s4 w2 => ?_⟩
            have h4 : H4 l = some (.lst ws) := s4 _ _ (s3 _ _ h2)
            walk_at "rd"
            refine ⟨.inl ⟨rfl, _, SqL.of h4⟩, ?_⟩
            walk_at "rd"
            intro pp hpp
            have h5 : (upd H4 pp (.tup [v1, v2])) l = some (.lst ws) := upd_keep hpp h4
            refine ⟨l, _, _, rfl, rfl, h5, small_line (by omega), ?_⟩
            have s5 : Same H2 (upd H4 pp (.tup [v1, v2])) := (s3.trans s4).trans (Same.new hpp)
            refine ⟨_, _, _, ws ++ [V.ref pp], ps ++ [(Rat.divInt (xs.getD (4 + (0 + (i : Int))).toNat 0 % 41 - 20 + (F0 * (m % (10 : Int) ^ (30 : Int).toNat)) * (xs.getD (16 + (0 + (i : Int))).toNat 0 % 7)) B, Rat.divInt (xs.getD (4 + (0 + (i : Int))).toNat 0 / 41 % 41 - 20 - (F0 * (m % (10 : Int) ^ (30 : Int).toNat)) * (xs.getD (16 + (0 + (i : Int))).toNat 0 / 7 % 3)) B)], rfl, fun b o e => ?_, upd_same, PtsV.snoc (hP.tup (s5.tup.trans (Tup.lst h5))) ?_, by rw [List.length_append]; show ps.length + 1 = i + 1; omega, fun p hp => ?_⟩
            · rw [upd_ne (ne_of_none e hl)]; exact s5 _ _ (s2 b o e)
            · have pv : PtV (upd H4 pp (.tup [v1, v2])) (.ref pp) _ _ := ⟨pp, v1, v2, rfl, upd_same, (w1.same s4).same (Same.new hpp), w2.same (Same.new hpp)⟩
              exact pv.tup (Tup.lst h5)
            · rcases List.mem_append.mp hp with hp | hp
              · exact hov p hp
              · rw [List.mem_singleton.mp hp]
                have r1 := Int.emod_nonneg (xs.getD (16 + (0 + (i : Int))).toNat 0) (b := 7) (by decide)
                have r2 := Int.emod_lt_of_pos (xs.getD (16 + (0 + (i : Int))).toNat 0) (b := 7) (by decide)
                have r3 := Int.emod_nonneg (xs.getD (16 + (0 + (i : Int))).toNat 0 / 7) (b := 3) (by decide)
                have r4 := Int.emod_lt_of_pos (xs.getD (16 + (0 + (i : Int))).toNat 0 / 7) (b := 3) (by decide)
                have zf : Sz 100 (F0 * (m % (10 : Int) ^ (30 : Int).toNat)) := sz_of (b := 1000000000000000000000000000000) fb (by decide)
                have z1 : Sz 4 (xs.getD (16 + (0 + (i : Int))).toNat 0 % 7) := sz_of (b := 7) (by omega) (by decide)
                have z2 : Sz 4 (xs.getD (16 + (0 + (i : Int))).toNat 0 / 7 % 3) := sz_of (b := 7) (by omega) (by decide)
                have z3 : Sz 7 (xs.getD (4 + (0 + (i : Int))).toNat 0 % 41 - 20) := sz_of (b := 61) (by omega) (by decide)
                have z4 : Sz 7 (xs.getD (4 + (0 + (i : Int))).toNat 0 / 41 % 41 - 20) := sz_of (b := 61) (by omega) (by decide)
                exact ⟨ov_divInt (by omega) ((z3.add (zf.mul z1)).mono (by decide)), ov_divInt (by omega) ((z4.sub (zf.mul z2)).mono (by decide))⟩
        · walk_at "rd"
          refine ⟨_, _, rfl, by omega, Sz.mono (n := 31) (sz_of (b := 1000000007) (by omega) (by decide)) (by decide), fun v1 H3 s3 w1 => ?_⟩
          have hx3 : H3 lx = some (.lst (xs.map V.int)) := s3 _ _ hx2
          walk_at "rd"
          refine ⟨_, _, rfl, by omega, Sz.mono (n := 31) (sz_of (b := 1000000007) (by omega) (by decide)) (by decide), fun v2 H4 s4 w2 => ?_⟩
          have h4 : H4 l = some (.lst ws) := s4 _ _ (s3 _ _ h2)
          walk_at "rd"
          refine ⟨.inl ⟨rfl, _, SqL.of h4⟩, ?_⟩
          walk_at "rd"
          intro pp hpp
          have h5 : (upd H4 pp (.tup [v1, v2])) l = some (.lst ws) := upd_keep hpp h4
          refine ⟨l, _, _, rfl, rfl, h5, small_line (by omega), ?_⟩
          have s5 : Same H2 (upd H4 pp (.tup [v1, v2])) := (s3.trans s4).trans (Same.new hpp)
          refine ⟨_, _, _, ws ++ [V.ref pp], ps ++ [(Rat.divInt (xs.getD (4 + (0 + (i : Int))).toNat 0 % 41 - 20 + (F0 * (m % (10 : Int) ^ (30 : Int).toNat)) * (xs.getD (16 + (0 + (i : Int))).toNat 0 % 7)) B, Rat.divInt (xs.getD (4 + (0 + (i : Int))).toNat 0 / 41 % 41 - 20 - (F0 * (m % (10 : Int) ^ (30 : Int).toNat)) * (xs.getD (16 + (0 + (i : Int))).toNat 0 / 7 % 3)) B)], rfl, fun b o e => ?_, upd_same, PtsV.snoc (hP.tup (s5.tup.trans (Tup.lst h5))) ?_, by rw [List.length_append]; show ps.length + 1 = i + 1; omega, fun p hp => ?_⟩
          · rw [upd_ne (ne_of_none e hl)]; exact s5 _ _ (s2 b o e)
          · have pv : PtV (upd H4 pp (.tup [v1, v2])) (.ref pp) _ _ := ⟨pp, v1, v2, rfl, upd_same, (w1.same s4).same (Same.new hpp), w2.same (Same.new hpp)⟩
            exact pv.tup (Tup.lst h5)
          · rcases List.mem_append.mp hp with hp | hp
            · exact hov p hp
            · rw [List.mem_singleton.mp hp]
              have r1 := Int.emod_nonneg (xs.getD (16 + (0 + (i : Int))).toNat 0) (b := 7) (by decide)
              have r2 := Int.emod_lt_of_pos (xs.getD (16 + (0 + (i : Int))).toNat 0) (b := 7) (by decide)
              have r3 := Int.emod_nonneg (xs.getD (16 + (0 + (i : Int))).toNat 0 / 7) (b := 3) (by decide)
              have r4 := Int.emod_lt_of_pos (xs.getD (16 + (0 + (i : Int))).toNat 0 / 7) (b := 3) (by decide)
              have zf : Sz 100 (F0 * (m % (10 : Int) ^ (30 : Int).toNat)) := sz_of (b := 1000000000000000000000000000000) fb (by decide)
              have z1 : Sz 4 (xs.getD (16 + (0 + (i : Int))).toNat 0 % 7) := sz_of (b := 7) (by omega) (by decide)
              have z2 : Sz 4 (xs.getD (16 + (0 + (i : Int))).toNat 0 / 7 % 3) := sz_of (b := 7) (by omega) (by decide)
              have z3 : Sz 7 (xs.getD (4 + (0 + (i : Int))).toNat 0 % 41 - 20) := sz_of (b := 61) (by omega) (by decide)
              have z4 : Sz 7 (xs.getD (4 + (0 + (i : Int))).toNat 0 / 41 % 41 - 20) := sz_of (b := 61) (by omega) (by decide)
              exact ⟨ov_divInt (by omega) ((z3.add (zf.mul z1)).mono (by decide)), ov_divInt (by omega) ((z4.sub (zf.mul z2)).mono (by decide))⟩
      · rintro σ H2 ⟨y1, y2, y3, ws, ps, rfl, s2, h2, hP, hpl, hov⟩
        exact ⟨_, rfl, k l ws ps B H2 (by walk_at "sm") (s1.free (L2.Same.free (Same.new hlm) (L2.Same.free (Same.new hlb) (L2.Same.free (Same.new hlf) hl)))) h2 hP (by omega) (by omega) (by omega) (sz_of (b := 1000000007) (by omega) (by decide)) hov⟩
    · walk_at "rd"
      intro lb hlb
      walk_at "rd"
      obtain ⟨B, hB, B1, B2⟩ := tab [1, 1, 2, 3, 4, 12, 1, (10 : Int) ^ (9 : Int).toNat + 7] 1 1000000007 (xs.getD (Int.toNat 3) 0 % 8) (by rw [p9]; decide) (by omega) (by show _ < (8 : Int); omega)
      refine ⟨_, _, _, _, rfl, rfl, SqL.of (by walk_at "hf"), hB, ?_⟩
      walk_at "rd"
      intro lf hlf
      walk_at "rd"
      obtain ⟨F0, hF0, F1, F2⟩ := tab [0, 0, 1] 0 1 (xs.getD (Int.toNat 1) 0 / 8 % 3) (by decide) (by omega) (by show _ < (3 : Int); omega)
      refine ⟨_, _, _, _, rfl, rfl, SqL.of (by walk_at "hf"), hF0, ?_⟩
      walk_at "rd"
      have fb : (F0 * (m % (10 : Int) ^ (30 : Int).toNat)).natAbs ≤ 1000000000000000000000000000000 := by
        rw [p30]
        have a1 := Int.emod_nonneg m (b := 1000000000000000000000000000000) (by decide)
        have a2 := Int.emod_lt_of_pos m (b := 1000000000000000000000000000000) (by decide)
        have : F0 = 0 ∨ F0 = 1 := by omega
        rcases this with rfl | rfl <;> omega
      intro l hl
      walk_at "rd"
      refine ⟨by omega, by omega, for_range (fun i σ H' => ∃ (y1 y2 y3 : Option V) (ws : List V) (ps : List Pt), σ = [some (.int c), some (.int m), some (.ref lx), some (.int many), some (.int B), some (.int (F0 * (m % (10 : Int) ^ (30 : Int).toNat))), some (.ref l), y1, y2, y3] ∧ Same (upd (upd (upd H1 lm (.lst [.int 2, .int 3, .int 4, .int 1, .int 4, .int 5, .int 3, .int 6])) lb (.lst [.int 1, .int 1, .int 2, .int 3, .int 4, .int 12, .int 1, .int ((10 : Int) ^ (9 : Int).toNat + 7)])) lf (.lst [.int 0, .int 0, .int 1])) H' ∧ H' l = some (.lst ws) ∧ PtsV H' ws ps ∧ ps.length = i ∧ ∀ p ∈ ps, OvP B 110 p) ⟨none, none, none, [], [], rfl, Same.new hl, upd_same, PtsV.nil _, rfl, fun _ h => nomatch h⟩ ?_ ?_⟩
      · rintro i σ H2 hi ⟨y1, y2, y3, ws, ps, rfl, s2, h2, hP, hpl, hov⟩
        have hx2 : H2 lx = some (.lst (xs.map V.int)) := s2 _ _ (by walk_at "hf")
        have hi' : (i : Int) < 12 := by omega
        have hwl := hP.len
        walk_at "rd"
        have n1 := nn (16 + (0 + (i : Int))).toNat
        have n2 := nn (4 + (0 + (i : Int))).toNat
        refine ite_dec (fun h0 => ?_) (fun h0 => ?_)
        · walk_at "rd"
          refine ifB (fun _ => ?_) (fun _ => ?_)
          · have ei : ps[i - 1]? = some (ps[i - 1]'(by omega)) := List.getElem?_eq_getElem _
            obtain ⟨w, ew, pw⟩ := hP.at ei
            walk_at "rd"
            refine ⟨.inl ⟨rfl, _, SqL.of h2⟩, ?_⟩
            refine ⟨_, rfl, _, rfl, _, _, rfl, rfl, l, _, _, _, rfl, rfl, SqL.of h2, atI_nat' (j := i - 1) (by omega) ew, ?_⟩
            refine ⟨l, _, _, rfl, rfl, h2, small_line (by omega), ?_⟩
            refine ⟨_, _, _, ws ++ [w], ps ++ [ps[i - 1]'(by omega)], rfl, fun b o e => ?_, upd_same, PtsV.snoc (hP.tup (Tup.lst h2)) (pw.tup (Tup.lst h2)), by rw [List.length_append]; show ps.length + 1 = i + 1; omega, fun p hp => ?_⟩
            · rw [upd_ne (ne_of_none e hl)]; exact s2 b o e
            · rcases List.mem_append.mp hp with hp | hp
              · exact hov p hp
              · rw [List.mem_singleton.mp hp]; exact hov _ (List.getElem_mem _)
          · walk_at "rd"
            refine ⟨_, _, rfl, by omega, Sz.mono (n := 31) (sz_of (b := 1000000007) (by omega) (by decide)) (by decide), fun v1 H3 s3 w1 => ?_⟩
            have hx3 : H3 lx = some (.lst (xs.map V.int)) := s3 _ _ hx2
            walk_at "rd"
            refine ⟨_, _, rfl, by omega, Sz.mono (n := 31) (sz_of (b := 1000000007) (by omega) (by decide)) (by decide), fun v2 H4 s4 w2 => ?_⟩
            have h4 : H4 l = some (.lst ws) := s4 _ _ (s3 _ _ h2)
            walk_at "rd"
            refine ⟨.inl ⟨rfl, _, SqL.of h4⟩, ?_⟩
            walk_at "rd"
            intro pp hpp
            have h5 : (upd H4 pp (.tup [v1, v2])) l = some (.lst ws) := upd_keep hpp h4
            refine ⟨l, _, _, rfl, rfl, h5, small_line (by omega), ?_⟩
            have s5 : Same H2 (upd H4 pp (.tup [v1, v2])) := (s3.trans s4).trans (Same.new hpp)
            refine ⟨_, _, _, ws ++ [V.ref pp], ps ++ [(Rat.divInt (xs.getD (4 + (0 + (i : Int))).toNat 0 % 41 - 20 + (F0 * (m % (10 : Int) ^ (30 : Int).toNat)) * (xs.getD (16 + (0 + (i : Int))).toNat 0 % 7)) B, Rat.divInt (xs.getD (4 + (0 + (i : Int))).toNat 0 / 41 % 41 - 20 - (F0 * (m % (10 : Int) ^ (30 : Int).toNat)) * (xs.getD (16 + (0 + (i : Int))).toNat 0 / 7 % 3)) B)], rfl, fun b o e => ?_, upd_same, PtsV.snoc (hP.tup (s5.tup.trans (Tup.lst h5))) ?_, by rw [List.length_append]; show ps.length + 1 = i + 1; omega, fun p hp => ?_⟩
            · rw [upd_ne (ne_of_none e hl)]; exact s5 _ _ (s2 b o e)
            · have pv : PtV (upd H4 pp (.tup [v1, v2])) (.ref pp) _ _ := ⟨pp, v1, v2, rfl, upd_same, (w1.same s4).same (Same.new hpp), w2.same (Same.new hpp)⟩
              exact pv.tup (Tup.lst h5)
            · rcases List.mem_append.mp hp with hp | hp
              · exact hov p hp
              · rw [List.mem_singleton.mp hp]
                have r1 := Int.emod_nonneg (xs.getD (16 + (0 + (i : Int))).toNat 0) (b := 7) (by decide)
                have r2 := Int.emod_lt_of_pos (xs.getD (16 + (0 + (i : Int))).toNat 0) (b := 7) (by decide)
                have r3 := Int.emod_nonneg (xs.getD (16 + (0 + (i : Int))).toNat 0 / 7) (b := 3) (by decide)
                have r4 := Int.emod_lt_of_pos (xs.getD (16 + (0 + (i : Int))).toNat 0 / 7) (b := 3) (by decide)
                have zf : Sz 100 (F0 * (m % (10 : Int) ^ (30 : Int).toNat)) := sz_of (b := 1000000000000000000000000000000) fb (by decide)
                have z1 : Sz 4 (xs.getD (16 + (0 + (i : Int))).toNat 0 % 7) := sz_of (b := 7) (by omega) (by decide)
                have z2 : Sz 4 (xs.getD (16 + (0 + (i : Int))).toNat 0 / 7 % 3) := sz_of (b := 7) (by omega) (by decide)
                have z3 : Sz 7 (xs.getD (4 + (0 + (i : Int))).toNat 0 % 41 - 20) := sz_of (b := 61) (by omega) (by decide)
                have z4 : Sz 7 (xs.getD (4 + (0 + (i : Int))).toNat 0 / 41 % 41 - 20) := sz_of (b := 61) (by omega) (by decide)
                exact ⟨ov_divInt (by omega) ((z3.add (zf.mul z1)).mono (by decide)), ov_divInt (by omega) ((z4.sub (zf.mul z2)).mono (by decide))⟩
        · walk_at "rd"
          refine ⟨_, _, rfl, by omega, Sz.mono (n := 31) (sz_of (b := 1000000007) (by omega) (by decide)) (by decide), fun v1 H3 s3 w1 => ?_⟩
          have hx3 : H3 lx = some (.lst (xs.map V.int)) := s3 _ _ hx2
          walk_at "rd"
          refine ⟨_, _, rfl, by omega, Sz.mono (n := 31) (sz_of (b := 1000000007) (by omega) (by decide)) (by decide), fun v2 H4 s4 w2 => ?_⟩
          have h4 : H4 l = some (.lst ws) := s4 _ _ (s3 _ _ h2)
          walk_at "rd"
          refine ⟨.inl ⟨rfl, _, SqL.of h4⟩, ?_⟩
          walk_at "rd"
          intro pp hpp
          have h5 : (upd H4 pp (.tup [v1, v2])) l = some (.lst ws) := upd_keep hpp h4
          refine ⟨l, _, _, rfl, rfl, h5, small_line (by omega), ?_⟩
          have s5 : Same H2 (upd H4 pp (.tup [v1, v2])) := (s3.trans s4).trans (Same.new hpp)
          refine ⟨_, _, _, ws ++ [V.ref pp], ps ++ [(Rat.divInt (xs.getD (4 + (0 + (i : Int))).toNat 0 % 41 - 20 + (F0 * (m % (10 : Int) ^ (30 : Int).toNat)) * (xs.getD (16 + (0 + (i : Int))).toNat 0 % 7)) B, Rat.divInt (xs.getD (4 + (0 + (i : Int))).toNat 0 / 41 % 41 - 20 - (F0 * (m % (10 : Int) ^ (30 : Int).toNat)) * (xs.getD (16 + (0 + (i : Int))).toNat 0 / 7 % 3)) B)], rfl, fun b o e => ?_, upd_same, PtsV.snoc (hP.tup (s5.tup.trans (Tup.lst h5))) ?_, by rw [List.length_append]; show ps.length + 1 = i + 1; omega, fun p hp => ?_⟩
          · rw [upd_ne (ne_of_none e hl)]; exact s5 _ _ (s2 b o e)
          · have pv : PtV (upd H4 pp (.tup [v1, v2])) (.ref pp) _ _ := ⟨pp, v1, v2, rfl, upd_same, (w1.same s4).same (Same.new hpp), w2.same (Same.new hpp)⟩
            exact pv.tup (Tup.lst h5)
          · rcases List.mem_append.mp hp with hp | hp
            · exact hov p hp
            · rw [List.mem_singleton.mp hp]
              have r1 := Int.emod_nonneg (xs.getD (16 + (0 + (i : Int))).toNat 0) (b := 7) (by decide)
              have r2 := Int.emod_lt_of_pos (xs.getD (16 + (0 + (i : Int))).toNat 0) (b := 7) (by decide)
              have r3 := Int.emod_nonneg (xs.getD (16 + (0 + (i : Int))).toNat 0 / 7) (b := 3) (by decide)
              have r4 := Int.emod_lt_of_pos (xs.getD (16 + (0 + (i : Int))).toNat 0 / 7) (b := 3) (by decide)
              have zf : Sz 100 (F0 * (m % (10 : Int) ^ (30 : Int).toNat)) := sz_of (b := 1000000000000000000000000000000) fb (by decide)
              have z1 : Sz 4 (xs.getD (16 + (0 + (i : Int))).toNat 0 % 7) := sz_of (b := 7) (by omega) (by decide)
              have z2 : Sz 4 (xs.getD (16 + (0 + (i : Int))).toNat 0 / 7 % 3) := sz_of (b := 7) (by omega) (by decide)
              have z3 : Sz 7 (xs.getD (4 + (0 + (i : Int))).toNat 0 % 41 - 20) := sz_of (b := 61) (by omega) (by decide)
              have z4 : Sz 7 (xs.getD (4 + (0 + (i : Int))).toNat 0 / 41 % 41 - 20) := sz_of (b := 61) (by omega) (by decide)
              exact ⟨ov_divInt (by omega) ((z3.add (zf.mul z1)).mono (by decide)), ov_divInt (by omega) ((z4.sub (zf.mul z2)).mono (by decide))⟩
      · rintro σ H2 ⟨y1, y2, y3, ws, ps, rfl, s2, h2, hP, hpl, hov⟩
        exact ⟨_, rfl, k l ws ps B H2 (by walk_at "sm") (s1.free (L2.Same.free (Same.new hlm) (L2.Same.free (Same.new hlb) (L2.Same.free (Same.new hlf) hl)))) h2 hP (by omega) (by omega) (by omega) (sz_of (b := 1000000007) (by omega) (by decide)) hov⟩
theorem ok_l_curve_text {C_Path : Addr} (T_Path : ClsK K mg "Path" C_Path) (N_Path_parts : NoAttr K C_Path "parts") (F : FunAt K mg "_law_curve_text" s_l_curve_text ["_law_curve_here"]) (B : Blt mg) {C_SeatError C_NoJoin C_NoPlace C_NoText C_NoShare C_NoLower C_NoMap C_TooMany C_NoName : Addr} (X : Exc K mg C_SeatError C_NoJoin C_NoPlace C_NoText C_NoShare C_NoLower C_NoMap C_TooMany C_NoName) {t_MOST_CURVES t_MOST_SEATS t_FIGURES t_MOST_FIGURES : Tok} (G : Cst K mg t_MOST_CURVES t_MOST_SEATS t_FIGURES t_MOST_FIGURES) (D_l_share_text : DefOk P w K mg base CX0 1 "_law_share_text" ["_law_one"] spLTxS) : DefOk P w K mg base CX0 2 "_law_curve_text" ["_law_curve_here"] (spLTxC K) := by
  refine def_okI F sc_l_curve_text (fun vs H Q E h => ?_) (fun f cdv A outer s H vs Q E hr h => ?_)
  · obtain ⟨a, ws, ps, rfl, _⟩ := h; rfl
  · obtain ⟨a, ws, ps, rfl, ha, hP, hq, hn, k⟩ := h
    have hu := hr.units
    refine ⟨_, (pss_oneI (ps_retI (show PEi _ _ (tBM K _ _ _ _) from (pe_bmI PySem.F.plainAttrs_str PySem.F.slot_str_join PySem.F.type_str_join (mt_joinK K) pe_strI (pa_consI (pe_compSI (os := ["_law_x", "_law_y"]) (caps := []) ["_law_curve_here"] (defScope s_l_curve_text) (pi_listKI K (pvI 0)) (fun _ _ _ _ _ => (pg_tupKI (n := 2) K rfl (pgs_consI (pg_nameI (i := 0) (show List.Nodup (["_law_x", "_law_y"] : List Str) from by decide +kernel) rfl (by first | exact Or.inl rfl | exact Or.inr rfl)) (pgs_consI (pg_nameI (i := 1) (show List.Nodup (["_law_x", "_law_y"] : List Str) from by decide +kernel) rfl (by first | exact Or.inl rfl | exact Or.inr rfl)) pgs_nilI)))) (fun _ _ _ _ _ => (pe_opI op_add_str (pe_opI op_add_str (pe_fnI D_l_share_text hr pass0 (pa_consI (pvI 0) pa_nilI)) pe_strI) (pe_fnI D_l_share_text hr pass0 (pa_consI (pvI 1) pa_nilI)))) (by decide +kernel)) pa_nilI))))), ?_⟩
    have hwl := hP.len
    refine ⟨rfl, ?_⟩
    walk_at "rd"
    obtain ⟨fx, fy, hJ, hxy⟩ := plain_ptsV (SqL.of (K := K) ha) hP
    refine ⟨⟨_, SqL.of ha⟩, comp2 hJ (by omega) (fun i v H => ∀ p, ps[i]? = some p → v = .str (tPt p)) (fun _ _ _ _ tt h => h) (fun i H2 kk hi s2 hk => ?_) (fun D ys H2 hD s2 hd hl hr => ?_)⟩
    · have ep : ps[i]? = some (ps[i]'hi) := List.getElem?_eq_getElem _
      obtain ⟨gx, gy⟩ := hxy i _ ep
      have hp := hq _ (List.mem_of_getElem? ep)
      generalize ps[i]'hi = p at *
      have l1 := tSh_ln (k := 300) (by decide) hp.1
      have l2 := tSh_ln (k := 300) (by decide) hp.2
      walk_at "rd"
      refine ⟨fx i, p.1, rfl, gx.same s2, hp.1, ?_⟩
      walk_at "rd"
      refine ⟨Nat.le_of_lt (small_line (by show (tSh p.1).length + 1 ≤ 100000; omega)), ?_⟩
      walk_at "rd"
      refine ⟨fy i, p.2, rfl, gy.same s2, hp.2, ?_⟩
      refine ⟨_, _, rfl, rfl, Nat.le_of_lt (small_line (by rw [len_app]; show (tSh p.1).length + 1 + (tSh p.2).length ≤ 100000; omega)), ?_⟩
      refine hk _ _ (L2.Same.refl _) fun p' e => ?_
      rw [ep] at e; cases e
      rfl
    have ey : ys = (ps.map tPt).map V.str := strs_eq hl hr
    rw [ey] at hd
    walk_at "rd"
    refine ⟨_, D, ps.map tPt, rfl, rfl, SqL.of hd, join_ok (B := 1207) (fun t ht => by obtain ⟨p, hp, rfl⟩ := List.mem_map.mp ht; exact tPt_ln (by decide) (hq p hp)) ?_, ?_⟩
    · rw [List.length_map]
      have e : (" " : Str).length = 1 := rfl
      rw [e]; omega
    rw [txt_join]
    exact k H2 s2
theorem ok_l_plus {C_Path : Addr} (T_Path : ClsK K mg "Path" C_Path) (N_Path_parts : NoAttr K C_Path "parts") (F : FunAt K mg "_law_plus" s_l_plus ["_law_one", "_law_other"]) (B : Blt mg) {C_SeatError C_NoJoin C_NoPlace C_NoText C_NoShare C_NoLower C_NoMap C_TooMany C_NoName : Addr} (X : Exc K mg C_SeatError C_NoJoin C_NoPlace C_NoText C_NoShare C_NoLower C_NoMap C_TooMany C_NoName) {t_MOST_CURVES t_MOST_SEATS t_FIGURES t_MOST_FIGURES : Tok} (G : Cst K mg t_MOST_CURVES t_MOST_SEATS t_FIGURES t_MOST_FIGURES) (D_l_low : DefOk P w K mg base CX0 1 "_law_low" ["_law_top", "_law_bottom"] spLShare) : DefOk P w K mg base CX0 2 "_law_plus" ["_law_one", "_law_other"] spPlus := by
  refine def_okI F sc_l_plus (fun vs H Q E h => ?_) (fun f cdv A outer s H vs Q E hr h => ?_)
  · obtain ⟨x, y, p, q, rfl, _⟩ := h; rfl
  · obtain ⟨_, _, p, q, rfl, ⟨a, rfl, ha⟩, ⟨b, rfl, hb⟩, hp, hq, _, k⟩ := h
    have hu := hr.units
    refine ⟨_, (pss_oneI (ps_retI (pe_fnI D_l_low hr pass0 (pa_consI (pe_opI op_add (pe_opI op_mulA (pe_ixI (ix_tupK K) (pvI 0) pe_intI (fun _ _ => rfl)) (pe_ixI (ix_tupK K) (pvI 1) pe_intI (fun _ _ => rfl))) (pe_opI op_mulA (pe_ixI (ix_tupK K) (pvI 1) pe_intI (fun _ _ => rfl)) (pe_ixI (ix_tupK K) (pvI 0) pe_intI (fun _ _ => rfl)))) (pa_consI (pe_opI op_mulA (pe_ixI (ix_tupK K) (pvI 0) pe_intI (fun _ _ => rfl)) (pe_ixI (ix_tupK K) (pvI 1) pe_intI (fun _ _ => rfl))) pa_nilI))))), ?_⟩
    walk_at "rd"
    refine ⟨_, _, rfl, den_mul_pos p q, by walk_at "szm", fun v H' hs hv => k v H' hs ?_⟩
    show ShV H' v (p + q)
    rw [← add_eq]; exact hv
theorem ok_law {C_Path : Addr} (T_Path : ClsK K mg "Path" C_Path) (N_Path_parts : NoAttr K C_Path "parts") (F : FunAt K mg "law" s_law ["_law_script"]) (B : Blt mg) {C_SeatError C_NoJoin C_NoPlace C_NoText C_NoShare C_NoLower C_NoMap C_TooMany C_NoName : Addr} (X : Exc K mg C_SeatError C_NoJoin C_NoPlace C_NoText C_NoShare C_NoLower C_NoMap C_TooMany C_NoName) {t_MOST_CURVES t_MOST_SEATS t_FIGURES t_MOST_FIGURES : Tok} (G : Cst K mg t_MOST_CURVES t_MOST_SEATS t_FIGURES t_MOST_FIGURES) (D_Path_curves : MthOk P w K mg base CX0 2 C_Path "curves" ["self"] (spCurves K C_Path)) (D_l_cell_at : DefOk P w K mg base CX0 1 "_law_cell_at" ["_law_script", "_law_k"] (spCell K)) (D_read_curve : DefOk P w K mg base (CXx P w) 5 "read_curve" ["text"] (spRdC K C_NoText)) (D_read_path : DefOk P w K mg base (CXx P w) 6 "read_path" ["text"] (spRdA K C_Path C_NoText C_NoJoin)) (D_l_refused : DefOk P w K mg base CX0 8 "_law_refused" ["_law_way", "_law_text", "_law_joined"] (spRefX K)) (D_l_share_text : DefOk P w K mg base CX0 1 "_law_share_text" ["_law_one"] spLTxS) (D_l_all_refused : DefOk P w K mg base CX0 9 "_law_all_refused" ["_law_script", "_law_curve_here"] (spAllR K)) (D_l_curve : DefOk P w K mg base CX0 2 "_law_curve" ["_law_cell", "_law_more"] spLCurve) (D_l_curve_text : DefOk P w K mg base CX0 2 "_law_curve_text" ["_law_curve_here"] (spLTxC K)) (D_l_plus : DefOk P w K mg base CX0 2 "_law_plus" ["_law_one", "_law_other"] spPlus) : DefOk P w K mg base CX0 10 "law" ["_law_script"] (spLaw K) := by
  refine def_okI F sc_law (fun vs H Q E h => ?_) (fun f cdv A outer s H vs Q E hr h => ?_)
  · obtain ⟨a, ns, rfl, _⟩ := h; rfl
  · obtain ⟨a, ns, rfl, hS, hlen, k⟩ := h
    have hu := hr.units
    refine cutI (List.drop 12 (defBody s_law)) (pss_oneI (ps_retI (pe_andI (pe_cmpRI (op_eqDK K hu) (pe_fnI D_read_curve hr passE0 (pa_consI (pvI 2) pa_nilI)) (pvI 1) (nomark _)) (pe_oneI (pe_cmpRI (op_eqDK K hu) (pe_mth0I T_Path D_Path_curves (pe_fnI D_read_path hr passE0 (pa_consI (pvI 2) pa_nilI)) hr pass0) (pe_lstI (pa_consI (pvI 1) pa_nilI)) (nomark _)))))) (fun R4 hc4 e4 => ?_)
    refine cutI (List.drop 8 (defBody s_law)) (pss_consI (ps_setI (i := 8) sc_law.nd rfl (by first | exact Or.inl rfl | exact Or.inr rfl) (pe_opI op_add_str (pe_opI op_add_str (pe_fnI D_l_share_text hr pass0 (pa_consI (pe_fnI D_l_plus hr pass0 (pa_consI (pvI 6) (pa_consI (pe_tupI (pa_consI pe_intI (pa_consI (pe_opI op_add pe_intI (pe_opI op_mod (pe_fnI D_l_cell_at hr pass0 (pa_consI (pvI 0) (pa_consI pe_intI pa_nilI))) pe_intI)) pa_nilI))) pa_nilI))) pa_nilI)) pe_strI) (pe_fnI D_l_share_text hr pass0 (pa_consI (pvI 7) pa_nilI))))
      (pss_consI (ps_ifI (pt_notI (pt_valI (pe_fnI D_l_refused hr pass0 (pa_consI pe_intI (pa_consI (pe_opI op_add_str (pe_opI op_add_str (pvI 2) pe_strI) (pvI 8)) (pa_consI pe_blI pa_nilI)))))) (pss_oneI (ps_retI pe_blI)) pss_nilI)
      (pss_consI (ps_forI PassesOwn.never rfl (pi_listKI K (pe_lstI (pa_consI (pe_opI op_add_str (pe_opI op_add_str (pe_opI op_add_str (pe_opI op_add_str (pe_opI op_add_str (pvI 2) pe_strI) (pvI 8)) pe_strI) (pvI 2)) pe_strI) (pa_consI (show PEi _ _ (tBM K _ _ _ _) from (pe_bmI PySem.F.plainAttrs_str PySem.F.slot_str_join PySem.F.type_str_join (mt_joinK K) pe_strI (pa_consI (pe_opI op_cat (pe_opI op_rep (pe_lstI (pa_consI (pvI 5) (pa_consI (pvI 8) pa_nilI))) pe_intI) (pe_lstI (pa_consI (pvI 5) pa_nilI))) pa_nilI))) (pa_consI (pe_opI op_add_str (pvI 2) pe_strI) pa_nilI))))) (pg_nameI (i := 9) sc_law.nd rfl (by first | exact Or.inl rfl | exact Or.inr rfl))
      (pss_oneI (ps_ifI (pt_notI (pt_valI (pe_fnI D_l_refused hr pass0 (pa_consI pe_intI (pa_consI (pvI 9) (pa_consI pe_blI pa_nilI)))))) (pss_oneI (ps_retI pe_blI)) pss_nilI)))
      (pss_consI (ps_ifI (pt_notI (pt_valI (pe_fnI D_l_refused hr pass0 (pa_consI pe_intI (pa_consI (pe_opI op_add_str (pvI 2) pe_strI) (pa_consI pe_blI pa_nilI)))))) (pss_oneI (ps_retI pe_blI)) pss_nilI)
      hc4)))) (fun R3 hc3 e3 => ?_)
    refine cutI (List.drop 6 (defBody s_law)) (pss_consI (ps_ifI (PW_ptI (pw_orI (pt_notI (pt_valI (pe_fnI D_l_refused hr pass0 (pa_consI pe_intI (pa_consI (show PEi _ _ (tBM K _ _ _ _) from (pe_bmI PySem.F.plainAttrs_str PySem.F.slot_str_join PySem.F.type_str_join (mt_joinK K) pe_strI (pa_consI (pe_opI op_rep (pe_lstI (pa_consI (pvI 5) pa_nilI)) pe_intI) pa_nilI))) (pa_consI pe_blI pa_nilI)))))) (pw_or1I (pt_notI (pt_valI (pe_fnI D_l_refused hr pass0 (pa_consI pe_intI (pa_consI (show PEi _ _ (tBM K _ _ _ _) from (pe_bmI PySem.F.plainAttrs_str PySem.F.slot_str_join PySem.F.type_str_join (mt_joinK K) pe_strI (pa_consI (pe_opI op_rep (pe_lstI (pa_consI (pvI 5) pa_nilI)) pe_intI) pa_nilI))) (pa_consI pe_blI pa_nilI))))))))) (pss_oneI (ps_retI pe_blI)) pss_nilI)
      (pss_consI (ps_asgI (pe_ixI (ix_listK K) (pvI 1) (pe_unI un_neg pe_intI) (fun _ _ => rfl)) (pg_tupKI (n := 2) K rfl (pgs_consI (pg_nameI (i := 6) sc_law.nd rfl (by first | exact Or.inl rfl | exact Or.inr rfl)) (pgs_consI (pg_nameI (i := 7) sc_law.nd rfl (by first | exact Or.inl rfl | exact Or.inr rfl)) pgs_nilI))))
      hc3)) (fun R2 hc2 e2 => ?_)
    refine cutI (List.drop 4 (defBody s_law)) (pss_consI (ps_forI PassesOwn.never rfl (pi_range1I rfl B.range (pa_consI pe_intI pa_nilI)) (pg_nameI (i := 4) sc_law.nd rfl (by first | exact Or.inl rfl | exact Or.inr rfl))
      (pss_oneI (ps_ifI (pt_notI (pt_valI (pe_fnI D_l_refused hr pass0 (pa_consI (pvI 4) (pa_consI (pvI 3) (pa_consI pe_blI pa_nilI)))))) (pss_oneI (ps_retI pe_blI)) pss_nilI)))
      (pss_consI (ps_setI (i := 5) sc_law.nd rfl (by first | exact Or.inl rfl | exact Or.inr rfl) (pe_opI op_add_str (pe_opI op_add_str (pe_fnI D_l_share_text hr pass0 (pa_consI (pe_ixI (ix_tupK K) (pe_ixI (ix_listK K) (pvI 1) pe_intI (fun _ _ => rfl)) pe_intI (fun _ _ => rfl)) pa_nilI)) pe_strI) (pe_fnI D_l_share_text hr pass0 (pa_consI (pe_ixI (ix_tupK K) (pe_ixI (ix_listK K) (pvI 1) pe_intI (fun _ _ => rfl)) pe_intI (fun _ _ => rfl)) pa_nilI))))
      hc2)) (fun R1 hc1 e1 => ?_)
    refine ⟨_, (pss_consI (ps_setI (i := 1) sc_law.nd rfl (by first | exact Or.inl rfl | exact Or.inr rfl) (pe_fnI D_l_curve hr pass0 (pa_consI (pe_fnI D_l_cell_at hr pass0 (pa_consI (pvI 0) (pa_consI pe_intI pa_nilI))) (pa_consI (pe_fnI D_l_cell_at hr pass0 (pa_consI (pvI 0) (pa_consI pe_intI pa_nilI))) pa_nilI))))
      (pss_consI (ps_setI (i := 2) sc_law.nd rfl (by first | exact Or.inl rfl | exact Or.inr rfl) (pe_fnI D_l_curve_text hr pass0 (pa_consI (pvI 1) pa_nilI)))
      (pss_consI (ps_ifI (PW_ptI (pw_orI (pt_cmpRI (op_neDK K hu) (pe_fnI D_read_curve hr passE0 (pa_consI (pvI 2) pa_nilI)) (pvI 1) (nomark _)) (pw_or1I (pt_notI (pt_valI (pe_fnI D_l_all_refused hr pass0 (pa_consI (pvI 0) (pa_consI (pvI 1) pa_nilI)))))))) (pss_oneI (ps_retI pe_blI)) pss_nilI)
      (pss_consI (ps_setI (i := 3) sc_law.nd rfl (by first | exact Or.inl rfl | exact Or.inr rfl) (pe_ixI (ix_listK K) (pe_lstI (pa_consI pe_nonI (pa_consI pe_intI (pa_consI (pe_tupI (pa_consI pe_intI (pa_consI pe_intI pa_nilI))) (pa_consI (pe_lstI (pa_consI (pvI 2) pa_nilI)) (pa_consI pe_blI pa_nilI)))))) (pe_opI op_mod (pe_fnI D_l_cell_at hr pass0 (pa_consI (pvI 0) (pa_consI pe_intI pa_nilI))) pe_intI) (fun _ _ => rfl)))
      hc1)))), ?_⟩
    walk_at "rd"
    refine ⟨a, ns, 0, rfl, hS, by decide, fun z0 => ?_⟩
    walk_at "rd"
    refine ⟨a, ns, 1, rfl, hS, by decide, fun z1 => ?_⟩
    walk_at "rd"
    refine ⟨_, _, rfl, fun l ws ps Bo H1 s1 hl0 hl hP p1 p12 hB zB ho => ?_⟩
    have hS1 : SqL K H1 a (ns.map V.int) := SqL.same' hS s1
    have bd1 : ∀ p ∈ ps, Bd 110 p.1 ∧ Bd 110 p.2 := fun p hp => ovp_bd4 hB zB (ho p hp) 110 (by decide) (by decide)
    have fg1 : ∀ p ∈ ps, FgP 100 p := fun p hp => ⟨fg_bd ((bd1 p hp).1.mono (by decide)), fg_bd ((bd1 p hp).2.mono (by decide))⟩
    have hwl := hP.len
    clear s1 hl0
    walk_at "rd"
    refine ⟨l, ws, ps, rfl, hl, hP, fun p hp => fgP_mono (fg1 p hp) (by decide), by omega, fun H2 s2 => ?_⟩
    replace hl := s2 _ _ hl
    replace hP := hP.same s2
    replace hS1 : SqL K H2 a (ns.map V.int) := SqL.same' hS1 s2
    clear s2
    walk_at "rd"
    refine .inl ⟨ps, rfl, p1, p12, fg1, fun l3 us3 H3 s3 hl30 hl3 hP3 => ?_⟩
    replace hl := s3 _ _ hl
    replace hP := hP.same s3
    replace hS1 : SqL K H3 a (ns.map V.int) := SqL.same' hS1 s3
    clear s3 hl30
    walk_at "rd"
    refine ⟨_, _, hP3.dn (SqL.of hl3), hP.dn (SqL.of hl), datPts_ok ps 5, datPts_ok ps 5, fun b0 hb0 => ?_⟩
    obtain rfl := hb0.mpr rfl
    walk_at "rd"
    refine ⟨a, l, ns, ws, ps, rfl, hS1, hl, hP, p1, p12, fg1, fun H4 s4 => ?_⟩
    replace hl := s4 _ _ hl
    replace hP := hP.same s4
    replace hS1 : SqL K H4 a (ns.map V.int) := SqL.same' hS1 s4
    clear s4 hl3 hP3
    walk_at "rd"
    intro g1 hg1
    have v1 := Same.new (o := .tup [.int 1, .int 2]) hg1
    have k1 := upd_same (H := H4) (a := g1) (o := .tup [.int 1, .int 2])
    walk_at "rd"
    intro g2 hg2
    have v2 := Same.new (o := .lst [.str (tCv ps)]) hg2
    have k2 := upd_same (H := upd H4 g1 (.tup [.int 1, .int 2])) (a := g2) (o := .lst [.str (tCv ps)])
    replace k1 := v2 _ _ k1
    have v12 := v1.trans v2
    replace hl := v12 _ _ hl
    replace hP := hP.same v12
    replace hS1 := SqL.same' hS1 v12
    generalize upd (upd H4 g1 (.tup [.int 1, .int 2])) g2 (.lst [.str (tCv ps)]) = H5 at *
    clear v1 v2 v12 hg1 hg2
    walk_at "rd"
    intro g3 hg3
    have v3 := Same.new (o := .lst [.non, .int 7, .ref g1, .ref g2, .bl true]) hg3
    have k3 := upd_same (H := H5) (a := g3) (o := .lst [.non, .int 7, .ref g1, .ref g2, .bl true])
    replace k1 := v3 _ _ k1
    replace k2 := v3 _ _ k2
    replace hl := v3 _ _ hl
    replace hP := hP.same v3
    replace hS1 := SqL.same' hS1 v3
    generalize upd H5 g3 (.lst [.non, .int 7, .ref g1, .ref g2, .bl true]) = H6 at *
    walk_at "rd"
    refine ⟨a, ns, 4, rfl, hS1, by decide, fun z4 => ?_⟩
    obtain ⟨v, ev, nv⟩ : ∃ v : V, atI [V.non, .int 7, .ref g1, .ref g2, .bl true] (z4 % 5) = some v ∧ ∀ H', Same H6 H' → NoStr K H' v := by
      have c0 := Int.emod_nonneg z4 (b := 5) (by decide)
      have c1 := Int.emod_lt_of_pos z4 (b := 5) (by decide)
      generalize z4 % 5 = m at *
      have : m = 0 ∨ m = 1 ∨ m = 2 ∨ m = 3 ∨ m = 4 := by omega
      rcases this with rfl | rfl | rfl | rfl | rfl
      · exact ⟨_, rfl, fun H' s' => ⟨_, .non, rfl⟩⟩
      · exact ⟨_, rfl, fun H' s' => ⟨_, .int _, rfl⟩⟩
      · exact ⟨_, rfl, fun H' s' => ⟨_, .tup (s' _ _ k1), rfl⟩⟩
      · exact ⟨_, rfl, fun H' s' => ⟨_, .lst (s' _ _ k2), rfl⟩⟩
      · exact ⟨_, rfl, fun H' s' => ⟨_, .bl _, rfl⟩⟩
    walk_at "rd"
    clear k1 k2 k3 v3 hg3 ev
    subst e1
    walk_at "rd"
    refine for_range (fun i σ H' => ∃ (y4 : Option V), σ = [some (.ref a), some (.ref l), some (.str (tCv ps)), some v, y4, none, none, none, none, none] ∧ Same H6 H') ⟨none, rfl, L2.Same.refl _⟩ ?_ ?_
    · rintro i σ H7 hi ⟨y4, rfl, s7⟩
      have hi4 : i < 4 := hi
      walk_at "rd"
      refine ⟨_, _, _, rfl, .thing _ v (by omega) (by omega) (nv _ s7), fun H8 s8 => ?_⟩
      walk_at "rd"
      exact s7.trans s8
    rintro σ H7 ⟨y4, rfl, s7⟩
    replace hl := s7 _ _ hl
    replace hP := hP.same s7
    replace hS1 := SqL.same' hS1 s7
    clear s7 nv
    walk_at "rd"
    have ep0 : ps[0]? = some (ps[0]'(by omega)) := List.getElem?_eq_getElem _
    obtain ⟨v0, ev0, gv0⟩ := hP.at ep0
    generalize ps[0]'(by omega) = p0 at *
    obtain ⟨c0, x0, y0, rfl, hc0, gx0, gy0⟩ := gv0
    have f0 := fg1 p0 (List.mem_of_getElem? ep0)
    have lx := tSh_ln (k := 100) (by decide) f0.1
    have ly := tSh_ln (k := 100) (by decide) f0.2
    have lx3 : (tSh p0.1).length ≤ 300 := by omega
    have ly3 : (tSh p0.2).length ≤ 300 := by omega
    have lx4 : (tSh p0.1 ++ ",").length ≤ 300 := by rw [len_app]; show _ + 1 ≤ 300; omega
    refine ⟨l, _, _, _, rfl, rfl, SqL.of hl, atI_nat' (j := 0) rfl ev0, ?_⟩
    walk_at "rd"
    refine ⟨x0, p0.1, rfl, gx0, fg_mono f0.1 (by decide), ?_⟩
    walk_at "rd"
    refine ⟨cat_ln lx3 (by decide), ?_⟩
    walk_at "rd"
    refine ⟨l, _, _, _, rfl, rfl, SqL.of hl, atI_nat' (j := 0) rfl ev0, ?_⟩
    walk_at "rd"
    refine ⟨y0, p0.2, rfl, gy0, fg_mono f0.2 (by decide), ?_⟩
    refine ⟨_, _, rfl, rfl, cat_ln lx4 ly3, ?_⟩
    subst e2
    walk_at "rd"
    change ∀ (q : Addr), H7 q = none → _
    have np0 : ∀ c : Nat, c ≠ 44 → c ≠ 45 → c ≠ 47 → ¬ (48 ≤ c ∧ c ≤ 57) → c ∉ cp (tPt p0) := fun c a0 a1 a2 a3 => tPt_no a0 a1 a2 a3
    have lp0 : (tPt p0).length ≤ 1000 := Nat.le_trans (tPt_ln (k := 100) (by decide) f0) (by decide)
    have hrep : ∀ t ∈ List.replicate 13 (tPt p0), t = tPt p0 := fun t ht => List.eq_of_mem_replicate ht
    intro g1 hg1
    have v1 : Same H7 (upd H7 g1 (.lst [.str (tPt p0)])) := Same.new hg1
    have k1 := upd_same (H := H7) (a := g1) (o := .lst [.str (tPt p0)])
    refine ⟨g1, 13, _, rfl, rfl, k1, by decide, by decide, by show 1 * 13 ≤ sizeLine; decide, fun g2 hg2 => ?_⟩
    have hg2' : (upd H7 g1 (.lst [.str (tPt p0)])) g2 = none := hg2
    have v2 := Same.new (o := .lst ((List.replicate 13 (tPt p0)).map V.str)) hg2'
    have k2 := upd_same (H := upd H7 g1 (.lst [.str (tPt p0)])) (a := g2) (o := .lst ((List.replicate 13 (tPt p0)).map V.str))
    have v12 := v1.trans v2
    replace hl := v12 _ _ hl
    replace hP := hP.same v12
    replace hS1 := SqL.same' hS1 v12
    change tNil _ (upd (upd H7 g1 (.lst [.str (tPt p0)])) g2 (.lst ((List.replicate 13 (tPt p0)).map V.str))) _
    generalize upd (upd H7 g1 (.lst [.str (tPt p0)])) g2 (.lst ((List.replicate 13 (tPt p0)).map V.str)) = H8 at *
    walk_at "rd"
    have hj1 : JoinOk " " (List.replicate 13 (tPt p0)) = true := jl_ok (fun t ht => by rw [hrep t ht]; exact lp0) (by rw [List.length_replicate]; decide)
    refine ⟨_, g2, List.replicate 13 (tPt p0), rfl, rfl, SqL.of k2, hj1, ?_⟩
    rw [txt_join]
    have l13 : (Str.join " " (List.replicate 13 (tPt p0))).length ≤ 50000 := by
      have := join_ln (sep := " ") (ts := List.replicate 13 (tPt p0)) (B := 1000) fun t ht => by rw [hrep t ht]; exact lp0
      have e : (" " : Str).length = 1 := rfl
      rw [e, List.length_replicate] at this
      omega
    have b13 : BdC (Str.join " " (List.replicate 13 (tPt p0))) := .many (by
      rw [spl (c := 32) (ts := List.replicate 13 (tPt p0)) rfl kBl (by simp) (fun t ht => by rw [hrep t ht]; exact np0 32 (by decide) (by decide) (by decide) (by decide)) rfl, List.length_replicate]
      decide)
    walk_at "rd"
    refine ⟨_, _, _, rfl, .curve _ l13 b13, fun H9 s9 => ?_⟩
    replace hl := s9 _ _ hl
    replace hP := hP.same s9
    replace hS1 := SqL.same' hS1 s9
    clear k1 k2 v1 v2 v12 hg1 hg2 hg2' s9 hj1 l13 b13
    walk_at "rd"
    intro g1 hg1
    have v1 : Same H9 (upd H9 g1 (.lst [.str (tPt p0)])) := Same.new hg1
    have k1 := upd_same (H := H9) (a := g1) (o := .lst [.str (tPt p0)])
    refine ⟨g1, 13, _, rfl, rfl, k1, by decide, by decide, by show 1 * 13 ≤ sizeLine; decide, fun g2 hg2 => ?_⟩
    have hg2' : (upd H9 g1 (.lst [.str (tPt p0)])) g2 = none := hg2
    have v2 := Same.new (o := .lst ((List.replicate 13 (tPt p0)).map V.str)) hg2'
    have k2 := upd_same (H := upd H9 g1 (.lst [.str (tPt p0)])) (a := g2) (o := .lst ((List.replicate 13 (tPt p0)).map V.str))
    have v12 := v1.trans v2
    replace hl := v12 _ _ hl
    replace hP := hP.same v12
    replace hS1 := SqL.same' hS1 v12
    change tNil _ (upd (upd H9 g1 (.lst [.str (tPt p0)])) g2 (.lst ((List.replicate 13 (tPt p0)).map V.str))) _
    generalize upd (upd H9 g1 (.lst [.str (tPt p0)])) g2 (.lst ((List.replicate 13 (tPt p0)).map V.str)) = H10 at *
    have l13 : (Str.join " | " (List.replicate 13 (tPt p0))).length ≤ 50000 := by
      have := join_ln (sep := " | ") (ts := List.replicate 13 (tPt p0)) (B := 1000) fun t ht => by rw [hrep t ht]; exact lp0
      have e : (" | " : Str).length = 3 := rfl
      rw [e, List.length_replicate] at this
      omega
    have b13 : BdA (Str.join " | " (List.replicate 13 (tPt p0))) := .many (by
      rw [spl_pa (ts := List.replicate 13 (tPt p0)) (by simp) (fun t ht => by rw [hrep t ht]; exact np0 124 (by decide) (by decide) (by decide) (by decide)) rfl, List.length_replicate]
      decide)
    refine ⟨_, g2, List.replicate 13 (tPt p0), rfl, rfl, SqL.of k2, join_ok (B := 1000) (fun t ht => by rw [hrep t ht]; exact lp0) (by rw [List.length_replicate]; show 13 * 1000 + 13 * 3 ≤ _; decide), ?_⟩
    rw [txt_join]
    walk_at "rd"
    refine ⟨_, _, _, rfl, .path _ l13 b13, fun H11 s11 => ?_⟩
    replace hl := s11 _ _ hl
    replace hP := hP.same s11
    replace hS1 := SqL.same' hS1 s11
    clear k1 k2 v1 v2 v12 hg1 hg2 hg2' s11 l13 b13
    walk_at "rd"
    have hz := last_at p1
    obtain ⟨vz, evz, gz⟩ := hP.at hz
    obtain ⟨bz, zx, zy, rfl, hbz, gzx, gzy⟩ := id gz
    generalize ps[ps.length - 1]'(by omega) = pz at *
    have fz := fg1 pz (List.mem_of_getElem? hz)
    have bz1 := bd1 pz (List.mem_of_getElem? hz)
    refine ⟨l, _, _, _, rfl, rfl, SqL.of hl, atI_last' ws (.ref bz) (by rw [hwl]; exact evz) (by omega), ?_⟩
    refine ⟨bz, _, rfl, SqT.of hbz, rfl, _, _, rfl, _, _, rfl, rfl, ?_⟩
    subst e3
    walk_at "rd"
    refine ⟨a, ns, 5, rfl, hS1, by decide, fun z5 => ?_⟩
    have c0 := Int.emod_nonneg z5 (b := 9) (by decide)
    have c1 := Int.emod_lt_of_pos z5 (b := 9) (by decide)
    obtain ⟨q, q1, q2, q0⟩ := one_over (1 + z5 % 9) (by omega) (by omega)
    have bq : Bd 4 q := ⟨by rw [q1]; exact Sz.one.mono (by decide), by rw [q2]; exact ⟨by omega⟩⟩
    walk_at "rd"
    intro g1 hg1
    have v1 := Same.new (o := .tup [.int 1, .int (1 + z5 % 9)]) hg1
    have k1 := upd_same (H := H11) (a := g1) (o := .tup [.int 1, .int (1 + z5 % 9)])
    replace hl := v1 _ _ hl
    replace hP := hP.same v1
    replace hS1 := SqL.same' hS1 v1
    replace gzx := gzx.same v1
    replace gzy := gzy.same v1
    generalize upd H11 g1 (.tup [.int 1, .int (1 + z5 % 9)]) = H12 at *
    walk_at "rd"
    refine ⟨zx, .ref g1, pz.1, q, rfl, gzx, ⟨g1, rfl, by rw [q1, q2]; exact k1⟩, bz1.1.mono (by decide), bq.mono (by decide), trivial, fun vs H13 s13 gs => ?_⟩
    have fo : FgP 100 (pz.1 + q, pz.2) := ⟨fg_bd ((bz1.1.add bq).mono (by decide)), fz.2⟩
    replace hl := s13 _ _ hl
    replace hP := hP.same s13
    replace hS1 := SqL.same' hS1 s13
    replace gzy := gzy.same s13
    clear k1 v1 hg1 s13 gzx hbz gz
    walk_at "rd"
    have mx : (tSh (pz.1 + q)).length ≤ 203 := tSh_ln (k := 100) (by decide) fo.1
    have my : (tSh pz.2).length ≤ 203 := tSh_ln (k := 100) (by decide) fo.2
    have mx3 : (tSh (pz.1 + q)).length ≤ 300 := by omega
    have my3 : (tSh pz.2).length ≤ 300 := by omega
    have mx4 : (tSh (pz.1 + q) ++ ",").length ≤ 300 := by rw [len_app]; show _ + 1 ≤ 300; omega
    refine ⟨vs, pz.1 + q, rfl, gs, fg_mono fo.1 (by decide), ?_⟩
    walk_at "rd"
    refine ⟨cat_ln mx3 (by decide), ?_⟩
    walk_at "rd"
    refine ⟨zy, pz.2, rfl, gzy, fg_mono fo.2 (by decide), ?_⟩
    refine ⟨_, _, rfl, rfl, cat_ln mx4 my3, ?_⟩
    have lo1 : (tPt (pz.1 + q, pz.2)).length ≤ 1000 := Nat.le_trans (tPt_ln (k := 100) (by decide) fo) (by decide)
    have hnj := twoQ_apart hz q0
    change gName 8 (V.str (tPt (pz.1 + q, pz.2))) _ _ _
    generalize (pz.1 + q, pz.2) = o at *
    have lg : (tCv ps).length ≤ 4896 := Nat.le_trans (tCv_ln (k := 100) (by decide) fg1) (by show _ * 408 ≤ 12 * 408; exact Nat.mul_le_mul_right _ p12)
    have lg1 : (tCv ps ++ " | ").length ≤ 4899 := by rw [len_app]; show _ + 3 ≤ 4899; omega
    clear gs gzy fz bz1 mx my mx3 my3 mx4 evz c0 c1 q1 q2 q0 bq hz
    walk_at "rd"
    refine ⟨cat_lnG (n := 3) lg (by decide), ?_⟩
    walk_at "rd"
    refine ⟨cat_lnG lg1 lo1, ?_⟩
    rw [← tPa_twoQ] at *
    walk_at "rd"
    refine ⟨_, _, _, rfl, .join 2 _ (by decide) (by decide) (twoQ_ok p1 p12 fg1 fo) hnj, fun H14 s14 => ?_⟩
    replace hl := s14 _ _ hl
    replace hP := hP.same s14
    replace hS1 := SqL.same' hS1 s14
    clear s14 hnj
    walk_at "rd"
    refine ⟨cat_lnG (n := 3) lg (by decide), ?_⟩
    walk_at "rd"
    refine ⟨cat_lnG lg1 lo1, ?_⟩
    walk_at "rd"
    have lg2 : (tCv ps ++ " | " ++ tPt o).length ≤ 5899 := by rw [len_app]; omega
    have lg3 : (tCv ps ++ " | " ++ tPt o ++ " | ").length ≤ 5902 := by rw [len_app]; show _ + 3 ≤ 5902; omega
    have lg4 : (tCv ps ++ " | " ++ tPt o ++ " | " ++ tCv ps).length ≤ 10798 := by rw [len_app]; omega
    have lg5 : (tCv ps ++ " | " ++ tPt o ++ " | " ++ tCv ps ++ ",").length ≤ 50000 := by rw [len_app]; show _ + 1 ≤ 50000; omega
    have lg7 : (tCv ps ++ "\n").length ≤ 50000 := by rw [len_app]; show _ + 1 ≤ 50000; omega
    refine ⟨cat_lnG (n := 3) lg2 (by decide), ?_⟩
    clear lg2
    walk_at "rd"
    refine ⟨cat_lnG lg3 lg, ?_⟩
    clear lg3
    walk_at "rd"
    refine ⟨cat_lnG (n := 1) lg4 (by decide), ?_⟩
    clear lg4
    walk_at "rd"
    intro g1 hg1
    have v1 : Same H14 (upd H14 g1 (.lst [.str (tPt p0), .str (tPt o)])) := Same.new hg1
    have k1 := upd_same (H := H14) (a := g1) (o := .lst [.str (tPt p0), .str (tPt o)])
    refine ⟨g1, 6, _, rfl, rfl, k1, by decide, by decide, by show 2 * 6 ≤ sizeLine; decide, fun g2 hg2 => ?_⟩
    have hg2' : (upd H14 g1 (.lst [.str (tPt p0), .str (tPt o)])) g2 = none := hg2
    have v2 := Same.new (o := .lst ((List.replicate 6 [V.str (tPt p0), .str (tPt o)]).flatten)) hg2'
    have k2 := upd_same (H := upd H14 g1 (.lst [.str (tPt p0), .str (tPt o)])) (a := g2) (o := .lst ((List.replicate 6 [V.str (tPt p0), .str (tPt o)]).flatten))
    have v12 := v1.trans v2
    replace hl := v12 _ _ hl
    replace hP := hP.same v12
    replace hS1 := SqL.same' hS1 v12
    change tLst _ _ (upd (upd H14 g1 (.lst [.str (tPt p0), .str (tPt o)])) g2 (.lst ((List.replicate 6 [V.str (tPt p0), .str (tPt o)]).flatten))) _
    generalize upd (upd H14 g1 (.lst [.str (tPt p0), .str (tPt o)])) g2 (.lst ((List.replicate 6 [V.str (tPt p0), .str (tPt o)]).flatten)) = H15 at *
    clear v1 v2 v12 k1 hg1 hg2 hg2'
    walk_at "rd"
    intro g3 hg3
    have v3 : Same H15 (upd H15 g3 (.lst [.str (tPt p0)])) := Same.new hg3
    have k3 := upd_same (H := H15) (a := g3) (o := .lst [.str (tPt p0)])
    replace k2 := v3 _ _ k2
    refine ⟨g2, g3, _, _, rfl, rfl, k2, k3, by show 12 + 1 ≤ sizeLine; decide, fun g4 hg4 => ?_⟩
    have hg4' : (upd H15 g3 (.lst [.str (tPt p0)])) g4 = none := hg4
    have v4 := Same.new (o := .lst ((manyL (tPt p0) (tPt o)).map V.str)) hg4'
    have k4 := upd_same (H := upd H15 g3 (.lst [.str (tPt p0)])) (a := g4) (o := .lst ((manyL (tPt p0) (tPt o)).map V.str))
    have v34 := v3.trans v4
    replace hl := v34 _ _ hl
    replace hP := hP.same v34
    replace hS1 := SqL.same' hS1 v34
    change tNil _ (upd (upd H15 g3 (.lst [.str (tPt p0)])) g4 (.lst ((manyL (tPt p0) (tPt o)).map V.str))) _
    generalize upd (upd H15 g3 (.lst [.str (tPt p0)])) g4 (.lst ((manyL (tPt p0) (tPt o)).map V.str)) = H16 at *
    clear v3 v4 v34 k2 k3 hg3 hg4 hg4'
    refine ⟨_, g4, manyL (tPt p0) (tPt o), rfl, rfl, SqL.of k4, manyL_ok lp0 lo1, ?_⟩
    rw [txt_join]
    clear k4
    walk_at "rd"
    refine ⟨cat_lnG (n := 1) lg (by decide), ?_⟩
    have lm := manyL_ln lp0 lo1
    have b1 := bdA_three p1 p12 fg1 fo (by rw [len_app]; show _ + 1 ≤ 50000; omega)
    have b2 := bdA_manyL (p := p0) (o := o)
    have b3 := bdA_line p1 fg1 lg7
    refine ⟨by show 3 ≤ sizeLine; decide, fun g5 hg5 => ?_⟩
    obtain ⟨ts, ets, hts⟩ : ∃ ts : List Str, [V.str (tCv ps ++ " | " ++ tPt o ++ " | " ++ tCv ps ++ ","), V.str (Str.join " | " (manyL (tPt p0) (tPt o))), V.str (tCv ps ++ "\n")] = ts.map V.str ∧ ∀ t ∈ ts, t.length ≤ 50000 ∧ BdA t := by
      refine ⟨[_, _, _], rfl, fun t ht => ?_⟩
      simp only [List.mem_cons, List.not_mem_nil, or_false] at ht
      rcases ht with rfl | rfl | rfl
      · exact ⟨lg5, b1⟩
      · exact ⟨lm, b2⟩
      · exact ⟨lg7, b3⟩
    clear lg5 b1 lm b2 b3
    have v5 := Same.new (o := .lst [V.str (tCv ps ++ " | " ++ tPt o ++ " | " ++ tCv ps ++ ","), V.str (Str.join " | " (manyL (tPt p0) (tPt o))), V.str (tCv ps ++ "\n")]) hg5
    have k5 := upd_same (H := H16) (a := g5) (o := .lst [V.str (tCv ps ++ " | " ++ tPt o ++ " | " ++ tCv ps ++ ","), V.str (Str.join " | " (manyL (tPt p0) (tPt o))), V.str (tCv ps ++ "\n")])
    replace hl := v5 _ _ hl
    replace hP := hP.same v5
    replace hS1 := SqL.same' hS1 v5
    generalize upd H16 g5 (.lst [V.str (tCv ps ++ " | " ++ tPt o ++ " | " ++ tCv ps ++ ","), V.str (Str.join " | " (manyL (tPt p0) (tPt o))), V.str (tCv ps ++ "\n")]) = H17 at *
    rw [ets] at k5
    clear ets v5 hg5
    walk_at "rd"
    refine ⟨⟨_, SqL.of k5⟩, for_listH (xs := ts.map V.str) (fun i σ H' => ∃ (y9 : Option V), σ = [some (.ref a), some (.ref l), some (.str (tCv ps)), some v, y4, some (.str (tPt p0)), some zx, some zy, some (.str (tPt o)), y9] ∧ Same H17 H') ⟨none, rfl, L2.Same.refl _⟩ (fun i σ H' _ h => by obtain ⟨_, _, s⟩ := h; exact SqL.of (s _ _ k5)) (fun D' N hN hD i x σ H' hx h => ?_) (fun σ H' h => ?_)⟩
    · obtain ⟨y9, rfl, s'⟩ := h
      rw [List.getElem?_map] at hx
      obtain ⟨t, et, rfl⟩ := Option.map_eq_some_iff.mp hx
      obtain ⟨tl, tb⟩ := hts t (List.mem_of_getElem? et)
      walk_at "rd"
      refine ⟨_, _, _, rfl, .path t tl tb, fun H8 s8 => ?_⟩
      walk_at "rd"
      exact hN _ _ _ ⟨_, rfl, s'.trans s8⟩
    obtain ⟨y9, rfl, s17⟩ := h
    replace hl := s17 _ _ hl
    replace hP := hP.same s17
    replace hS1 := SqL.same' hS1 s17
    clear s17 k5 hts
    walk_at "rd"
    refine ⟨cat_lnG (n := 1) lg (by decide), ?_⟩
    walk_at "rd"
    refine ⟨_, _, _, rfl, .curve _ lg7 (bdC_line p1 fg1), fun H18 s18 => ?_⟩
    replace hl := s18 _ _ hl
    replace hP := hP.same s18
    clear s18 hS1 lg7 lg1 lg lo1 fo
    walk_at "rd"
    subst e4
    walk_at "rd"
    refine .inl ⟨ps, rfl, p1, p12, fg1, fun l3 us3 H19 s19 hl30 hl3 hP3 => ?_⟩
    replace hl := s19 _ _ hl
    replace hP := hP.same s19
    clear s19 hl30
    walk_at "rd"
    refine ⟨_, _, hP3.dn (SqL.of hl3), hP.dn (SqL.of hl), datPts_ok ps 5, datPts_ok ps 5, fun b0 hb0 => ?_⟩
    obtain rfl := hb0.mpr rfl
    walk_at "rd"
    refine .inl ⟨1, fun _ => ps, rfl, by decide, by decide, fun _ _ => ⟨p1, p12, fg1⟩, .inl ⟨fun i hi => by omega, fun x lp ks H20 s20 PA => ?_⟩⟩
    replace hl := s20 _ _ hl
    replace hP := hP.same s20
    clear s20
    obtain ⟨⟨dx, hox⟩, _⟩ := id PA
    walk_at "rd"
    refine ⟨x, dx, _, rfl, hox, parts_no lp (by decide +kernel), ?_⟩
    refine ⟨x, lp, ks, 1, _, rfl, PA, by decide, fun m1 u1 H22 s22 _ hm1 hu1 hL1 => ?_⟩
    have U1 := hL1.pss hu1
    replace hl := s22 _ _ hl
    replace hP := hP.same s22
    walk_at "rd"
    intro g6 hg6
    have v6 := Same.new (o := .lst [.ref l]) hg6
    have k6 := upd_same (H := H22) (a := g6) (o := .lst [.ref l])
    replace hl := v6 _ _ hl
    replace hP := hP.same v6
    replace hm1 := v6 _ _ hm1
    replace U1 := U1.same v6
    refine ⟨datCs _, datCs _, dnCs hm1 U1, dnCs (n := 1) (qs := fun _ => ps) k6 ?_, datCs_ok _ 4, datCs_ok _ 4, fun b0 hb0 => ?_⟩
    · refine ⟨rfl, fun i vi hi => ?_⟩
      cases i with
      | zero => cases hi; exact ⟨l, ws, rfl, hl, hP⟩
      | succ i => simp at hi
    obtain rfl := hb0.mpr rfl
    exact k _
end
theorem all_mk {w : World} {K : PySem.W.Frag} {h : Heap} {mg : Str → Option Value} {fa : Addr} (KX : K.In h) (GN : h.Ns mainGlobals mg) (hfa : mg "law" = some (.ref fa))
    {f0 : Addr} {od0 an0 : Option Addr} {sl0 : Array (Option Value)} {oc0 kV0 dc0 pm0 cd0 ct0 : Value}
    {f1 : Addr} {od1 an1 : Option Addr} {sl1 : Array (Option Value)} {oc1 kV1 dc1 pm1 cd1 ct1 : Value}
    {f2 : Addr} {od2 an2 : Option Addr} {sl2 : Array (Option Value)} {oc2 kV2 dc2 pm2 cd2 ct2 : Value}
    {f3 : Addr} {od3 an3 : Option Addr} {sl3 : Array (Option Value)} {oc3 kV3 dc3 pm3 cd3 ct3 : Value}
    {f4 : Addr} {od4 an4 : Option Addr} {sl4 : Array (Option Value)} {oc4 kV4 dc4 pm4 cd4 ct4 : Value}
    {f5 : Addr} {od5 an5 : Option Addr} {sl5 : Array (Option Value)} {oc5 kV5 dc5 pm5 cd5 ct5 : Value}
    {f6 : Addr} {od6 an6 : Option Addr} {sl6 : Array (Option Value)} {oc6 kV6 dc6 pm6 cd6 ct6 : Value}
    {f7 : Addr} {od7 an7 : Option Addr} {sl7 : Array (Option Value)} {oc7 kV7 dc7 pm7 cd7 ct7 : Value}
    {f8 : Addr} {od8 an8 : Option Addr} {sl8 : Array (Option Value)} {oc8 kV8 dc8 pm8 cd8 ct8 : Value}
    {f9 : Addr} {od9 an9 : Option Addr} {sl9 : Array (Option Value)} {oc9 kV9 dc9 pm9 cd9 ct9 : Value}
    {f10 : Addr} {od10 an10 : Option Addr} {sl10 : Array (Option Value)} {oc10 kV10 dc10 pm10 cd10 ct10 : Value}
    {f11 : Addr} {od11 an11 : Option Addr} {sl11 : Array (Option Value)} {oc11 kV11 dc11 pm11 cd11 ct11 : Value}
    {f12 : Addr} {od12 an12 : Option Addr} {sl12 : Array (Option Value)} {oc12 kV12 dc12 pm12 cd12 ct12 : Value}
    {f13 : Addr} {od13 an13 : Option Addr} {sl13 : Array (Option Value)} {oc13 kV13 dc13 pm13 cd13 ct13 : Value}
    {f14 : Addr} {od14 an14 : Option Addr} {sl14 : Array (Option Value)} {oc14 kV14 dc14 pm14 cd14 ct14 : Value}
    {f15 : Addr} {od15 an15 : Option Addr} {sl15 : Array (Option Value)} {oc15 kV15 dc15 pm15 cd15 ct15 : Value}
    {f16 : Addr} {od16 an16 : Option Addr} {sl16 : Array (Option Value)} {oc16 kV16 dc16 pm16 cd16 ct16 : Value}
    {f17 : Addr} {od17 an17 : Option Addr} {sl17 : Array (Option Value)} {oc17 kV17 dc17 pm17 cd17 ct17 : Value}
    {f18 : Addr} {od18 an18 : Option Addr} {sl18 : Array (Option Value)} {oc18 kV18 dc18 pm18 cd18 ct18 : Value}
    {f19 : Addr} {od19 an19 : Option Addr} {sl19 : Array (Option Value)} {oc19 kV19 dc19 pm19 cd19 ct19 : Value}
    {f20 : Addr} {od20 an20 : Option Addr} {sl20 : Array (Option Value)} {oc20 kV20 dc20 pm20 cd20 ct20 : Value}
    {f21 : Addr} {od21 an21 : Option Addr} {sl21 : Array (Option Value)} {oc21 kV21 dc21 pm21 cd21 ct21 : Value}
    {f22 : Addr} {od22 an22 : Option Addr} {sl22 : Array (Option Value)} {oc22 kV22 dc22 pm22 cd22 ct22 : Value}
    {f23 : Addr} {od23 an23 : Option Addr} {sl23 : Array (Option Value)} {oc23 kV23 dc23 pm23 cd23 ct23 : Value}
    {C_Path : Addr} (aC_Path : PySem.W.nsIn K mainGlobals "Path" = some (some (.ref C_Path))) (pg_Path : PySem.W.plainGet K C_Path Str.empty = true) (hd_Path : PySem.W.hasDictIn K C_Path = true) (po_Path : PySem.W.plainOver K C_Path = true) (sa_Path : PySem.W.findIn K (.ref C_Path) "__setattr__" = some (some (.builtin "object.__setattr__"))) (mk_Path : PySem.W.makesIn K C_Path = true) (kc_Path : PySem.W.keepIn K (.ref C_Path) = true)
    (nA_Path_parts : PySem.W.findIn K (.ref C_Path) "parts" = some none)
    (a0 : PySem.W.nsIn K mainGlobals "copied" = some (some (.ref f0))) (l0 : K.lookup f0 = some ⟨oc0, od0, .func (PySem.W.fnOf "copied" "copied" (defArgs s_copied) (defBody s_copied) (defScope s_copied) .none kV0 dc0 pm0 an0 cd0 ct0), sl0⟩) (c0 : PySem.W.codeIn K cd0 "copied" = true) (k0 : PySem.W.keepIn K (.ref f0) = true)
    (a1 : PySem.W.findIn K (.ref C_Path) "curves" = some (some (.ref f1))) (i1 : PySem.W.isFn K (.ref f1) = true) (l1 : K.lookup f1 = some ⟨oc1, od1, .func (PySem.W.fnOf "curves" "Path.curves" (defArgs s_Path_curves) (defBody s_Path_curves) (defScope s_Path_curves) .none kV1 dc1 pm1 an1 cd1 ct1), sl1⟩) (c1 : PySem.W.codeIn K cd1 "Path.curves" = true) (k1 : PySem.W.keepIn K (.ref f1) = true)
    (a2 : PySem.W.nsIn K mainGlobals "_law_cell_at" = some (some (.ref f2))) (l2 : K.lookup f2 = some ⟨oc2, od2, .func (PySem.W.fnOf "_law_cell_at" "_law_cell_at" (defArgs s_l_cell_at) (defBody s_l_cell_at) (defScope s_l_cell_at) .none kV2 dc2 pm2 an2 cd2 ct2), sl2⟩) (c2 : PySem.W.codeIn K cd2 "_law_cell_at" = true) (k2 : PySem.W.keepIn K (.ref f2) = true)
    (a3 : PySem.W.nsIn K mainGlobals "_law_no_share" = some (some (.ref f3))) (l3 : K.lookup f3 = some ⟨oc3, od3, .func (PySem.W.fnOf "_law_no_share" "_law_no_share" (defArgs s_l_no_share) (defBody s_l_no_share) (defScope s_l_no_share) .none kV3 dc3 pm3 an3 cd3 ct3), sl3⟩) (c3 : PySem.W.codeIn K cd3 "_law_no_share" = true) (k3 : PySem.W.keepIn K (.ref f3) = true)
    (a4 : PySem.W.nsIn K mainGlobals "pieces" = some (some (.ref f4))) (l4 : K.lookup f4 = some ⟨oc4, od4, .func (PySem.W.fnOf "pieces" "pieces" (defArgs s_pieces) (defBody s_pieces) (defScope s_pieces) .none kV4 dc4 pm4 an4 cd4 ct4), sl4⟩) (c4 : PySem.W.codeIn K cd4 "pieces" = true) (k4 : PySem.W.keepIn K (.ref f4) = true)
    (a5 : PySem.W.nsIn K mainGlobals "read_figures" = some (some (.ref f5))) (l5 : K.lookup f5 = some ⟨oc5, od5, .func (PySem.W.fnOf "read_figures" "read_figures" (defArgs s_read_figures) (defBody s_read_figures) (defScope s_read_figures) .none kV5 dc5 pm5 an5 cd5 ct5), sl5⟩) (c5 : PySem.W.codeIn K cd5 "read_figures" = true) (k5 : PySem.W.keepIn K (.ref f5) = true)
    (a6 : PySem.W.nsIn K mainGlobals "read_whole" = some (some (.ref f6))) (l6 : K.lookup f6 = some ⟨oc6, od6, .func (PySem.W.fnOf "read_whole" "read_whole" (defArgs s_read_whole) (defBody s_read_whole) (defScope s_read_whole) .none kV6 dc6 pm6 an6 cd6 ct6), sl6⟩) (c6 : PySem.W.codeIn K cd6 "read_whole" = true) (k6 : PySem.W.keepIn K (.ref f6) = true)
    (a7 : PySem.W.nsIn K mainGlobals "greatest_common" = some (some (.ref f7))) (l7 : K.lookup f7 = some ⟨oc7, od7, .func (PySem.W.fnOf "greatest_common" "greatest_common" (defArgs s_greatest_common) (defBody s_greatest_common) (defScope s_greatest_common) .none kV7 dc7 pm7 an7 cd7 ct7), sl7⟩) (c7 : PySem.W.codeIn K cd7 "greatest_common" = true) (k7 : PySem.W.keepIn K (.ref f7) = true)
    (a8 : PySem.W.nsIn K mainGlobals "share" = some (some (.ref f8))) (l8 : K.lookup f8 = some ⟨oc8, od8, .func (PySem.W.fnOf "share" "share" (defArgs s_share) (defBody s_share) (defScope s_share) .none kV8 dc8 pm8 an8 cd8 ct8), sl8⟩) (c8 : PySem.W.codeIn K cd8 "share" = true) (k8 : PySem.W.keepIn K (.ref f8) = true)
    (a9 : PySem.W.nsIn K mainGlobals "read_share" = some (some (.ref f9))) (l9 : K.lookup f9 = some ⟨oc9, od9, .func (PySem.W.fnOf "read_share" "read_share" (defArgs s_read_share) (defBody s_read_share) (defScope s_read_share) .none kV9 dc9 pm9 an9 cd9 ct9), sl9⟩) (c9 : PySem.W.codeIn K cd9 "read_share" = true) (k9 : PySem.W.keepIn K (.ref f9) = true)
    (a10 : PySem.W.nsIn K mainGlobals "read_point" = some (some (.ref f10))) (l10 : K.lookup f10 = some ⟨oc10, od10, .func (PySem.W.fnOf "read_point" "read_point" (defArgs s_read_point) (defBody s_read_point) (defScope s_read_point) .none kV10 dc10 pm10 an10 cd10 ct10), sl10⟩) (c10 : PySem.W.codeIn K cd10 "read_point" = true) (k10 : PySem.W.keepIn K (.ref f10) = true)
    (a11 : PySem.W.nsIn K mainGlobals "read_curve" = some (some (.ref f11))) (l11 : K.lookup f11 = some ⟨oc11, od11, .func (PySem.W.fnOf "read_curve" "read_curve" (defArgs s_read_curve) (defBody s_read_curve) (defScope s_read_curve) .none kV11 dc11 pm11 an11 cd11 ct11), sl11⟩) (c11 : PySem.W.codeIn K cd11 "read_curve" = true) (k11 : PySem.W.keepIn K (.ref f11) = true)
    (a12 : PySem.W.findIn K (.ref C_Path) "__init__" = some (some (.ref f12))) (i12 : PySem.W.isFn K (.ref f12) = true) (l12 : K.lookup f12 = some ⟨oc12, od12, .func (PySem.W.fnOf "__init__" "Path.__init__" (defArgs s_Path___init__) (defBody s_Path___init__) (defScope s_Path___init__) .none kV12 dc12 pm12 an12 cd12 ct12), sl12⟩) (c12 : PySem.W.codeIn K cd12 "Path.__init__" = true) (k12 : PySem.W.keepIn K (.ref f12) = true)
    (a13 : PySem.W.nsIn K mainGlobals "read_path" = some (some (.ref f13))) (l13 : K.lookup f13 = some ⟨oc13, od13, .func (PySem.W.fnOf "read_path" "read_path" (defArgs s_read_path) (defBody s_read_path) (defScope s_read_path) .none kV13 dc13 pm13 an13 cd13 ct13), sl13⟩) (c13 : PySem.W.codeIn K cd13 "read_path" = true) (k13 : PySem.W.keepIn K (.ref f13) = true)
    (a14 : PySem.W.nsIn K mainGlobals "_law_asked_of" = some (some (.ref f14))) (l14 : K.lookup f14 = some ⟨oc14, od14, .func (PySem.W.fnOf "_law_asked_of" "_law_asked_of" (defArgs s_l_asked_of) (defBody s_l_asked_of) (defScope s_l_asked_of) .none kV14 dc14 pm14 an14 cd14 ct14), sl14⟩) (c14 : PySem.W.codeIn K cd14 "_law_asked_of" = true) (k14 : PySem.W.keepIn K (.ref f14) = true)
    (a15 : PySem.W.nsIn K mainGlobals "_law_refused" = some (some (.ref f15))) (l15 : K.lookup f15 = some ⟨oc15, od15, .func (PySem.W.fnOf "_law_refused" "_law_refused" (defArgs s_l_refused) (defBody s_l_refused) (defScope s_l_refused) .none kV15 dc15 pm15 an15 cd15 ct15), sl15⟩) (c15 : PySem.W.codeIn K cd15 "_law_refused" = true) (k15 : PySem.W.keepIn K (.ref f15) = true)
    (a16 : PySem.W.nsIn K mainGlobals "_law_share_text" = some (some (.ref f16))) (l16 : K.lookup f16 = some ⟨oc16, od16, .func (PySem.W.fnOf "_law_share_text" "_law_share_text" (defArgs s_l_share_text) (defBody s_l_share_text) (defScope s_l_share_text) .none kV16 dc16 pm16 an16 cd16 ct16), sl16⟩) (c16 : PySem.W.codeIn K cd16 "_law_share_text" = true) (k16 : PySem.W.keepIn K (.ref f16) = true)
    (a17 : PySem.W.nsIn K mainGlobals "_law_all_refused" = some (some (.ref f17))) (l17 : K.lookup f17 = some ⟨oc17, od17, .func (PySem.W.fnOf "_law_all_refused" "_law_all_refused" (defArgs s_l_all_refused) (defBody s_l_all_refused) (defScope s_l_all_refused) .none kV17 dc17 pm17 an17 cd17 ct17), sl17⟩) (c17 : PySem.W.codeIn K cd17 "_law_all_refused" = true) (k17 : PySem.W.keepIn K (.ref f17) = true)
    (a18 : PySem.W.nsIn K mainGlobals "_law_low" = some (some (.ref f18))) (l18 : K.lookup f18 = some ⟨oc18, od18, .func (PySem.W.fnOf "_law_low" "_law_low" (defArgs s_l_low) (defBody s_l_low) (defScope s_l_low) .none kV18 dc18 pm18 an18 cd18 ct18), sl18⟩) (c18 : PySem.W.codeIn K cd18 "_law_low" = true) (k18 : PySem.W.keepIn K (.ref f18) = true)
    (a19 : PySem.W.nsIn K mainGlobals "_law_stream" = some (some (.ref f19))) (l19 : K.lookup f19 = some ⟨oc19, od19, .func (PySem.W.fnOf "_law_stream" "_law_stream" (defArgs s_l_stream) (defBody s_l_stream) (defScope s_l_stream) .none kV19 dc19 pm19 an19 cd19 ct19), sl19⟩) (c19 : PySem.W.codeIn K cd19 "_law_stream" = true) (k19 : PySem.W.keepIn K (.ref f19) = true)
    (a20 : PySem.W.nsIn K mainGlobals "_law_curve" = some (some (.ref f20))) (l20 : K.lookup f20 = some ⟨oc20, od20, .func (PySem.W.fnOf "_law_curve" "_law_curve" (defArgs s_l_curve) (defBody s_l_curve) (defScope s_l_curve) .none kV20 dc20 pm20 an20 cd20 ct20), sl20⟩) (c20 : PySem.W.codeIn K cd20 "_law_curve" = true) (k20 : PySem.W.keepIn K (.ref f20) = true)
    (a21 : PySem.W.nsIn K mainGlobals "_law_curve_text" = some (some (.ref f21))) (l21 : K.lookup f21 = some ⟨oc21, od21, .func (PySem.W.fnOf "_law_curve_text" "_law_curve_text" (defArgs s_l_curve_text) (defBody s_l_curve_text) (defScope s_l_curve_text) .none kV21 dc21 pm21 an21 cd21 ct21), sl21⟩) (c21 : PySem.W.codeIn K cd21 "_law_curve_text" = true) (k21 : PySem.W.keepIn K (.ref f21) = true)
    (a22 : PySem.W.nsIn K mainGlobals "_law_plus" = some (some (.ref f22))) (l22 : K.lookup f22 = some ⟨oc22, od22, .func (PySem.W.fnOf "_law_plus" "_law_plus" (defArgs s_l_plus) (defBody s_l_plus) (defScope s_l_plus) .none kV22 dc22 pm22 an22 cd22 ct22), sl22⟩) (c22 : PySem.W.codeIn K cd22 "_law_plus" = true) (k22 : PySem.W.keepIn K (.ref f22) = true)
    (a23 : PySem.W.nsIn K mainGlobals "law" = some (some (.ref f23))) (l23 : K.lookup f23 = some ⟨oc23, od23, .func (PySem.W.fnOf "law" "law" (defArgs s_law) (defBody s_law) (defScope s_law) .none kV23 dc23 pm23 an23 cd23 ct23), sl23⟩) (c23 : PySem.W.codeIn K cd23 "law" = true) (k23 : PySem.W.keepIn K (.ref f23) = true)
    (z_len : PySem.W.nsIn K mainGlobals "len" = some none)
    (z_abs : PySem.W.nsIn K mainGlobals "abs" = some none)
    (z_range : PySem.W.nsIn K mainGlobals "range" = some none)
    (z_max : PySem.W.nsIn K mainGlobals "max" = some none)
    (z_min : PySem.W.nsIn K mainGlobals "min" = some none)
    (z_any : PySem.W.nsIn K mainGlobals "any" = some none)
    (z_all : PySem.W.nsIn K mainGlobals "all" = some none)
    (z_sum : PySem.W.nsIn K mainGlobals "sum" = some none)
    (z_isinstance : PySem.W.nsIn K mainGlobals "isinstance" = some none)
    (z_int : PySem.W.nsIn K mainGlobals "int" = some none)
    (z_bool : PySem.W.nsIn K mainGlobals "bool" = some none)
    (z_tuple : PySem.W.nsIn K mainGlobals "tuple" = some none)
    (z_list : PySem.W.nsIn K mainGlobals "list" = some none)
    (z_str : PySem.W.nsIn K mainGlobals "str" = some none)
    (z_ValueError : PySem.W.nsIn K mainGlobals "ValueError" = some none)
    (z_zip : PySem.W.nsIn K mainGlobals "zip" = some none)
    (z_reversed : PySem.W.nsIn K mainGlobals "reversed" = some none)
    (z_enumerate : PySem.W.nsIn K mainGlobals "enumerate" = some none)
    (z_sorted : PySem.W.nsIn K mainGlobals "sorted" = some none)
    (z_dict : PySem.W.nsIn K mainGlobals "dict" = some none)
    {C_SeatError C_NoJoin C_NoPlace C_NoText C_NoShare C_NoLower C_NoMap C_TooMany C_NoName : Addr}
    (a_SeatError : PySem.W.nsIn K mainGlobals "SeatError" = some (some (.ref C_SeatError)))
    (a_NoJoin : PySem.W.nsIn K mainGlobals "NoJoin" = some (some (.ref C_NoJoin)))
    (a_NoPlace : PySem.W.nsIn K mainGlobals "NoPlace" = some (some (.ref C_NoPlace)))
    (a_NoText : PySem.W.nsIn K mainGlobals "NoText" = some (some (.ref C_NoText)))
    (a_NoShare : PySem.W.nsIn K mainGlobals "NoShare" = some (some (.ref C_NoShare)))
    (a_NoLower : PySem.W.nsIn K mainGlobals "NoLower" = some (some (.ref C_NoLower)))
    (a_NoMap : PySem.W.nsIn K mainGlobals "NoMap" = some (some (.ref C_NoMap)))
    (a_TooMany : PySem.W.nsIn K mainGlobals "TooMany" = some (some (.ref C_TooMany)))
    (a_NoName : PySem.W.nsIn K mainGlobals "NoName" = some (some (.ref C_NoName)))
    {nm_NoJoin q_NoJoin : Str} {N_NoJoin : Addr} {bs_NoJoin bm_NoJoin : List Value} {hd_NoJoin : Bool} {sn_NoJoin : List Str} {sub_NoJoin : List Value} {ab_NoJoin : Bool} {col_NoJoin : Option Bool} {dd_NoJoin : Option Addr} {k0_NoJoin k1_NoJoin k2_NoJoin k3_NoJoin k5_NoJoin : Option Value}
    (l_NoJoin : K.lookup C_NoJoin = some (excClassObj nm_NoJoin q_NoJoin C_NoJoin N_NoJoin bs_NoJoin bm_NoJoin hd_NoJoin sn_NoJoin sub_NoJoin ab_NoJoin col_NoJoin dd_NoJoin k0_NoJoin k1_NoJoin k2_NoJoin k3_NoJoin k5_NoJoin "ValueError.__new__"))
    (n_NoJoin : PySem.W.nsOkIn K N_NoJoin = true) (i_NoJoin : PySem.W.nsIn K N_NoJoin "__init__" = some none) (t_NoJoin : PySem.W.tailIn K mroV bm_NoJoin = true)
    (m_NoJoin : PySem.W.exmOne K (.ref C_NoJoin) (.ref C_SeatError) = some true) (v_NoJoin : PySem.W.kitOne K (.ref C_NoJoin) (.type "ValueError") = some true)
    {nm_NoPlace q_NoPlace : Str} {N_NoPlace : Addr} {bs_NoPlace bm_NoPlace : List Value} {hd_NoPlace : Bool} {sn_NoPlace : List Str} {sub_NoPlace : List Value} {ab_NoPlace : Bool} {col_NoPlace : Option Bool} {dd_NoPlace : Option Addr} {k0_NoPlace k1_NoPlace k2_NoPlace k3_NoPlace k5_NoPlace : Option Value}
    (l_NoPlace : K.lookup C_NoPlace = some (excClassObj nm_NoPlace q_NoPlace C_NoPlace N_NoPlace bs_NoPlace bm_NoPlace hd_NoPlace sn_NoPlace sub_NoPlace ab_NoPlace col_NoPlace dd_NoPlace k0_NoPlace k1_NoPlace k2_NoPlace k3_NoPlace k5_NoPlace "ValueError.__new__"))
    (n_NoPlace : PySem.W.nsOkIn K N_NoPlace = true) (i_NoPlace : PySem.W.nsIn K N_NoPlace "__init__" = some none) (t_NoPlace : PySem.W.tailIn K mroV bm_NoPlace = true)
    (m_NoPlace : PySem.W.exmOne K (.ref C_NoPlace) (.ref C_SeatError) = some true) (v_NoPlace : PySem.W.kitOne K (.ref C_NoPlace) (.type "ValueError") = some true)
    {nm_NoText q_NoText : Str} {N_NoText : Addr} {bs_NoText bm_NoText : List Value} {hd_NoText : Bool} {sn_NoText : List Str} {sub_NoText : List Value} {ab_NoText : Bool} {col_NoText : Option Bool} {dd_NoText : Option Addr} {k0_NoText k1_NoText k2_NoText k3_NoText k5_NoText : Option Value}
    (l_NoText : K.lookup C_NoText = some (excClassObj nm_NoText q_NoText C_NoText N_NoText bs_NoText bm_NoText hd_NoText sn_NoText sub_NoText ab_NoText col_NoText dd_NoText k0_NoText k1_NoText k2_NoText k3_NoText k5_NoText "ValueError.__new__"))
    (n_NoText : PySem.W.nsOkIn K N_NoText = true) (i_NoText : PySem.W.nsIn K N_NoText "__init__" = some none) (t_NoText : PySem.W.tailIn K mroV bm_NoText = true)
    (m_NoText : PySem.W.exmOne K (.ref C_NoText) (.ref C_SeatError) = some true) (v_NoText : PySem.W.kitOne K (.ref C_NoText) (.type "ValueError") = some true)
    (m_SNoText : PySem.W.exmOne K (.ref C_NoText) (.ref C_NoText) = some true)
    (xhg_NoText : PySem.W.findIn K (.ref C_NoText) "__getattribute__" = some (some (.builtin "BaseException.__getattribute__")))
    (xhk_NoText : PySem.W.findIn K (.ref C_NoText) "__getattr__" = some none)
    (xhd_NoText : (PySem.W.clsIn K C_NoText).isSome = true)
    (xha_NoText : PySem.W.findIn K (.ref C_NoText) "__class__" = some (some (.builtin "object.__class__")))
    (xhn_NoText : PySem.W.specialIn K (.builtin "object.__class__") "__get__" = some (some (.builtin "getset_descriptor.__get__")))
    (xht_NoText : PySem.W.takesIn K (.builtin "object.__class__") = some true)
    (xhm_NoText : PySem.W.mroIn K C_NoText (.type "object") = some true)
    (xhb_NoText : PySem.W.mroIn K C_NoText (.type "BaseException") = some true)
    (v_NoText_NoJoin : PySem.W.kitOne K (.ref C_NoText) (.ref C_NoJoin) = some false)
    (v_NoText_NoPlace : PySem.W.kitOne K (.ref C_NoText) (.ref C_NoPlace) = some false)
    (v_NoText_NoShare : PySem.W.kitOne K (.ref C_NoText) (.ref C_NoShare) = some false)
    (v_NoText_NoLower : PySem.W.kitOne K (.ref C_NoText) (.ref C_NoLower) = some false)
    (v_NoText_NoMap : PySem.W.kitOne K (.ref C_NoText) (.ref C_NoMap) = some false)
    (v_NoText_TooMany : PySem.W.kitOne K (.ref C_NoText) (.ref C_TooMany) = some false)
    (v_NoText_NoName : PySem.W.kitOne K (.ref C_NoText) (.ref C_NoName) = some false)
    (m_SNoJoin : PySem.W.exmOne K (.ref C_NoJoin) (.ref C_NoJoin) = some true)
    (xhg_NoJoin : PySem.W.findIn K (.ref C_NoJoin) "__getattribute__" = some (some (.builtin "BaseException.__getattribute__")))
    (xhk_NoJoin : PySem.W.findIn K (.ref C_NoJoin) "__getattr__" = some none)
    (xhd_NoJoin : (PySem.W.clsIn K C_NoJoin).isSome = true)
    (xha_NoJoin : PySem.W.findIn K (.ref C_NoJoin) "__class__" = some (some (.builtin "object.__class__")))
    (xhn_NoJoin : PySem.W.specialIn K (.builtin "object.__class__") "__get__" = some (some (.builtin "getset_descriptor.__get__")))
    (xht_NoJoin : PySem.W.takesIn K (.builtin "object.__class__") = some true)
    (xhm_NoJoin : PySem.W.mroIn K C_NoJoin (.type "object") = some true)
    (xhb_NoJoin : PySem.W.mroIn K C_NoJoin (.type "BaseException") = some true)
    (v_NoJoin_NoPlace : PySem.W.kitOne K (.ref C_NoJoin) (.ref C_NoPlace) = some false)
    (v_NoJoin_NoText : PySem.W.kitOne K (.ref C_NoJoin) (.ref C_NoText) = some false)
    (v_NoJoin_NoShare : PySem.W.kitOne K (.ref C_NoJoin) (.ref C_NoShare) = some false)
    (v_NoJoin_NoLower : PySem.W.kitOne K (.ref C_NoJoin) (.ref C_NoLower) = some false)
    (v_NoJoin_NoMap : PySem.W.kitOne K (.ref C_NoJoin) (.ref C_NoMap) = some false)
    (v_NoJoin_TooMany : PySem.W.kitOne K (.ref C_NoJoin) (.ref C_TooMany) = some false)
    (v_NoJoin_NoName : PySem.W.kitOne K (.ref C_NoJoin) (.ref C_NoName) = some false)
    {t_MOST_CURVES : Tok} (a_MOST_CURVES : PySem.W.nsIn K mainGlobals "MOST_CURVES" = some (some (.int 12 t_MOST_CURVES)))
    {t_MOST_SEATS : Tok} (a_MOST_SEATS : PySem.W.nsIn K mainGlobals "MOST_SEATS" = some (some (.int 12 t_MOST_SEATS)))
    {t_FIGURES : Tok} (a_FIGURES : PySem.W.nsIn K mainGlobals "FIGURES" = some (some (.str "0123456789" t_FIGURES)))
    {t_MOST_FIGURES : Tok} (a_MOST_FIGURES : PySem.W.nsIn K mainGlobals "MOST_FIGURES" = some (some (.int 100 t_MOST_FIGURES)))
    (a_divmod : PySem.W.nsIn K mainGlobals "divmod" = some none)
    : ∃ fd : FuncData, (∀ (s : Shared) (v : Value), BindsTo s fd ⟨[v], []⟩ [("_law_script", v)]) ∧ ∀ (P : Program) (base : Heap), K.In base → base.Ns mainGlobals mg → FnOk P w K mg base CX0 10 fa fd ["_law_script"] ((spLaw K)) := by
  have e := hfa.symm.trans (PySem.W.mg_of KX GN a23)
  cases e
  have B : Blt mg := ⟨PySem.W.mg_none_of KX GN z_len, PySem.W.mg_none_of KX GN z_abs, PySem.W.mg_none_of KX GN z_range, PySem.W.mg_none_of KX GN z_max, PySem.W.mg_none_of KX GN z_min, PySem.W.mg_none_of KX GN z_any, PySem.W.mg_none_of KX GN z_all, PySem.W.mg_none_of KX GN z_sum, PySem.W.mg_none_of KX GN z_isinstance, PySem.W.mg_none_of KX GN z_int, PySem.W.mg_none_of KX GN z_bool, PySem.W.mg_none_of KX GN z_tuple, PySem.W.mg_none_of KX GN z_list, PySem.W.mg_none_of KX GN z_str, PySem.W.mg_none_of KX GN z_ValueError, PySem.W.mg_none_of KX GN z_zip, PySem.W.mg_none_of KX GN z_reversed, PySem.W.mg_none_of KX GN z_enumerate, PySem.W.mg_none_of KX GN z_sorted, PySem.W.mg_none_of KX GN z_dict⟩
  have X : Exc K mg C_SeatError C_NoJoin C_NoPlace C_NoText C_NoShare C_NoLower C_NoMap C_TooMany C_NoName := ⟨PySem.W.mg_of KX GN a_SeatError, PySem.W.mg_of KX GN a_NoJoin, PySem.W.mg_of KX GN a_NoPlace, PySem.W.mg_of KX GN a_NoText, PySem.W.mg_of KX GN a_NoShare, PySem.W.mg_of KX GN a_NoLower, PySem.W.mg_of KX GN a_NoMap, PySem.W.mg_of KX GN a_TooMany, PySem.W.mg_of KX GN a_NoName, ⟨PySem.W.mg_of KX GN a_NoJoin, _, _, _, _, _, _, _, _, _, _, _, _, _, _, _, _, l_NoJoin, n_NoJoin, i_NoJoin, t_NoJoin⟩, m_NoJoin, v_NoJoin, ⟨PySem.W.mg_of KX GN a_NoPlace, _, _, _, _, _, _, _, _, _, _, _, _, _, _, _, _, l_NoPlace, n_NoPlace, i_NoPlace, t_NoPlace⟩, m_NoPlace, v_NoPlace, ⟨PySem.W.mg_of KX GN a_NoText, _, _, _, _, _, _, _, _, _, _, _, _, _, _, _, _, l_NoText, n_NoText, i_NoText, t_NoText⟩, m_NoText, v_NoText, m_SNoText, ⟨xhg_NoText, xhk_NoText, xhd_NoText, xha_NoText, xhn_NoText, xht_NoText, xhm_NoText, xhb_NoText⟩, v_NoText_NoJoin, v_NoText_NoPlace, v_NoText_NoShare, v_NoText_NoLower, v_NoText_NoMap, v_NoText_TooMany, v_NoText_NoName, m_SNoJoin, ⟨xhg_NoJoin, xhk_NoJoin, xhd_NoJoin, xha_NoJoin, xhn_NoJoin, xht_NoJoin, xhm_NoJoin, xhb_NoJoin⟩, v_NoJoin_NoPlace, v_NoJoin_NoText, v_NoJoin_NoShare, v_NoJoin_NoLower, v_NoJoin_NoMap, v_NoJoin_TooMany, v_NoJoin_NoName⟩
  have G : Cst K mg t_MOST_CURVES t_MOST_SEATS t_FIGURES t_MOST_FIGURES := ⟨PySem.W.mg_of KX GN a_MOST_CURVES, PySem.W.mg_of KX GN a_MOST_SEATS, PySem.W.mg_of KX GN a_FIGURES, PySem.W.mg_of KX GN a_MOST_FIGURES, PySem.W.mg_none_of KX GN a_divmod⟩
  have T_Path : ClsK K mg "Path" C_Path := ⟨⟨pg_Path, hd_Path, po_Path, sa_Path⟩, mk_Path, kc_Path, PySem.W.mg_of KX GN aC_Path⟩
  have F0 : FunAt K mg "copied" s_copied ["curves"] := FunAt.mk' (PySem.W.mg_of KX GN a0) l0 c0 k0 fun _ _ _ _ _ _ us hl => uln1 (fun _ => rfl) us hl
  have F1 : MthAt K C_Path "curves" "Path.curves" s_Path_curves ["self"] := MthAt.mk' a1 i1 l1 c1 k1 fun _ _ _ _ _ _ us hl => uln1 (fun _ => rfl) us hl
  have F2 : FunAt K mg "_law_cell_at" s_l_cell_at ["_law_script", "_law_k"] := FunAt.mk' (PySem.W.mg_of KX GN a2) l2 c2 k2 fun _ _ _ _ _ _ us hl => uln2 (fun _ _ => rfl) us hl
  have F3 : FunAt K mg "_law_no_share" s_l_no_share ["_law_cell"] := FunAt.mk' (PySem.W.mg_of KX GN a3) l3 c3 k3 fun _ _ _ _ _ _ us hl => uln1 (fun _ => rfl) us hl
  have F4 : FunAt K mg "pieces" s_pieces ["text", "sign"] := FunAt.mk' (PySem.W.mg_of KX GN a4) l4 c4 k4 fun _ _ _ _ _ _ us hl => uln2 (fun _ _ => rfl) us hl
  have F5 : FunAt K mg "read_figures" s_read_figures ["text"] := FunAt.mk' (PySem.W.mg_of KX GN a5) l5 c5 k5 fun _ _ _ _ _ _ us hl => uln1 (fun _ => rfl) us hl
  have F6 : FunAt K mg "read_whole" s_read_whole ["text"] := FunAt.mk' (PySem.W.mg_of KX GN a6) l6 c6 k6 fun _ _ _ _ _ _ us hl => uln1 (fun _ => rfl) us hl
  have F7 : FunAt K mg "greatest_common" s_greatest_common ["one", "other"] := FunAt.mk' (PySem.W.mg_of KX GN a7) l7 c7 k7 fun _ _ _ _ _ _ us hl => uln2 (fun _ _ => rfl) us hl
  have F8 : FunAt K mg "share" s_share ["top", "bottom"] := FunAt.mk' (PySem.W.mg_of KX GN a8) l8 c8 k8 fun _ _ _ _ _ _ us hl => uln2 (fun _ _ => rfl) us hl
  have F9 : FunAt K mg "read_share" s_read_share ["text"] := FunAt.mk' (PySem.W.mg_of KX GN a9) l9 c9 k9 fun _ _ _ _ _ _ us hl => uln1 (fun _ => rfl) us hl
  have F10 : FunAt K mg "read_point" s_read_point ["text"] := FunAt.mk' (PySem.W.mg_of KX GN a10) l10 c10 k10 fun _ _ _ _ _ _ us hl => uln1 (fun _ => rfl) us hl
  have F11 : FunAt K mg "read_curve" s_read_curve ["text"] := FunAt.mk' (PySem.W.mg_of KX GN a11) l11 c11 k11 fun _ _ _ _ _ _ us hl => uln1 (fun _ => rfl) us hl
  have F12 : MthAt K C_Path "__init__" "Path.__init__" s_Path___init__ ["self", "curves"] := MthAt.mk' a12 i12 l12 c12 k12 fun _ _ _ _ _ _ us hl => uln2 (fun _ _ => rfl) us hl
  have F13 : FunAt K mg "read_path" s_read_path ["text"] := FunAt.mk' (PySem.W.mg_of KX GN a13) l13 c13 k13 fun _ _ _ _ _ _ us hl => uln1 (fun _ => rfl) us hl
  have F14 : FunAt K mg "_law_asked_of" s_l_asked_of ["_law_way", "_law_text"] := FunAt.mk' (PySem.W.mg_of KX GN a14) l14 c14 k14 fun _ _ _ _ _ _ us hl => uln2 (fun _ _ => rfl) us hl
  have F15 : FunAt K mg "_law_refused" s_l_refused ["_law_way", "_law_text", "_law_joined"] := FunAt.mk' (PySem.W.mg_of KX GN a15) l15 c15 k15 fun _ _ _ _ _ _ us hl => uln3 (fun _ _ _ => rfl) us hl
  have F16 : FunAt K mg "_law_share_text" s_l_share_text ["_law_one"] := FunAt.mk' (PySem.W.mg_of KX GN a16) l16 c16 k16 fun _ _ _ _ _ _ us hl => uln1 (fun _ => rfl) us hl
  have F17 : FunAt K mg "_law_all_refused" s_l_all_refused ["_law_script", "_law_curve_here"] := FunAt.mk' (PySem.W.mg_of KX GN a17) l17 c17 k17 fun _ _ _ _ _ _ us hl => uln2 (fun _ _ => rfl) us hl
  have F18 : FunAt K mg "_law_low" s_l_low ["_law_top", "_law_bottom"] := FunAt.mk' (PySem.W.mg_of KX GN a18) l18 c18 k18 fun _ _ _ _ _ _ us hl => uln2 (fun _ _ => rfl) us hl
  have F19 : FunAt K mg "_law_stream" s_l_stream ["_law_cell", "_law_many"] := FunAt.mk' (PySem.W.mg_of KX GN a19) l19 c19 k19 fun _ _ _ _ _ _ us hl => uln2 (fun _ _ => rfl) us hl
  have F20 : FunAt K mg "_law_curve" s_l_curve ["_law_cell", "_law_more"] := FunAt.mk' (PySem.W.mg_of KX GN a20) l20 c20 k20 fun _ _ _ _ _ _ us hl => uln2 (fun _ _ => rfl) us hl
  have F21 : FunAt K mg "_law_curve_text" s_l_curve_text ["_law_curve_here"] := FunAt.mk' (PySem.W.mg_of KX GN a21) l21 c21 k21 fun _ _ _ _ _ _ us hl => uln1 (fun _ => rfl) us hl
  have F22 : FunAt K mg "_law_plus" s_l_plus ["_law_one", "_law_other"] := FunAt.mk' (PySem.W.mg_of KX GN a22) l22 c22 k22 fun _ _ _ _ _ _ us hl => uln2 (fun _ _ => rfl) us hl
  have F23 : FunAt K mg "law" s_law ["_law_script"] := FunAt.mk' (PySem.W.mg_of KX GN a23) l23 c23 k23 fun _ _ _ _ _ _ us hl => uln1 (fun _ => rfl) us hl
  refine ⟨PySem.W.fnOf "law" "law" (defArgs s_law) (defBody s_law) (defScope s_law) .none kV23 dc23 pm23 an23 cd23 ct23, fun s v => .of_eq rfl, fun P base _ _ => ?_⟩
  have D0 : DefOk P w K mg base CX0 1 "copied" ["curves"] (spCopied K) := ok_copied T_Path nA_Path_parts F0 B X G
  have D1 : MthOk P w K mg base CX0 2 C_Path "curves" ["self"] (spCurves K C_Path) := ok_Path_curves T_Path nA_Path_parts F1 B X G D0
  have D2 : DefOk P w K mg base CX0 1 "_law_cell_at" ["_law_script", "_law_k"] (spCell K) := ok_l_cell_at T_Path nA_Path_parts F2 B X G
  have D3 : DefOk P w K mg base CX0 1 "_law_no_share" ["_law_cell"] spOdd := ok_l_no_share T_Path nA_Path_parts F3 B X G
  have D4 : DefOk P w K mg base (CXx P w) 1 "pieces" ["text", "sign"] (spPieX K C_NoText) := ok_pieces T_Path nA_Path_parts F4 B X G
  have D5 : DefOk P w K mg base (CXx P w) 1 "read_figures" ["text"] (spRdF C_NoText) := ok_read_figures T_Path nA_Path_parts F5 B X G
  have D6 : DefOk P w K mg base (CXx P w) 2 "read_whole" ["text"] (spRdW C_NoText) := ok_read_whole T_Path nA_Path_parts F6 B X G D5
  have D7 : DefOk P w K mg base CX0 1 "greatest_common" ["one", "other"] spGcd := ok_greatest_common T_Path nA_Path_parts F7 B X G
  have D8 : DefOk P w K mg base CX0 2 "share" ["top", "bottom"] spShare := ok_share T_Path nA_Path_parts F8 B X G D7
  have D9 : DefOk P w K mg base (CXx P w) 3 "read_share" ["text"] (spRdS K C_NoText) := ok_read_share T_Path nA_Path_parts F9 B X G D4 D5 D6 D8
  have D10 : DefOk P w K mg base (CXx P w) 4 "read_point" ["text"] (spRdP K C_NoText) := ok_read_point T_Path nA_Path_parts F10 B X G D4 D9
  have D11 : DefOk P w K mg base (CXx P w) 5 "read_curve" ["text"] (spRdC K C_NoText) := ok_read_curve T_Path nA_Path_parts F11 B X G D4 D10
  have D12 : MthOk P w K mg base (CXx P w) 2 C_Path "__init__" ["self", "curves"] (spInit K C_Path C_NoJoin) := ok_Path___init__ T_Path nA_Path_parts F12 B X G D0
  have D13 : DefOk P w K mg base (CXx P w) 6 "read_path" ["text"] (spRdA K C_Path C_NoText C_NoJoin) := ok_read_path T_Path nA_Path_parts F13 B X G D4 D11 D12
  have D14 : DefOk P w K mg base (CXx P w) 7 "_law_asked_of" ["_law_way", "_law_text"] (spAsk K C_NoText C_NoJoin) := ok_l_asked_of T_Path nA_Path_parts F14 B X G D9 D10 D11 D13
  have D15 : DefOk P w K mg base CX0 8 "_law_refused" ["_law_way", "_law_text", "_law_joined"] (spRefX K) := ok_l_refused T_Path nA_Path_parts F15 B X G D14
  have D16 : DefOk P w K mg base CX0 1 "_law_share_text" ["_law_one"] spLTxS := ok_l_share_text T_Path nA_Path_parts F16 B X G
  have D17 : DefOk P w K mg base CX0 9 "_law_all_refused" ["_law_script", "_law_curve_here"] (spAllR K) := ok_l_all_refused T_Path nA_Path_parts F17 B X G D2 D3 D15 D16
  have D18 : DefOk P w K mg base CX0 1 "_law_low" ["_law_top", "_law_bottom"] spLShare := ok_l_low T_Path nA_Path_parts F18 B X G
  have D19 : DefOk P w K mg base CX0 1 "_law_stream" ["_law_cell", "_law_many"] spStreamB := ok_l_stream T_Path nA_Path_parts F19 B X G
  have D20 : DefOk P w K mg base CX0 2 "_law_curve" ["_law_cell", "_law_more"] spLCurve := ok_l_curve T_Path nA_Path_parts F20 B X G D18 D19
  have D21 : DefOk P w K mg base CX0 2 "_law_curve_text" ["_law_curve_here"] (spLTxC K) := ok_l_curve_text T_Path nA_Path_parts F21 B X G D16
  have D22 : DefOk P w K mg base CX0 2 "_law_plus" ["_law_one", "_law_other"] spPlus := ok_l_plus T_Path nA_Path_parts F22 B X G D18
  have D23 : DefOk P w K mg base CX0 10 "law" ["_law_script"] (spLaw K) := ok_law T_Path nA_Path_parts F23 B X G D1 D2 D11 D13 D15 D16 D17 D20 D21 D22
  exact D23.law l23 (PySem.W.mg_of KX GN a23)
end Cv
open PySem PySem.W PyProof.Rows
set_option maxHeartbeats 0 in
theorem PySem.Challenge.cw_curveseat_k81_no_text_holds : PySem.Challenge.rw_curveseat_k81_no_text.Holds := by
  w_on; o_law; k_head; (case hw => w_witness2)
  k_fill
  refine Cv.walk (l := PySem.Challenge.rw_curveseat_k81_no_text) (k := 10) (x := "_law_script") (CX := L2.CX0) (sp := fun K => (Cv.spLaw K)) rfl rfl ⟨rfl, by decide, by decide⟩ (fun w h Y => PySem.W.kIn_of Y) ?F (fun K H a ns h1 h2 h3 => ⟨a, ns, rfl, h3, h1, fun _ => rfl⟩) (fun _ _ _ _ z => z)
  case F =>
    intro w mg fa h KX G hmg
    refine' Cv.all_mk KX G hmg ?aC_Path ?pg_Path ?hd_Path ?po_Path ?sa_Path ?mk_Path ?kc_Path ?nA_Path_parts ?a0 ?l0 ?c0 ?k0 ?a1 ?i1 ?l1 ?c1 ?k1 ?a2 ?l2 ?c2 ?k2 ?a3 ?l3 ?c3 ?k3 ?a4 ?l4 ?c4 ?k4 ?a5 ?l5 ?c5 ?k5 ?a6 ?l6 ?c6 ?k6 ?a7 ?l7 ?c7 ?k7 ?a8 ?l8 ?c8 ?k8 ?a9 ?l9 ?c9 ?k9 ?a10 ?l10 ?c10 ?k10 ?a11 ?l11 ?c11 ?k11 ?a12 ?i12 ?l12 ?c12 ?k12 ?a13 ?l13 ?c13 ?k13 ?a14 ?l14 ?c14 ?k14 ?a15 ?l15 ?c15 ?k15 ?a16 ?l16 ?c16 ?k16 ?a17 ?l17 ?c17 ?k17 ?a18 ?l18 ?c18 ?k18 ?a19 ?l19 ?c19 ?k19 ?a20 ?l20 ?c20 ?k20 ?a21 ?l21 ?c21 ?k21 ?a22 ?l22 ?c22 ?k22 ?a23 ?l23 ?c23 ?k23 ?z_len ?z_abs ?z_range ?z_max ?z_min ?z_any ?z_all ?z_sum ?z_isinstance ?z_int ?z_bool ?z_tuple ?z_list ?z_str ?z_ValueError ?z_zip ?z_reversed ?z_enumerate ?z_sorted ?z_dict ?a_SeatError ?a_NoJoin ?a_NoPlace ?a_NoText ?a_NoShare ?a_NoLower ?a_NoMap ?a_TooMany ?a_NoName ?l_NoJoin ?n_NoJoin ?i_NoJoin ?t_NoJoin ?m_NoJoin ?v_NoJoin ?l_NoPlace ?n_NoPlace ?i_NoPlace ?t_NoPlace ?m_NoPlace ?v_NoPlace ?l_NoText ?n_NoText ?i_NoText ?t_NoText ?m_NoText ?v_NoText ?m_SNoText ?xhg_NoText ?xhk_NoText ?xhd_NoText ?xha_NoText ?xhn_NoText ?xht_NoText ?xhm_NoText ?xhb_NoText ?v_NoText_NoJoin ?v_NoText_NoPlace ?v_NoText_NoShare ?v_NoText_NoLower ?v_NoText_NoMap ?v_NoText_TooMany ?v_NoText_NoName ?m_SNoJoin ?xhg_NoJoin ?xhk_NoJoin ?xhd_NoJoin ?xha_NoJoin ?xhn_NoJoin ?xht_NoJoin ?xhm_NoJoin ?xhb_NoJoin ?v_NoJoin_NoPlace ?v_NoJoin_NoText ?v_NoJoin_NoShare ?v_NoJoin_NoLower ?v_NoJoin_NoMap ?v_NoJoin_TooMany ?v_NoJoin_NoName ?a_MOST_CURVES ?a_MOST_SEATS ?a_FIGURES ?a_MOST_FIGURES ?a_divmod
    (case aC_Path => k_is)
    (case pg_Path => k_is)
    (case hd_Path => k_is)
    (case po_Path => k_is)
    (case sa_Path => k_is)
    (case mk_Path => k_is)
    (case kc_Path => k_is)
    (case nA_Path_parts => k_is)
    (case a0 => k_is)
    (case l0 => k_is)
    (case c0 => k_is)
    (case k0 => k_is)
    (case a1 => k_is)
    (case i1 => k_is)
    (case l1 => k_is)
    (case c1 => k_is)
    (case k1 => k_is)
    (case a2 => k_is)
    (case l2 => k_is)
    (case c2 => k_is)
    (case k2 => k_is)
    (case a3 => k_is)
    (case l3 => k_is)
    (case c3 => k_is)
    (case k3 => k_is)
    (case a4 => k_is)
    (case l4 => k_is)
    (case c4 => k_is)
    (case k4 => k_is)
    (case a5 => k_is)
    (case l5 => k_is)
    (case c5 => k_is)
    (case k5 => k_is)
    (case a6 => k_is)
    (case l6 => k_is)
    (case c6 => k_is)
    (case k6 => k_is)
    (case a7 => k_is)
    (case l7 => k_is)
    (case c7 => k_is)
    (case k7 => k_is)
    (case a8 => k_is)
    (case l8 => k_is)
    (case c8 => k_is)
    (case k8 => k_is)
    (case a9 => k_is)
    (case l9 => k_is)
    (case c9 => k_is)
    (case k9 => k_is)
    (case a10 => k_is)
    (case l10 => k_is)
    (case c10 => k_is)
    (case k10 => k_is)
    (case a11 => k_is)
    (case l11 => k_is)
    (case c11 => k_is)
    (case k11 => k_is)
    (case a12 => k_is)
    (case i12 => k_is)
    (case l12 => k_is)
    (case c12 => k_is)
    (case k12 => k_is)
    (case a13 => k_is)
    (case l13 => k_is)
    (case c13 => k_is)
    (case k13 => k_is)
    (case a14 => k_is)
    (case l14 => k_is)
    (case c14 => k_is)
    (case k14 => k_is)
    (case a15 => k_is)
    (case l15 => k_is)
    (case c15 => k_is)
    (case k15 => k_is)
    (case a16 => k_is)
    (case l16 => k_is)
    (case c16 => k_is)
    (case k16 => k_is)
    (case a17 => k_is)
    (case l17 => k_is)
    (case c17 => k_is)
    (case k17 => k_is)
    (case a18 => k_is)
    (case l18 => k_is)
    (case c18 => k_is)
    (case k18 => k_is)
    (case a19 => k_is)
    (case l19 => k_is)
    (case c19 => k_is)
    (case k19 => k_is)
    (case a20 => k_is)
    (case l20 => k_is)
    (case c20 => k_is)
    (case k20 => k_is)
    (case a21 => k_is)
    (case l21 => k_is)
    (case c21 => k_is)
    (case k21 => k_is)
    (case a22 => k_is)
    (case l22 => k_is)
    (case c22 => k_is)
    (case k22 => k_is)
    (case a23 => k_is)
    (case l23 => k_is)
    (case c23 => k_is)
    (case k23 => k_is)
    (case z_len => k_is)
    (case z_abs => k_is)
    (case z_range => k_is)
    (case z_max => k_is)
    (case z_min => k_is)
    (case z_any => k_is)
    (case z_all => k_is)
    (case z_sum => k_is)
    (case z_isinstance => k_is)
    (case z_int => k_is)
    (case z_bool => k_is)
    (case z_tuple => k_is)
    (case z_list => k_is)
    (case z_str => k_is)
    (case z_ValueError => k_is)
    (case z_zip => k_is)
    (case z_reversed => k_is)
    (case z_enumerate => k_is)
    (case z_sorted => k_is)
    (case z_dict => k_is)
    (case a_SeatError => k_is)
    (case a_NoJoin => k_is)
    (case a_NoPlace => k_is)
    (case a_NoText => k_is)
    (case a_NoShare => k_is)
    (case a_NoLower => k_is)
    (case a_NoMap => k_is)
    (case a_TooMany => k_is)
    (case a_NoName => k_is)
    (case l_NoJoin => k_is)
    (case n_NoJoin => kernel_rfl)
    (case i_NoJoin => k_is)
    (case t_NoJoin => kernel_rfl)
    (case m_NoJoin => kts_exm)
    (case v_NoJoin => kit_is)
    (case l_NoPlace => k_is)
    (case n_NoPlace => kernel_rfl)
    (case i_NoPlace => k_is)
    (case t_NoPlace => kernel_rfl)
    (case m_NoPlace => kts_exm)
    (case v_NoPlace => kit_is)
    (case l_NoText => k_is)
    (case n_NoText => kernel_rfl)
    (case i_NoText => k_is)
    (case t_NoText => kernel_rfl)
    (case m_NoText => kts_exm)
    (case v_NoText => kit_is)
    (case m_SNoText => kts_exm)
    (case xhg_NoText => k_is)
    (case xhk_NoText => k_is)
    (case xhd_NoText => kernel_rfl)
    (case xha_NoText => k_is)
    (case xhn_NoText => k_is)
    (case xht_NoText => k_is)
    (case xhm_NoText => k_is)
    (case xhb_NoText => k_is)
    (case v_NoText_NoJoin => kit_is)
    (case v_NoText_NoPlace => kit_is)
    (case v_NoText_NoShare => kit_is)
    (case v_NoText_NoLower => kit_is)
    (case v_NoText_NoMap => kit_is)
    (case v_NoText_TooMany => kit_is)
    (case v_NoText_NoName => kit_is)
    (case m_SNoJoin => kts_exm)
    (case xhg_NoJoin => k_is)
    (case xhk_NoJoin => k_is)
    (case xhd_NoJoin => kernel_rfl)
    (case xha_NoJoin => k_is)
    (case xhn_NoJoin => k_is)
    (case xht_NoJoin => k_is)
    (case xhm_NoJoin => k_is)
    (case xhb_NoJoin => k_is)
    (case v_NoJoin_NoPlace => kit_is)
    (case v_NoJoin_NoText => kit_is)
    (case v_NoJoin_NoShare => kit_is)
    (case v_NoJoin_NoLower => kit_is)
    (case v_NoJoin_NoMap => kit_is)
    (case v_NoJoin_TooMany => kit_is)
    (case v_NoJoin_NoName => kit_is)
    (case a_MOST_CURVES => k_is)
    (case a_MOST_SEATS => k_is)
    (case a_FIGURES => k_is)
    (case a_MOST_FIGURES => k_is)
    (case a_divmod => k_is)
#print axioms PySem.Challenge.cw_curveseat_k81_no_text_holds
