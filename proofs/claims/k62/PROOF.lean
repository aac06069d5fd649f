import PyProof.Rows.All
import Wide.All
import OpenK.AllK
import Wide.FinOn
import Lean
import PyProof.EqAt
import PyProof.EqKinds
import PyProof.TupleCall
import PySem.Challenge.RW_curveseat_k62_lines_and_common_points
set_option compiler.extract_closed false
set_option genSizeOfSpec false
namespace PySem.W.Fast
noncomputable def tw16594363513412769005:=()
noncomputable def tw10821486342340158563:=()
noncomputable def tw8412568532415674697:=()
noncomputable def tw1365279652484582188:=()
noncomputable def tw8044082959058508138:=()
noncomputable def tw4757457250237148477:=()
noncomputable def tw15679212360066455162:=()
noncomputable def tw9830115703965222711:=()
noncomputable def tw925907638598839793:=()
noncomputable def tw11389187795183524254:=()
noncomputable def tw7338100477757081034:=()
noncomputable def tw13482998147379421005:=()
noncomputable def tw4695350676355063525:=()
noncomputable def tw13051424352879931228:=()
noncomputable def tw10942302935408586431:=()
noncomputable def tw16480504474900379483:=()
noncomputable def tw7606560515268497591:=()
noncomputable def tw17293640371225152154:=()
noncomputable def tw11634224824122904361:=()
noncomputable def tw781069951367993596:=()
noncomputable def tw9580620471669148940:=()
noncomputable def tw12887777965796035932:=()
noncomputable def tw9312962717307674821:=()
noncomputable def tw10322940302470168167:=()
noncomputable def tw5442130990251428871:=()
noncomputable def tw8932760458366154140:=()
noncomputable def tw117832671411776893:=()
noncomputable def tw15598619354054202186:=()
noncomputable def tw1088093761250886003:=()
noncomputable def tw14732825636581145730:=()
noncomputable def tw10837623503138598853:=()
noncomputable def tw14180782426854705692:=()
noncomputable def tw1034221597441774001:=()
noncomputable def tw14112048658732707403:=()
noncomputable def tw1359146964399190652:=()
noncomputable def tw12048518043592248110:=()
noncomputable def tw6176218331746887239:=()
noncomputable def tw14503324504208577792:=()
noncomputable def tw7379734390652687440:=()
noncomputable def tw12763696313791525355:=()
noncomputable def tw10825091295012820012:=()
noncomputable def tw6966323116147454122:=()
noncomputable def tw7081051551495831588:=()
noncomputable def tw13700453703516538382:=()
noncomputable def tw13075183912737300873:=()
noncomputable def tw7395646632933443990:=()
noncomputable def tw11703006893028019949:=()
noncomputable def tw8370206165581944927:=()
noncomputable def tw4352793955853384706:=()
noncomputable def tw12202973008711572057:=()
noncomputable def tw2376030016253968837:=()
noncomputable def tw11532096985375206170:=()
noncomputable def tw5614745653247979454:=()
noncomputable def tw10606023942030505195:=()
noncomputable def tw3110527485182497515:=()
noncomputable def tw16741083987507904078:=()
noncomputable def tw1650595386355016768:=()
noncomputable def tw17172356210719822047:=()
noncomputable def tw18190294371740452416:=()
noncomputable def tw7452702660201427425:=()
noncomputable def tw12073957121283801120:=()
noncomputable def tw16425159871972603950:=()
noncomputable def tw16039543351389305599:=()
noncomputable def tw351015907814968427:=()
noncomputable def tw16863899193314250650:=()
noncomputable def tw11580093039471777723:=()
noncomputable def tw1919775738059546147:=()
noncomputable def tw1370555441727638956:=()
noncomputable def tw4141240748422323064:=()
noncomputable def tw366561801646982345:=()
noncomputable def tw14996697420058370239:=()
noncomputable def tw17098100234215321081:=()
noncomputable def tw7381958794972339013:=()
noncomputable def tw14845664665046617408:=()
noncomputable def tw16266121090554195988:=()
noncomputable def tw11701818156103140622:=()
noncomputable def tw17274896651309008774:=()
noncomputable def tw17327533934776775471:=()
noncomputable def tw10620705595609989384:=()
noncomputable def tw9788381797069686780:=()
noncomputable def tw6927847508451779625:=()
noncomputable def tw10355798645018435847:=()
noncomputable def tw12749620587151799106:=()
noncomputable def tw15369155268231317358:=()
noncomputable def tw5784192102912923677:=()
noncomputable def tw12418333559151832968:=()
noncomputable def tw4624272613665555295:=()
noncomputable def tw4986641809389634548:=()
noncomputable def tw2922290970773747697:=()
noncomputable def tw10803991860661950704:=()
noncomputable def tw16510491077231756020:=()
noncomputable def tw615769435541743293:=()
noncomputable def tw17699055973884892891:=()
noncomputable def tw87996247788522642:=()
noncomputable def tw7941184718722106777:=()
noncomputable def tw16454954582816373753:=()
noncomputable def tw4626620907057589961:=()
noncomputable def tw6657366635123475743:=()
noncomputable def tw2007684932355985712:=()
noncomputable def tw18066728270682695479:=()
noncomputable def tw9101941223486891855:=()
noncomputable def tw1256007684195090724:=()
noncomputable def tw13558402873049790702:=()
noncomputable def tw461636832518730783:=()
noncomputable def tw15628821854741465833:=()
noncomputable def tw16801367323619848979:=()
noncomputable def tw10018330837511073571:=()
noncomputable def tw9753475288668274191:=()
noncomputable def tw3157763857301208791:=()
noncomputable def tw14304898328113655467:=()
noncomputable def tw6502593967899713441:=()
noncomputable def tw3981499537809066485:=()
noncomputable def tw2379514757836714561:=()
noncomputable def tw12234387128438951870:=()
noncomputable def tw8843298956786911456:=()
noncomputable def tw16426974240837731594:=()
noncomputable def tw12419663674268388729:=()
noncomputable def tw9969219278539947163:=()
noncomputable def tw11125202255553907749:=()
noncomputable def tw9425832870829143959:=()
noncomputable def tw7313387854073730210:=()
noncomputable def tw11388641379548095505:=()
noncomputable def tw12032606510064161172:=()
noncomputable def tw13963571582019255054:=()
noncomputable def tw15906880108799095610:=()
noncomputable def tw13424616351641910600:=()
noncomputable def tw5988333822332066970:=()
noncomputable def tw15752657318282155802:=()
noncomputable def tw18089281771362093584:=()
noncomputable def tw9618186267560766925:=()
noncomputable def tw5568406512398234833:=()
noncomputable def tw3703003960639750841:=()
noncomputable def tw13938945961123247773:=()
noncomputable def tw5023047852503738878:=()
noncomputable def tw13428083027634142366:=()
noncomputable def tw8784626897549619723:=()
noncomputable def tw13073948800852236221:=()
noncomputable def tw6934582471833622840:=()
noncomputable def tw9501668453562920821:=()
noncomputable def tw9738521978085684248:=()
noncomputable def tw391951288862197746:=()
noncomputable def tw2552297675629908661:=()
noncomputable def tw1188681764012889763:=()
noncomputable def tw11832386569933353588:=()
noncomputable def tw9058401633560261823:=()
noncomputable def tw11958723947752925467:=()
noncomputable def tw14560658104127765172:=()
noncomputable def tw17509948907982586590:=()
noncomputable def tw10383558931748933188:=()
noncomputable def tw14821508511245760942:=()
noncomputable def tw15244208717891414778:=()
noncomputable def tw17761335245340058850:=()
noncomputable def tw6149295061334626402:=()
noncomputable def tw12567701399444081848:=()
noncomputable def tw886885590022293582:=()
noncomputable def tw4063871430909696922:=()
noncomputable def tw9818010802332395737:=()
noncomputable def tw15596932685780242623:=()
noncomputable def tw17449741968055048984:=()
noncomputable def tw12443280147285212547:=()
noncomputable def tw7912465015136933717:=()
noncomputable def tw4954467324914519574:=()
noncomputable def tw11957470253472031539:=()
noncomputable def tw17305240882698732545:=()
noncomputable def tw2220676709816874164:=()
noncomputable def tw1399681828119837748:=()
noncomputable def tw8036196309902134896:=()
noncomputable def tw12833408928423098376:=()
noncomputable def tw12339870826925856537:=()
noncomputable def tw1838793905657295508:=()
noncomputable def tw5934360755992323553:=()
noncomputable def tw15101374202448325300:=()
noncomputable def tw9710669883369180209:=()
noncomputable def tw7022664744225379351:=()
noncomputable def tw14108836922110413826:=()
noncomputable def tw18234823772419300546:=()
noncomputable def tw1162419813653755163:=()
noncomputable def tw1880038171910442336:=()
noncomputable def tw1142638986426105007:=()
noncomputable def tw980623862171615073:=()
noncomputable def tw12340170892314813687:=()
noncomputable def tw11414979390077874099:=()
noncomputable def tw3201279511925570363:=()
noncomputable def tw7077668284352544884:=()
noncomputable def tw13966344545998094586:=()
noncomputable def tw13685470640833658323:=()
noncomputable def tw5087811810232586834:=()
noncomputable def tw17201512459136615854:=()
noncomputable def tw10455093986995415208:=()
noncomputable def tw18065953770159640498:=()
noncomputable def tw3447224753379863867:=()
noncomputable def tw15926180134884848509:=()
noncomputable def tw5220166491926098375:=()
noncomputable def tw11647837998196816299:=()
noncomputable def tw7650642136670833723:=()
noncomputable def tw6602419708193185110:=()
noncomputable def tw17502177950403548218:=()
noncomputable def tw10573899445886780026:=()
noncomputable def tw14379317737831688575:=()
noncomputable def tw4730355451216894276:=()
noncomputable def tw1389646517110719787:=()
noncomputable def tw12910422084038831512:=()
noncomputable def tw625392553109094101:=()
noncomputable def tw17122661269481224707:=()
noncomputable def tw5409236158633652242:=()
noncomputable def tw14070188433647953461:=()
noncomputable def tw5254695563634868655:=()
noncomputable def tw3132156605217568046:=()
noncomputable def tw6334656530123123648:=()
noncomputable def tw13160969743448054715:=()
noncomputable def tw1622100428689989304:=()
noncomputable def tw12888811998529695411:=()
noncomputable def tw5125286136879652084:=()
noncomputable def tw16872834850686330386:=()
noncomputable def tw17947185142053376642:=()
noncomputable def tw3202660313304145741:=()
noncomputable def tw15162344785624359843:=()
noncomputable def tw8948373827675635587:=()
noncomputable def tw8481811921846790144:=()
noncomputable def tw7818565039129237785:=()
noncomputable def tw16757855551117285600:=()
noncomputable def tw5526704581993957819:=()
noncomputable def tw17003726867542795556:=()
noncomputable def tw14479898164663318561:=()
noncomputable def tw7601973020500923555:=()
noncomputable def tw5738545913813473177:=()
noncomputable def tw798544070024096055:=()
noncomputable def tw13539686740640334739:=()
noncomputable def tw4646979755455646229:=()
noncomputable def tw6158846367430651048:=()
noncomputable def tw9682594484307260349:=()
noncomputable def tw14214693771749397702:=()
noncomputable def tw7146803381648211560:=()
noncomputable def tw12048577580398177452:=()
noncomputable def tw4800630222582426476:=()
noncomputable def tw1240640225493974854:=()
noncomputable def tw15471194758531588666:=()
noncomputable def tw8272457275738336426:=()
noncomputable def tw2992663151993424114:=()
noncomputable def tw518756699105006721:=()
noncomputable def tw18059601826173734163:=()
noncomputable def tw13514789023147107471:=()
noncomputable def tw1411268235078876188:=()
noncomputable def tw9522028652691731199:=()
noncomputable def tw13544440139554378874:=()
noncomputable def tw18179540296100151320:=()
noncomputable def tw8260438401019194521:=()
noncomputable def tw6421318444000134866:=()
noncomputable def tw8293950690148130361:=()
noncomputable def tw6776186463339750063:=()
noncomputable def tw7964018485897993365:=()
noncomputable def tw17363838928737695569:=()
noncomputable def tw13011542668286124468:=()
noncomputable def tw8681745721626416388:=()
noncomputable def tw547212125947294004:=()
noncomputable def tw9106520103428017060:=()
noncomputable def tw4258548243850902578:=()
noncomputable def tw13248934982312058212:=()
noncomputable def tw7628079626460630511:=()
noncomputable def tw10845389701125758465:=()
noncomputable def tw7528276513126316335:=()
noncomputable def tw15680253013133039014:=()
noncomputable def tw3863715859119828280:=()
noncomputable def tw5076472654281455705:=()
noncomputable def tw1865766944800538479:=()
noncomputable def tw288361015761758778:=()
noncomputable def tw12594022487750644483:=()
noncomputable def tw5041330633124934427:=()
noncomputable def tw17239578985878171069:=()
noncomputable def tw14321164305146198177:=()
noncomputable def tw4300673595278419708:=()
noncomputable def tw932538166874029562:=()
noncomputable def tw60825097327885786:=()
noncomputable def tw17408416669940516591:=()
noncomputable def tw1975925181280372960:=()
noncomputable def tw10863481444204620596:=()
noncomputable def tw594987948271927534:=()
noncomputable def tw9780917520009637934:=()
noncomputable def tw13542512355270668013:=()
noncomputable def tw15628445230327162888:=()
noncomputable def tw13127123177292881893:=()
noncomputable def tw12975365952617889866:=()
noncomputable def tw5525888608605543099:=()
noncomputable def tw17714273555214585670:=()
noncomputable def tw16503770633053491922:=()
noncomputable def tw12190899079925115040:=()
noncomputable def tw11077538062662651491:=()
noncomputable def tw3589201785462830401:=()
noncomputable def tw8798886101056217338:=()
noncomputable def tw6905517063475629923:=()
noncomputable def tw5791174696045769909:=()
noncomputable def tw16517883138310097785:=()
noncomputable def tw14091918599713697986:=()
noncomputable def tw6830441266456495425:=()
noncomputable def tw6007841714558987342:=()
noncomputable def tw8518683831687275268:=()
noncomputable def tw11116439108650157080:=()
noncomputable def tw5630840523500145465:=()
noncomputable def tw13850104822687981072:=()
noncomputable def tw18309839415987266483:=()
noncomputable def tw5447537118838851235:=()
noncomputable def tw10586646743941609867:=()
noncomputable def tw13202312449157904284:=()
end PySem.W.Fast
set_option maxHeartbeats 9999999
local macro_rules|`(tactic|omega)=>`(tactic|first|lia|omega (config:={}))
open List renaming getElem?_eq_getElem→c5j,length_map→c5l,getElem?_eq_some_iff→c5m,length_append→c5n,mem_of_getElem?→c5p,replicate→c5q,getElem?_map→c5t,mem_append_right→c5u,getElem?_append_left→c5y,size_toArray→c6c,getElem?_append_right→c6d,mem_cons→c6f,mem_singleton→c6g,mem_map→c6h,append_assoc→c6i,getD_eq_getElem?_getD→c6j,getElem_of_mem→c6k,getElem?_eq_none→c6m,length_drop→c6n,Nodup→c6p,mem_append→c6q,not_mem_nil→c6r,length_take→c6u,mem_cons_of_mem→c6w,take_of_length_le→c6x,length_cons→c6y,getElem_mem→c6z,take_append_drop→c7a,pairwise_append→c7g,length_replicate→c7i,replicate_succ→c7j,length_reverse→c7k,mem_of_mem_drop→c7l,mem_of_mem_take→c7p,range→c7s,pairwise_iff_getElem→c7t,sum_cons→c7u,lookup_cons→c7v,map_congr_left→c7x,ext_getElem?→c7y,length_range→c7z,getElem?_drop→c8d,extract_eq_take_drop→c8f,getElem?_zipWith→c8h,mem_reverse→c8j,map_cons→c8m,length_zipWith→c8r,zipWith_cons_cons→c8s,zipWith→c8v,getElem?_reverse→c8w,append_nil→c8z,drop_append_of_le_length→c9a,getElem?_cons_succ→c9g,drop_eq_nil_of_le→c9j,mem_cons_self→c9k,pairwise_reverse→c9m,drop_eq_getElem_cons→c9o,Perm→c9p,mem_range→c9t,drop_drop→c9u,length→c9v,take_succ_cons→c9w,mem_flatMap→c9x,take_length→c9y,map_map→d0b,getElem?_take→d0d,nodup_cons→d0e,map_append→d0f,flatten_cons→d0j,drop_sublist→d0k,mem_iff_getElem?→d0l,take_succ→d0p,sum_nil→d0s,getElem?_range→d0x,lookup→d0z,of_mem_zip→d1a
open PySem.W renaming Frag→c5k,nsIn→c5s,keepIn→c5w,codeIn→c5x,fnOf→c5z,mg_of→c6a,mg_none_of→c6t,findIn→c7h,kqdOk→c7m,kia_one→c8c,emptyDict→c8g,kitOne→c8q,instObj→c9f,kqdP→d0c,Dat→d0o,plainGet→d0w,isFn→d1e,hasDictIn→d1f
open Array renaming length_toList→c5o,getElem?_eq_getElem→c7o,getElem?_toList→c8a,toList_extract→c8y,size_push→c9d,toList_push→d0n,getD_eq_getD_getElem?→d0r,getElem_toList→d0u,toList_append→d0y
open Rat renaming divInt→c5r,intCast_mul→c6b,intCast_add→c8i,num_divInt_den→c8x,divInt_eq_div→c9e,intCast_sub→d0i,divInt_mul_right→d0v,mul_pos→d1d
open Nat renaming le_refl→c5v,ne_of_lt→c6l,lt_of_lt_of_le→c7b,zero_le→c7c,le_of_lt→c7r,le_trans→c7w,mul_le_mul→c8o,zero_max→c9h,mul_le_mul_left→c9i,lt_succ_self→c9z,lt_irrefl→d0g,succ_mul→d0t
open Option renaming some→c6e,map_eq_some_iff→c8e
open Int renaming gcd→c6o,fdiv_eq_ediv_of_nonneg→c7f,mul_ediv_cancel_left→c7n,mul_pos→c7q,mul_comm→c8n,mul_nonneg→c8p,mul_le_mul_of_nonneg_left→c9b,mul_eq_zero→c9c,le_of_lt→c9n,toNat_natCast→c9q,mul_assoc→c9r,toNat→c9s,dvd_trans→d0h,mul_one→d0m,natAbs_mul→d0q,one_mul→d1b,emod_nonneg→d1c
open Bool renaming false_ne_true→c6s,and_eq_true→c8k,false_eq_true→c9l
open PySem.F renaming plainAttrs_list→c6v,slot_list_append→c7d,type_list_append→c7e
open PyProof.Rows renaming callWith_type1→c8b,boot_isinstance→c8l,kindOf→c8t,boot_list→c8u,slot_tuple_getitem→d0a
noncomputable section
set_option Elab.async false
set_option linter.all false
set_option maxRecDepth 100000
namespace L2
open PySem PySem.Spec PyProof.Rows
abbrev Key:=Sum Int Str
noncomputable def keyIs:Key→Value→Bool
 | .inl k,v=>Value.isInt k v
 | .inr x,v=>Value.isStrOf x v
noncomputable def keyH(w:World):Key→Int
 | .inl k=>hashInt k
 | .inr x=>hashStr w x
theorem a2y:∀ {k:Key} {v:Value},keyIs k v=true→(∃ i t,k=Sum.inl i∧v=Value.int i t)∨(∃ x t,k=Sum.inr x∧v=Value.str x t)
 | .inl i,v,h=>by
   obtain⟨t,e⟩:=Value.isInt_shape (k:=i) (v:=v) h;exact .inl ⟨i,t,rfl,e⟩
 | .inr x,v,h=>by
   obtain⟨t,e⟩:=Value.isStrOf_shape (x:=x) (v:=v) h;exact .inr ⟨x,t,rfl,e⟩
theorem key_ll(a b:Int):decide ((Sum.inl a:Key)=Sum.inl b)=(a == b):=by
 by_cases e:a=b
 · subst e;simp
 · have h:¬ (Sum.inl a:Key)=Sum.inl b:=fun q=>e (Sum.inl.inj q);rw[decide_eq_false h];exact (beq_eq_false_iff_ne.mpr e).symm
theorem key_rr(a b:Str):decide ((Sum.inr a:Key)=Sum.inr b)=decide (a=b):=by
 by_cases e:a=b
 · subst e;simp
 · have h:¬ (Sum.inr a:Key)=Sum.inr b:=fun q=>e (Sum.inr.inj q);rw[decide_eq_false h,decide_eq_false e]
theorem key_lr(a:Int)(b:Str):decide ((Sum.inl a:Key)=Sum.inr b)=false:=decide_eq_false (fun q=>nomatch q)
theorem key_rl(a:Str)(b:Int):decide ((Sum.inr a:Key)=Sum.inl b)=false:=decide_eq_false (fun q=>nomatch q)
noncomputable def c3a(prog:Program)(w:World):PySem.KeyKind prog w Key where
 is:=keyIs
 hash:=keyH w
 inj:=fun v a b ha hb=>by
   rcases a2y ha with⟨i,t,rfl,rfl⟩ | ⟨x,t,rfl,rfl⟩
   · rcases a2y hb with⟨j,u,rfl,e⟩ | ⟨y,u,rfl,e⟩
     · injection e with e1 _;rw[e1]
     · exact nomatch e
   · rcases a2y hb with⟨j,u,rfl,e⟩ | ⟨y,u,rfl,e⟩
     · exact nomatch e
     · injection e with e1 _;rw[e1]
 byValue:=fun k v h=>by
   rcases a2y h with⟨i,t,rfl,rfl⟩ | ⟨x,t,rfl,rfl⟩<;>rfl
 pyHash:=fun hv h=>by
   rcases a2y hv with⟨i,t,rfl,rfl⟩ | ⟨x,t,rfl,rfl⟩
   · exact wpAny_pyHash_int h
   · exact wpAny_pyHash_str h
 eqBool:=fun hu hv h=>by
   rcases a2y hu with⟨i,t,rfl,rfl⟩ | ⟨x,t,rfl,rfl⟩
   · rcases a2y hv with⟨j,u,rfl,rfl⟩ | ⟨y,u,rfl,rfl⟩
     · rw[key_ll] at h;exact wpAny_eqBool_int h
     · rw[key_lr] at h;exact SeqAt.EqAt.int_str i t y u _ _ _ _ h
   · rcases a2y hv with⟨j,u,rfl,rfl⟩ | ⟨y,u,rfl,rfl⟩
     · rw[key_rl] at h;exact SeqAt.EqAt.str_int x t j u _ _ _ _ h
     · rw[key_rr] at h;exact wpAny_eqBool_str h
 «strs»:=fun k x t v h=>by
   rcases a2y h with⟨i,u,rfl,e⟩ | ⟨y,u,rfl,e⟩
   · exact nomatch e
   · injection e with e1 _;subst e1;cases v<;>rfl
inductive V where
 | non | bl (b:Bool) | int (i:Int) | str (x:Str) | byt (b:Array UInt8) | flt (b:UInt64) | ref (a:Addr) | ty (n:String)
 deriving DecidableEq
noncomputable def RelV:V→Value→Prop
 | .non,u=>u=Value.none
 | .bl b,u=>u=Value.bool b
 | .int i,u=>∃ t,u=Value.int i t
 | .str x,u=>∃ t,u=Value.str x t
 | .byt b,u=>∃ t,u=Value.bytes b t
 | .flt b,u=>∃ t,u=Value.float b t
 | .ref a,u=>u=Value.ref a
 | .ty n,u=>u=Value.type n
abbrev Vals:List V→List Value→Prop:=Paired RelV
theorem Vals.length{xs:List V}{us:List Value}(r:Vals xs us):xs.length=us.length:=Paired.length r
theorem Vals.get:∀ {xs:List V} {us:List Value} {i:Nat} {x:V},Vals xs us→xs[i]?=some x→∃ u,us[i]?=some u∧RelV x u
 | _,_,_,_,.nil,e=>by simp at e
 | _,_,0,_,.cons r _,e=>by simp at e;subst e;exact⟨_,rfl,r⟩
 | _,_,i+1,x,.cons _ t,e=>by
   obtain⟨u,h1,h2⟩:=Vals.get (i:=i) (x:=x) t (by simpa using e);exact⟨u,by simpa using h1,h2⟩
theorem Vals.set{x:V}{u:Value}(r:RelV x u):∀ {xs:List V} {us:List Value} (i:Nat),Vals xs us→Vals (xs.set i x) (us.set i u)
 | _,_,_,.nil=>.nil
 | _,_,0,.cons _ t=>.cons r t
 | _,_,i+1,.cons q t=>.cons q (Vals.set r i t)
theorem Vals.append:∀ {xs ys:List V} {us ws:List Value},Vals xs us→Vals ys ws→Vals (xs++ys) (us++ws)
 | _,_,_,_,.nil,s=>s
 | _,_,_,_,.cons r t,s=>.cons r (Vals.append t s)
theorem Vals.take:∀ {xs:List V} {us:List Value} (n:Nat),Vals xs us→Vals (xs.take n) (us.take n)
 | _,_,0,_=>.nil
 | _,_,_+1,.nil=>.nil
 | _,_,n+1,.cons r t=>.cons r (Vals.take n t)
theorem Vals.drop:∀ {xs:List V} {us:List Value} (n:Nat),Vals xs us→Vals (xs.drop n) (us.drop n)
 | _,_,0,r=>r
 | _,_,_+1,.nil=>.nil
 | _,_,n+1,.cons _ t=>Vals.drop n t
theorem Vals.none_of:∀ {xs:List V} {us:List Value} {i:Nat},Vals xs us→xs[i]?=none→us[i]?=none:=fun {xs us i} r e=>by
 have h1:=r.length;have h2:xs.length≤i:=List.getElem?_eq_none_iff.mp e;exact List.getElem?_eq_none_iff.mpr (by omega)
noncomputable def RelO:Option V→Option Value→Prop
 | some v,some u=>RelV v u
 | none,none=>True
 | _,_=>False
noncomputable def KV{κ:Type}:List (κ×V)→List (κ×Value)→Prop:=Paired fun (p:κ×V) (q:κ×Value)=>p.1=q.1∧RelV p.2 q.2
noncomputable def kV:Key→V
 | .inl i=>.int i
 | .inr x=>.str x
inductive HO where
 | lst (xs:List V)
 | tup (xs:List V)
 | dK (kvs:List (Key×V)) | dT (kvs:List (List Key×V))
 | set (S:Int→Bool) (n:Nat)
 | ins (C dx:Addr) (fs:List (Str×V))
 | own (x:Addr)
 | xd (fs:List (Str×V))
 | met (f x:Addr)
 | rng (lo hi:Int)
 | frz (o:Obj) (u:HO)
 | tbl (ps:Array Value)
 | ext (φ:Heap→Prop)
abbrev Hp:=Addr→Option HO
noncomputable def upd(H:Hp)(a:Addr)(o:HO):Hp:=fun b=>if b=a then some o else H b
theorem a0d{H:Hp}{a:Addr}{o:HO}:upd H a o a=some o:=by unfold upd;rw[if_pos rfl]
theorem a0m{H:Hp}{a b:Addr}{o:HO}(h:b≠a):upd H a o b=H b:=by unfold upd;rw[if_neg h]
theorem b6j{H:Hp}{a:Addr}{o u:HO}:upd (upd H a o) a u=upd H a u:=by
 funext b;unfold upd;split<;>rfl
theorem a0t{H:Hp}{a b:Addr}{o:HO}(h:H a=some o)(h':H b=none):a≠b:=by
 intro e;subst e;rw[h] at h';cases h'
section
variable (P:Program) (w:World)
noncomputable def a5b(H:Hp)(h:Heap)(a:Addr):HO→Prop
 | .lst xs=>xs.length≤sizeLine∧∃ (its:List Value) (n:Nat),Vals xs its∧h.get? a=some { cls:=.type "list",data:=.seq its.toArray n }
 | .tup xs=>xs.length≤sizeLine∧∃ its:List Value,Vals xs its∧IsTup h a its.toArray
 | .dK kvs=>kvs.length≤sizeLine∧(a == sysModules)=false∧∃ vs,KV kvs vs∧h.DictOf (c3a P w) a vs
 | .dT kvs=>kvs.length≤sizeLine∧(a == sysModules)=false∧∃ xs:List (List Key×Addr×Value),
     Paired (fun (p:List Key×V) (q:List Key×Addr×Value)=>p.1=q.1∧H q.2.1=some (.tup (p.1.map kV))∧RelV p.2 q.2.2) kvs xs∧
     ∃ o es ep,h.get? a=some o∧o.ExactDict∧o.data=.dict es ep∧es.toList=xs.map (entryOfKey (tupleKind (c3a P w)))∧(xs.map (·.1)).Nodup
 | .set S n=>h.SetOf (intKind P w) a S n
 | .ins C dx fs=>H dx=some (.own a)∧fs.length≤1000∧dx≠a∧h.get? a=some (c9f C dx)∧
     ∃ mA,h.Ns1 dx mA∧(∀ f,RelO (fs.lookup f) (mA f))∧PySem.Within mA (fs.map (·.1))
 | .own _=>∃ o,h.get? a=some o
 | .xd fs=>∃ mA,h.Ns1 a mA∧∀ f,RelO (fs.lookup f) (mA f)
 | .rng lo hi=>∃ t u v,h.get? a=some { cls:=.type "range",data:=.fields #[.int lo t,.int hi u,.int 1 v] }
 | .frz o u=>h.get? a=some o∧a5b H h a u
 | .tbl ps=>h.get? a=some { cls:=.none,data:=.fields ps }
 | .met f x=>h.get? a=some (PySem.W.methodObj (.ref f) (.ref x))
 | .ext φ=>φ h∧(∃ o,h.get? a=some o)∧∀ h1 h2:Heap,φ h1→(∀ o,h1.get? a=some o→h2.get? a=some o)→φ h2
noncomputable def HOk(H:Hp)(h:Heap):Prop:=∀ a o,H a=some o→a5b P w H h a o
end
section
variable {P:Program} {w:World} {H H':Hp} {h h':Heap} {a:Addr} {o:HO}
theorem a5b.lt(x:a5b P w H h a o):a<h.objs.size:=by
 cases o with
 | lst xs=>obtain⟨_,_,_,_,e⟩:=x;exact Heap.lt_size e
 | tup xs=>obtain⟨_,_,_,p⟩:=x;exact p.lt
 | dK kvs=>obtain⟨_,_,_,_,o,_,_,e,_⟩:=x;exact Heap.lt_size e
 | dT kvs=>obtain⟨_,_,_,_,o,_,_,e,_⟩:=x;exact Heap.lt_size e
 | set S n=>obtain⟨o,_,_,_,e,_⟩:=x;exact Heap.lt_size e
 | ins C dx fs=>obtain⟨_,_,_,e,_⟩:=x;exact Heap.lt_size e
 | own y=>obtain⟨_,e⟩:=x;exact Heap.lt_size e
 | xd fs=>obtain⟨_,⟨_,_,_,e,_⟩,_⟩:=x;exact Heap.lt_size e
 | rng lo hi=>obtain⟨_,_,_,e⟩:=x;exact Heap.lt_size e
 | frz ob u=>obtain⟨e,_⟩:=x;exact Heap.lt_size e
 | tbl ps=>exact Heap.lt_size (show h.get? a=some _ from x)
 | met f y=>exact Heap.lt_size (show h.get? a=some _ from x)
 | ext φ=>obtain⟨_,⟨_,e⟩,_⟩:=x;exact Heap.lt_size e
theorem Paired.mapP{α β:Type}{F G:α→β→Prop}:∀ {l₁:List α} {l₂:List β},Paired F l₁ l₂→(∀ a b,F a b→G a b)→Paired G l₁ l₂
 | _,_,.nil,_=>.nil
 | _,_,.cons r t,f=>.cons (f _ _ r) (Paired.mapP t f)
theorem a5b.stay(x:a5b P w H h a o)(k:∀ b u,(b=a∨H b=some (.own a))→h.get? b=some u→h'.get? b=some u)(ho:∀ b,H b=some (.own a)→H' b=some (.own a))(ht:∀ b xs,H b=some (.tup xs)→H' b=some (.tup xs)):a5b P w H' h' a o:=by
 induction o with
 | lst xs=>obtain⟨z,its,n,r,e⟩:=x;exact⟨z,its,n,r,k _ _ (.inl rfl) e⟩
 | tup xs=>obtain⟨z,its,r,ob,e,c⟩:=x;exact⟨z,its,r,ob,k _ _ (.inl rfl) e,c⟩
 | dK kvs=>obtain⟨z,y,vs,r,ob,es,ep,e,c⟩:=x;exact⟨z,y,vs,r,ob,es,ep,k _ _ (.inl rfl) e,c⟩
 | dT kvs=>
   obtain⟨z,y,xs,r,ob,es,ep,e,c⟩:=x;exact⟨z,y,xs,Paired.mapP r fun p q z=>⟨z.1,ht _ _ z.2.1,z.2.2⟩,ob,es,ep,k _ _ (.inl rfl) e,c⟩
 | set S n=>obtain⟨ob,es,ep,t,e,c⟩:=x;exact⟨ob,es,ep,t,k _ _ (.inl rfl) e,c⟩
 | ins C dx fs=>
   obtain⟨d,z,ne,e,mA,⟨od,es,ep,e2,c⟩,r⟩:=x;exact⟨ho _ d,z,ne,k _ _ (.inl rfl) e,mA,⟨od,es,ep,k _ _ (.inr d) e2,c⟩,r⟩
 | own y=>obtain⟨ob,e⟩:=x;exact⟨ob,k _ _ (.inl rfl) e⟩
 | xd fs=>obtain⟨mA,⟨od,es,ep,e,c⟩,r⟩:=x;exact⟨mA,⟨od,es,ep,k _ _ (.inl rfl) e,c⟩,r⟩
 | rng lo hi=>obtain⟨t,u,v,e⟩:=x;exact⟨t,u,v,k _ _ (.inl rfl) e⟩
 | frz ob u ih=>obtain⟨e,q⟩:=x;exact⟨k _ _ (.inl rfl) e,ih q⟩
 | tbl ps=>
   have e:h.get? a=some { cls:=.none,data:=.fields ps }:=x;show h'.get? a=some { cls:=.none,data:=.fields ps };exact k a _ (.inl rfl) e
 | met f y=>
   have e:h.get? a=some (PySem.W.methodObj (.ref f) (.ref y)):=x;show h'.get? a=some (PySem.W.methodObj (.ref f) (.ref y));exact k a _ (.inl rfl) e
 | ext φ=>obtain⟨p,⟨o,e⟩,st⟩:=x;exact⟨st _ _ p fun o q=>k _ _ (.inl rfl) q,⟨o,k _ _ (.inl rfl) e⟩,st⟩
theorem HOk.lt(x:HOk P w H h)(e:H a=some o):a<h.objs.size:=(x a o e).lt
theorem HOk.fresh(x:HOk P w H h)(e:h.objs.size≤a):H a=none:=by
 cases q:H a with
 | none=>rfl
 | some u=>exact absurd (c7b (x.lt q) e) (d0g _)
theorem HOk.kept(x:HOk P w H h)(k:∀ b u,h.get? b=some u→h'.get? b=some u):HOk P w H h':=fun a o e=>
 (x a o e).stay (fun b u _ q=>k b u q) (fun _ q=>q) fun _ _ q=>q
theorem HOk.laid(x:HOk P w H h)(k:∀ b u,h.get? b=some u→h'.get? b=some u)(hp:h.objs.size≤a)(new:a5b P w (upd H a o) h' a o):HOk P w (upd H a o) h':=fun b u e=>by
 have hn:=x.fresh hp;by_cases hb:b=a
 · subst hb;rw[a0d] at e;cases e;exact new
 · rw[a0m hb] at e;exact (x b u e).stay (fun c v _ q=>k c v q) (fun c q=>by rw[a0m (a0t q hn)];exact q) fun c xs q=>by rw[a0m (a0t q hn)];exact q
end
noncomputable def Rd(H:Hp)(a:Addr)(u:HO):Prop:=H a=some u∨∃ o,H a=some (.frz o u)
theorem Rd.ok{P:Program}{w:World}{H:Hp}{h:Heap}{a:Addr}{u:HO}(r:Rd H a u)(x:HOk P w H h):a5b P w H h a u:=by
 rcases r with r | ⟨o,r⟩
 · exact x a u r
 · obtain⟨_,q⟩:=x a _ r;exact q
noncomputable def Mut:Option HO→Prop
 | some (.lst _)=>True
 | some (.dK _)=>True
 | some (.dT _)=>True
 | some (.set _ _)=>True
 | some (.ins _ _ _)=>True
 | some (.ext _)=>True
 | _=>False
section
variable {P:Program} {w:World} {H:Hp} {h h':Heap} {x e:Addr} {o':HO}
theorem HOk.write(ok:HOk P w H h)(mu:Mut (H x))(he:e=x∨H e=some (.own x))(k:∀ b u,b≠e→h.get? b=some u→h'.get? b=some u)(heo:∃ u,h'.get? e=some u)(new:a5b P w (upd H x o') h' x o'):HOk P w (upd H x o') h':=fun b u q=>by
 have nown:∀ c y,H c=some (.own y)→c≠x:=fun c y r z=>by subst z;rw[r] at mu;exact mu
 have ntup:∀ c xs,H c=some (.tup xs)→c≠x:=fun c xs r z=>by subst z;rw[r] at mu;exact mu
 by_cases hb:b=x
 · subst hb;rw[a0d] at q;cases q;exact new
 · rw[a0m hb] at q;by_cases hbe:b=e
   · have q':H b=some (.own x):=by
       rcases he with z | z
       · exact absurd (hbe.trans z) hb
       · rw[hbe];exact z
     rw[q] at q';cases q';obtain⟨v,hv⟩:=heo;exact⟨v,by rw[hbe];exact hv⟩
   · refine (ok b u q).stay (fun c v hc r=>k c v ?_ r) (fun c r=>by rw[a0m (nown c b r)];exact r) fun c xs r=>by rw[a0m (ntup c xs r)];exact r
     rcases hc with rfl | hc
     · exact hbe
     · rintro rfl;rcases he with z | z
       · exact nown c b hc z
       · rw[hc] at z;cases z;exact hb rfl
end
structure Un(fs ex:List Addr)(H H':Hp)(h h':Heap):Prop where
 keep:∀ b o,h.get? b=some o→H b=none→b∉fs→b∉ex→h'.get? b=some o
 slot:∀ b o,h.get? b=some o→H b=none→b∈fs→b∉ex→∃ sl,h'.get? b=some { o with slots:=sl }
 free:∀ b o,h.get? b=some o→H b=none→b∉ex→H' b=none
 there:∀ b o,h.get? b=some o→b∉ex→∃ o',h'.get? b=some o'
 tups:∀ b xs,H b=some (.tup xs)→H' b=some (.tup xs)
 frzs:∀ b o u,H b=some (.frz o u)→H' b=some (.frz o u)
 tbls:∀ b ps,H b=some (.tbl ps)→∃ more,H' b=some (.tbl (ps++more))
section
variable {fs fs' ex ex':List Addr} {H H1 H2:Hp} {h h1 h2 h':Heap} {a x e:Addr} {o:HO}
theorem Un.any(u:Un fs ex H H1 h h1){b:Addr}{ob:Obj}(q:h.get? b=some ob)(n:H b=none)(hx:b∉ex):∃ sl,h1.get? b=some { ob with slots:=sl }:=by
 by_cases hb:b∈fs
 · exact u.slot b ob q n hb hx
 · exact⟨ob.slots,u.keep b ob q n hb hx⟩
theorem Un.trans(a:Un fs ex H H1 h h1)(b:Un fs ex H1 H2 h1 h2):Un fs ex H H2 h h2 where
 keep:=fun c ob q n hc hx=>b.keep c ob (a.keep c ob q n hc hx) (a.free c ob q n hx) hc hx
 slot:=fun c ob q n hc hx=>by
   obtain⟨sl,e1⟩:=a.slot c ob q n hc hx;obtain⟨sl',e2⟩:=b.slot c _ e1 (a.free c ob q n hx) hc hx;exact⟨sl',e2⟩
 free:=fun c ob q n hx=>by
   obtain⟨o',e1⟩:=a.there c ob q hx;exact b.free c o' e1 (a.free c ob q n hx) hx
 there:=fun c ob q hx=>by
   obtain⟨o',e1⟩:=a.there c ob q hx;exact b.there c o' e1 hx
 tups:=fun c xs q=>b.tups c xs (a.tups c xs q)
 frzs:=fun c ob xs q=>b.frzs c ob xs (a.frzs c ob xs q)
 tbls:=fun c ps q=>by
   obtain⟨m1,e1⟩:=a.tbls c ps q;obtain⟨m2,e2⟩:=b.tbls c _ e1;exact⟨m1++m2,by rw[e2,Array.append_assoc]⟩
theorem Un.kept(k:∀ b u,h.get? b=some u→h'.get? b=some u):Un fs ex H H h h':=
 ⟨fun b ob q _ _ _=>k b ob q,fun b ob q _ _ _=>⟨ob.slots,k b ob q⟩,fun _ _ _ n _=>n,fun b ob q _=>⟨ob,k b ob q⟩,fun _ _ q=>q,fun _ _ _ q=>q,fun _ ps q=>⟨#[],by rw[q];simp⟩⟩
theorem Un.refl:Un fs ex H H h h:=Un.kept fun _ _ q=>q
theorem Un.laid(k:∀ b u,h.get? b=some u→h'.get? b=some u)(hp:h.objs.size≤a)(hn:H a=none):Un fs ex H (upd H a o) h h' where
 keep:=fun b u q _ _ _=>k b u q
 slot:=fun b u q _ _ _=>⟨u.slots,k b u q⟩
 free:=fun b u q n _=>by rw[a0m (c6l (c7b (Heap.lt_size q) hp))];exact n
 there:=fun b u q _=>⟨u,k b u q⟩
 tups:=fun b xs q=>by rw[a0m (a0t q hn)];exact q
 frzs:=fun b u xs q=>by rw[a0m (a0t q hn)];exact q
 tbls:=fun b ps q=>⟨#[],by rw[a0m (a0t q hn),q];simp⟩
theorem Un.write(mu:Mut (H x))(he:e=x∨H e=some (.own x))(k:∀ b u,b≠e→h.get? b=some u→h'.get? b=some u)(heo:∃ u,h'.get? e=some u):Un fs ex H (upd H x o) h h':=by
 have hx:∀ b,H b=none→b≠x:=fun b n z=>by subst z;rw[n] at mu;exact mu
 have hb:∀ b,H b=none→b≠e:=fun b n z=>by
   subst z;rcases he with r | r
   · exact hx b n r
   · rw[n] at r;cases r
 have hm:∀ b u,H b=some u→¬ Mut (some u)→b≠x:=fun b u q nm z=>by subst z;rw[q] at mu;exact nm mu
 refine⟨fun b u q n _ _=>k b u (hb b n) q,fun b u q n _ _=>⟨u.slots,k b u (hb b n) q⟩,fun b u q n _=>by rw[a0m (hx b n)];exact n,fun b u q _=>?_,
   fun b xs q=>by rw[a0m (hm b _ q fun z=>z)];exact q,fun b u xs q=>by rw[a0m (hm b _ q fun z=>z)];exact q,fun b ps q=>⟨#[],by rw[a0m (hm b _ q fun z=>z),q];simp⟩⟩
 by_cases hbe:b=e
 · subst hbe;exact heo
 · exact⟨u,k b u hbe q⟩
end
noncomputable def trk(h:Heap)(H:Hp):List Addr:=(c7s h.objs.size).filter fun a=>(H a).isSome
noncomputable def hidT(h:Heap)(H:Hp):Heap:=PySem.W.hideAll h (trk h H)
theorem c4c(h:Heap)(H:Hp):(hidT h H).objs.size=h.objs.size:=PySem.W.hideAll_size _ _
theorem hidT_get{h:Heap}{H:Hp}{b:Addr}{o:Obj}(e:h.get? b=some o)(n:H b=none):(hidT h H).get? b=some o:=
 PySem.W.hideAll_get _ e fun hm=>by
   have q:(H b).isSome=true:=(List.mem_filter.mp hm).2;rw[n] at q;simp at q
theorem of_hidT{h:Heap}{H:Hp}{b:Addr}{o:Obj}(e:(hidT h H).get? b=some o):h.get? b=some o∧H b=none:=by
 have e':h.get? b=some o:=PySem.W.of_hideAll (trk h H) e;refine⟨e',?_⟩;cases q:H b with
 | none=>rfl
 | some x=>
   have hm:b∈trk h H:=List.mem_filter.mpr ⟨c9t.mpr (Heap.lt_size e'),by simp[q]⟩;have z:(hidT h H).get? b=none:=PySem.W.hideAll_none (trk h H) hm;rw[z] at e;cases e
noncomputable def allNews(g h:Heap)(L:Addr):List (Addr×Obj):=(c7s h.objs.size).filterMap fun a=>if a=L∨(g.get? a).isSome=true then none else (h.get? a).map fun o=>(a,o)
noncomputable def rest(g h:Heap)(L d:Addr):List (Addr×Obj):=(allNews g h L).filter fun p=>decide (p.1≠d)
structure Mod(K:c5k)(mg:Str→Option Value)(base:Heap):Prop where
 kin:K.In base
 glob:base.Ns mainGlobals mg
 blt:∃ mb,base.Ns builtinsNs mb∧∀ x:Str,x ≠ "__name__" → mb x=bootBuiltins x
 nolimit:base.NoLimit
structure Cx where
 prog:Program
 w:World
 K:c5k
 mg:Str→Option Value
 base:Heap
 A:Around
 N:List Str
 s₀:Shared
 H₀:Hp
 env:Env
 outer:List Env
 stack:List Env
 ex:List Addr
 fn:Str→Bool
 calm:Bool
 pn:List (Addr×Obj)
 xe:Value→Shared→Prop
noncomputable def frs(l:List Env):List Addr:=l.filterMap (·.frame)
abbrev Cx.fs(X:Cx):List Addr:=frs X.outer
noncomputable def Vis(sc:Scope)(x:Str):Prop:=sc.names.lookup x=some .local∨sc.names.lookup x=some .cell∨sc.names.lookup x=some .free
noncomputable def Loc(sc:Scope)(x:Str):Prop:=sc.names.lookup x=some .local∨sc.names.lookup x=some .cell
noncomputable def Look(env:Env)(h:Heap)(m:Str→Option Value)(x:Str)(u:Value):Prop:=
 (env.kindOf x=some .local∧m x=some u)∨((env.kindOf x=some .cell∨env.kindOf x=some .free)∧∃ c,env.cells.lookup x=some c∧h.IsCell c (some u))
structure Cx.Ok(X:Cx):Prop where
 mod:Mod X.K X.mg X.base
 kind:X.env.scope.kind=.function
 glob:X.env.globals=mainGlobals
 blt:X.env.builtins=builtinsNs
 above:X.s₀.heap.objs.size≤X.env.locals
 inj:∀ x y c,X.env.cells.lookup x=some c→X.env.cells.lookup y=some c→x=y
 has:∀ x,(X.env.kindOf x=some .cell∨X.env.kindOf x=some .free)→∃ c,X.env.cells.lookup x=some c
 cab:∀ x c,X.fn x=true→X.env.cells.lookup x=some c→X.s₀.heap.objs.size≤c
 hd:X.calm=true→X.A.handled=none
 frames:X.A.frames=some X.stack
 stk:X.stack=X.outer∨(X.stack=X.env::X.outer∧X.env.frame=some X.env.locals)
 exf:∀ b∈X.ex,b≠X.env.locals∧∀ x c,X.env.cells.lookup x=some c→c≠b
 bs:∀ b o,X.base.get? b=some o→X.s₀.heap.get? b=some o∧X.H₀ b=none
 bsz:X.base.objs.size≤X.s₀.heap.objs.size
 noex:∀ b o,X.base.get? b=some o→b∉X.ex
 exfs:∀ b∈X.ex,b∉X.fs
 funs:X.s₀.heap.FunFrames X.base X.outer
 frf:∀ b∈X.fs,X.H₀ b=none
structure Inv(X:Cx)(pins:List (Addr×Obj))(σ:List (Option V))(H:Hp)(s:Shared):Prop where
 ok:X.Ok
 os:s.os=X.s₀.os
 bare:AllBare s.gens
 base:Un X.fs X.ex X.H₀ H X.s₀.heap s.heap
 loc:∃ m,s.heap.Ns X.env.locals m∧∀ (i:Nat) (x:Str) (v:V),X.N[i]?=some x→σ[i]?=some (some v)→Vis X.env.scope x→∃ u,RelV v u∧Look X.env s.heap m x u
 cell:∀ x c,X.env.cells.lookup x=some c→∃ v,s.heap.IsCell c v
 free:H X.env.locals=none
 freeC:∀ x c,X.env.cells.lookup x=some c→H c=none
 pin:∀ p∈X.pn++pins,s.heap.get? p.1=some p.2∧H p.1=none∧p.1≠X.env.locals∧p.1∉X.fs∧∀ v,p.2.data≠.cell v
 hok:HOk X.prog X.w H s.heap
 len:σ.length=X.N.length
section
variable {X:Cx} {pins:List (Addr×Obj)} {σ:List (Option V)} {H H':Hp} {s:Shared} {h':Heap}
theorem Cx.Ok.nofr(ok:X.Ok){b:Addr}{o:Obj}(e:X.base.get? b=some o):b∉X.fs:=fun hb=>by
 have:=(ok.funs.mem hb).1;rw[e] at this;cases this
theorem Inv.bs(I:Inv X pins σ H s):∀ b o,X.base.get? b=some o→s.heap.get? b=some o∧H b=none:=fun b o e=>
 ⟨I.base.keep b o (I.ok.bs b o e).1 (I.ok.bs b o e).2 (I.ok.nofr e) (I.ok.noex b o e),I.base.free b o (I.ok.bs b o e).1 (I.ok.bs b o e).2 (I.ok.noex b o e)⟩
theorem Inv.bk(I:Inv X pins σ H s):∀ b o,X.base.get? b=some o→s.heap.get? b=some o:=fun b o e=>(I.bs b o e).1
theorem Inv.mod(I:Inv X pins σ H s):Mod X.K X.mg X.base:=I.ok.mod
theorem Inv.kIn(I:Inv X pins σ H s):X.K.In s.heap:=I.ok.mod.kin.keeps I.bk
theorem Inv.lt(I:Inv X pins σ H s):X.env.locals<s.heap.objs.size:=let ⟨_,hn,_⟩:=I.loc;hn.lt
theorem Inv.sz(I:Inv X pins σ H s):X.s₀.heap.objs.size≤s.heap.objs.size:=c7w I.ok.above (c7r I.lt)
theorem Inv.nofs(I:Inv X pins σ H s){a:Addr}(h:s.heap.objs.size≤a):a∉X.fs:=fun hb=>by
 obtain⟨_,o,ho,_⟩:=I.ok.funs.mem hb;exact absurd (c7b (Heap.lt_size ho) (c7w I.sz h)) (d0g _)
theorem Inv.cne(I:Inv X pins σ H s):∀ x c,X.env.cells.lookup x=some c→c≠X.env.locals:=fun x c e z=>by
 obtain⟨v,o,ho,hd⟩:=I.cell x c e;obtain⟨m,⟨o',es,ep,ho',hd',_⟩,_⟩:=I.loc;rw[z,ho'] at ho;cases ho;rw[hd'] at hd;cases hd
theorem Inv.funs(I:Inv X pins σ H s):s.heap.FunFrames X.base X.outer:=by
 have all:∀ (l:List Env),(∀ b∈frs l,b∈X.fs)→X.s₀.heap.FunFrames X.base l→s.heap.FunFrames X.base l:=by
   intro l;induction l with
   | nil=>intro _ _;trivial
   | cons env r ih=>
     intro hs hl;obtain⟨hk,⟨L,o,hf,hn,ho,hd⟩,hr⟩:=hl;have hL:L∈X.fs:=hs L (by unfold frs;rw[List.filterMap_cons,hf];exact c9k);obtain⟨sl,e⟩:=I.base.slot L o ho (I.ok.frf L hL) hL fun z=>I.ok.exfs L z hL;exact⟨hk,⟨L,_,hf,hn,e,hd⟩,ih (fun b hb=>hs b (by unfold frs;rw[List.filterMap_cons,hf];exact c6w _ hb)) hr⟩
 exact all X.outer (fun _ hb=>hb) I.ok.funs
theorem Inv.stack(I:Inv X pins σ H s):s.heap.FunFrames X.base X.stack:=by
 rcases I.ok.stk with e | ⟨e,hf⟩
 · rw[e];exact I.funs
 · rw[e];obtain⟨m,hn,_⟩:=I.loc;refine .cons (by rw[I.ok.kind];decide) hf hn ?_ I.funs;exact Heap.get?_none_of_le (c7w I.ok.bsz I.ok.above)
theorem Inv.stkSub(I:Inv X pins σ H s):∀ b∈frs X.stack,b∈X.env.locals::X.fs:=fun b hb=>by
 rcases I.ok.stk with e | ⟨e,hf⟩
 · rw[e] at hb;exact c6w _ hb
 · rw[e] at hb;unfold frs at hb;rw[List.filterMap_cons,hf] at hb;exact hb
theorem Inv.stkFree(I:Inv X pins σ H s):∀ b∈frs X.stack,H b=none:=fun b hb=>by
 rcases c6f.mp (I.stkSub b hb) with e | hb
 · rw[e];exact I.free
 · obtain⟨_,o,ho,_⟩:=I.ok.funs.mem hb;exact I.base.free b o ho (I.ok.frf b hb) fun z=>I.ok.exfs b z hb
theorem Inv.step{g':Array GenState}{t':Nat}{d':Drawn}{ch:List Addr}(I:Inv X pins σ H s)(hch:∀ b∈ch,(b∈X.ex∨X.s₀.heap.objs.size≤b)∧b≠X.env.locals∧(∀ x c,X.env.cells.lookup x=some c→c≠b)∧∀ p∈X.pn++pins,p.1≠b)(keep:∀ b o,b≠X.env.locals→b∉X.fs→b∉ch→s.heap.get? b=some o→H b=none→h'.get? b=some o)(slot:∀ b o,b≠X.env.locals→b∈X.fs→b∉ch→s.heap.get? b=some o→H b=none→∃ sl,h'.get? b=some { o with slots:=sl })(free:∀ b o,b∉ch→s.heap.get? b=some o→H b=none→H' b=none)(there:∀ b o,b∉ch→s.heap.get? b=some o→∃ o',h'.get? b=some o')(tups:∀ b xs,H b=some (.tup xs)→H' b=some (.tup xs))(frzs:∀ b o u,H b=some (.frz o u)→H' b=some (.frz o u))(tbls:∀ b ps,H b=some (.tbl ps)→∃ more,H' b=some (.tbl (ps++more)))(ns:∀ m,s.heap.Ns X.env.locals m→h'.Ns X.env.locals m)(hok:HOk X.prog X.w H' h')(hg:AllBare g') :
   Inv X pins σ H' { s with heap:=h',gens:=g',drawn:=d',toks:=t' }:=by
 have neL:∀ b o,X.s₀.heap.get? b=some o→b≠X.env.locals:=fun b o e=>c6l (c7b (Heap.lt_size e) I.ok.above);have neC:∀ b o,X.s₀.heap.get? b=some o→b∉X.ex→b∉ch:=fun b o e hx hb=>by
   rcases (hch b hb).1 with z | z
   · exact hx z
   · exact absurd (c7b (Heap.lt_size e) z) (d0g _)
 have cellK:∀ x c,X.env.cells.lookup x=some c→∀ v,s.heap.IsCell c v→h'.IsCell c v:=fun x c e v ⟨o,ho,hd⟩=>by
   have nch:c∉ch:=fun z=>(hch c z).2.2.1 x c e rfl;by_cases hc:c∈X.fs
   · obtain⟨sl,q⟩:=slot c o (I.cne x c e) hc nch ho (I.freeC x c e);exact⟨_,q,hd⟩
   · exact⟨o,keep c o (I.cne x c e) hc nch ho (I.freeC x c e),hd⟩
 refine⟨I.ok,I.os,hg,⟨fun b o e n hb hx=>?_,fun b o e n hb hx=>?_,fun b o e n hx=>?_,fun b o e hx=>?_,fun b xs e=>tups b xs (I.base.tups b xs e),fun b o xs e=>frzs b o xs (I.base.frzs b o xs e),fun b ps e=>?_⟩,?_,fun x c e=>?_,?_,fun x c e=>?_,fun p hp=>?_,hok,I.len⟩
 · exact keep b o (neL b o e) hb (neC b o e hx) (I.base.keep b o e n hb hx) (I.base.free b o e n hx)
 · obtain⟨sl,e1⟩:=I.base.slot b o e n hb hx;obtain⟨sl',e2⟩:=slot b _ (neL b o e) hb (neC b o e hx) e1 (I.base.free b o e n hx);exact⟨sl',e2⟩
 · obtain⟨o',e1⟩:=I.base.there b o e hx;exact free b o' (neC b o e hx) e1 (I.base.free b o e n hx)
 · obtain⟨o',e1⟩:=I.base.there b o e hx;exact there b o' (neC b o e hx) e1
 · obtain⟨m1,e1⟩:=I.base.tbls b ps e;obtain⟨m2,e2⟩:=tbls b _ e1;exact⟨m1++m2,by rw[e2,Array.append_assoc]⟩
 · obtain⟨m,hn,hl⟩:=I.loc;refine⟨m,ns m hn,fun i x v e1 e2 e3=>?_⟩;obtain⟨u,r,l⟩:=hl i x v e1 e2 e3;refine⟨u,r,?_⟩;rcases l with l | ⟨k,c,e,z⟩
   · exact .inl l
   · exact .inr ⟨k,c,e,cellK x c e _ z⟩
 · obtain⟨v,z⟩:=I.cell x c e;exact⟨v,cellK x c e v z⟩
 · obtain⟨m,⟨o,_,_,ho,_⟩,_⟩:=I.loc;exact free _ o (fun z=>(hch _ z).2.1 rfl) ho I.free
 · obtain⟨v,o,ho,hd⟩:=I.cell x c e;exact free c o (fun z=>(hch c z).2.2.1 x c e rfl) ho (I.freeC x c e)
 · obtain⟨e,n,ne,nf,d⟩:=I.pin p hp;have nch:p.1∉ch:=fun z=>(hch p.1 z).2.2.2 p hp rfl;exact⟨keep p.1 p.2 ne nf nch e n,free p.1 p.2 nch e n,ne,nf,d⟩
theorem Inv.un{t':Nat}(I:Inv X pins σ H s)(u:Un X.fs [] H H' s.heap h')(hok:HOk X.prog X.w H' h'):Inv X pins σ H' { s with heap:=h',toks:=t' }:=by
 obtain⟨m,⟨o,es,ep,ho,r⟩,_⟩:=id I.loc;obtain⟨sl,hL⟩:=u.any ho I.free (by simp);exact I.step (g':=s.gens) (d':=s.drawn) (ch:=[]) (fun _ z=>nomatch z) (fun b o _ hb _ e n=>u.keep b o e n hb (by simp)) (fun b o _ hb _ e n=>u.slot b o e n hb (by simp)) (fun b o _ e n=>u.free b o e n (by simp)) (fun b o _ e=>u.there b o e (by simp)) u.tups u.frzs u.tbls (fun m' hm=>by
   obtain⟨o',es',ep',ho',r'⟩:=hm;rw[ho] at ho';cases ho';exact⟨_,es',ep',hL,r'⟩) hok I.bare
theorem Inv.call{g':Array GenState}{t':Nat}{d':Drawn}{ch:List Addr}(I:Inv X pins σ H s)(u:Un (frs X.stack) ch H H' s.heap h')(hok:HOk X.prog X.w H' h')(hg:AllBare g')(hch:∀ b∈ch,(b∈X.ex∨X.s₀.heap.objs.size≤b)∧b≠X.env.locals∧(∀ x c,X.env.cells.lookup x=some c→c≠b)∧∀ p∈X.pn++pins,p.1≠b) :
   Inv X pins σ H' { s with heap:=h',gens:=g',drawn:=d',toks:=t' }:=by
 obtain⟨m,⟨o,es,ep,ho,r⟩,_⟩:=id I.loc;obtain⟨sl,hL⟩:=u.any ho I.free fun z=>(hch _ z).2.1 rfl;exact I.step (ch:=ch) hch (fun b o hL hb hc e n=>u.keep b o e n (fun z=>(c6f.mp (I.stkSub b z)).elim hL hb) hc) (fun b o _ _ hc e n=>u.any e n hc) (fun b o hc e n=>u.free b o e n hc) (fun b o hc e=>u.there b o e hc) u.tups u.frzs u.tbls (fun m' hm=>by
   obtain⟨o',es',ep',ho',r'⟩:=hm;rw[ho] at ho';cases ho';exact⟨_,es',ep',hL,r'⟩) hok hg
theorem Inv.turned{t':Nat}{it:Addr}(I:Inv X pins σ H s)(k:∀ b o,b≠it→s.heap.get? b=some o→h'.get? b=some o)(hn:H it=none)(hL:it≠X.env.locals)(h1:it∈X.ex∨X.s₀.heap.objs.size≤it)(h2:∀ x c,X.env.cells.lookup x=some c→c≠it)(h3:∀ p∈X.pn++pins,p.1≠it):Inv X pins σ H { s with heap:=h',toks:=t' }:=by
 have nit:∀ b u,H b=some u→b≠it:=fun b u e z=>by rw[z,hn] at e;cases e
 refine I.step (g':=s.gens) (d':=s.drawn) (ch:=[it]) (fun b hb=>?_) (fun b o _ _ hc e _=>k b o (fun z=>hc (by simp[z])) e) (fun b o _ _ hc e _=>⟨o.slots,k b o (fun z=>hc (by simp[z])) e⟩) (fun _ _ _ _ n=>n)
   (fun b o hc e=>⟨o,k b o (fun z=>hc (by simp[z])) e⟩) (fun _ _ e=>e) (fun _ _ _ e=>e) (fun b ps e=>⟨#[],by rw[e];simp⟩) (fun m hm=>?_) (fun b u e=>?_) I.bare
 · have e:b=it:=by simpa using hb
   subst e;exact⟨h1,hL,h2,h3⟩
 · obtain⟨o,es,ep,ho,r⟩:=hm;exact⟨o,es,ep,k _ o (Ne.symm hL) ho,r⟩
 · refine (I.hok b u e).stay (fun c v hc q=>k c v ?_ q) (fun _ q=>q) fun _ _ q=>q;rcases hc with z | z
   · rw[z];exact nit b u e
   · exact nit c _ z
theorem Inv.tok(I:Inv X pins σ H s)(t:Nat):Inv X pins σ H { s with toks:=t }:=I.un (h':=s.heap) (t':=t) Un.refl I.hok
theorem Inv.kept{t':Nat}(I:Inv X pins σ H s)(k:∀ b u,s.heap.get? b=some u→h'.get? b=some u):Inv X pins σ H { s with heap:=h',toks:=t' }:=I.un (Un.kept k) (I.hok.kept k)
theorem Inv.laid{a:Addr}{o:HO}{t':Nat}(I:Inv X pins σ H s)(k:∀ b u,s.heap.get? b=some u→h'.get? b=some u)(hp:s.heap.objs.size≤a)(new:a5b X.prog X.w (upd H a o) h' a o) :
 Inv X pins σ (upd H a o) { s with heap:=h',toks:=t' }:=I.un (Un.laid k hp (I.hok.fresh hp)) (I.hok.laid k hp new)
theorem Inv.write{x e:Addr}{o:HO}{t':Nat}(I:Inv X pins σ H s)(mu:Mut (H x))(he:e=x∨H e=some (.own x))(k:∀ b u,b≠e→s.heap.get? b=some u→h'.get? b=some u)(heo:∃ u,h'.get? e=some u)(new:a5b X.prog X.w (upd H x o) h' x o):Inv X pins σ (upd H x o) { s with heap:=h',toks:=t' }:=I.un (Un.write mu he k heo) (I.hok.write mu he k heo new)
theorem Inv.pins_of{pins':List (Addr×Obj)}(I:Inv X pins σ H s)(h:∀ p∈pins',s.heap.get? p.1=some p.2∧H p.1=none∧p.1≠X.env.locals∧p.1∉X.fs∧∀ v,p.2.data≠.cell v):Inv X pins' σ H s:=
 ⟨I.ok,I.os,I.bare,I.base,I.loc,I.cell,I.free,I.freeC,fun p hp=>(c6q.mp hp).elim (fun z=>I.pin p (List.mem_append_left _ z)) (h p),I.hok,I.len⟩
theorem b8p{N:List Str}(hN:N.Nodup){i j:Nat}{x:Str}(a:N[i]?=some x)(b:N[j]?=some x):i=j:=by
 obtain⟨h1,e1⟩:=c5m.mp a;obtain⟨h2,e2⟩:=c5m.mp b;exact (List.getElem_inj hN).mp (e1.trans e2.symm)
theorem c1h{M:Model}{A:Around}{E:Value→Shared→Prop}{i:Nat}{x:Str}{v:V}{u:Value}{Q:Unit→Shared→Prop}(I:Inv X pins σ H s)(hN:X.N.Nodup)(hi:X.N[i]?=some x)(hx:Loc X.env.scope x)(r:RelV v u)(h:∀ s',Inv X pins (σ.set i (some v)) H s'→(∃ a,Heap.SameBut a s.heap s'.heap∧(a=X.env.locals∨X.env.cells.lookup x=some a))→Q () s')(hf:X.fn x=true∨X.env.scope.names.lookup x=some .local:=by first | exact .inl rfl | exact .inr rfl | assumption):wpAny M A (storeName X.env x u) Q E s:=by
 obtain⟨m,hn,hl⟩:=id I.loc;have hcls:(X.env.scope.kind == .class || (X.env.scope.kind == .module && X.env.locals != X.env.globals))=false:=by rw[I.ok.kind];rfl
 have hiσ:i<σ.length:=by rw[I.len];exact (c5m.mp hi).1
 have cne:=I.cne;have tracked:∀ {a:Addr} {h':Heap},(∃ o,s.heap.get? a=some o∧H a=none)→Heap.SameBut a s.heap h'→HOk X.prog X.w H h':=fun {a h'} ha hs b ob e=>by
   obtain⟨_,_,hfree⟩:=ha;refine (I.hok b ob e).stay (fun c w' hc q=>(hs.2 c ?_).trans q) (fun _ q=>q) fun _ _ q=>q;rintro rfl;rcases hc with rfl | hc
   · rw[hfree] at e;cases e
   · rw[hfree] at hc;cases hc
 rcases hx with hk | hk
 · refine wpAny_storeName_local hk hn (fun h' hn' hs=>?_) hcls;obtain⟨oL,_,_,hoL,_⟩:=id hn;refine h _ ⟨I.ok,I.os,I.bare,⟨fun b o e n hb hx=>?_,fun b o e n hb hx=>?_,I.base.free,fun b o e hx=>?_,I.base.tups,I.base.frzs,I.base.tbls⟩,⟨_,hn',fun j y v' e1 e2 e3=>?_⟩,fun y c e=>?_,I.free,I.freeC,fun p hp=>?_,tracked ⟨oL,hoL,I.free⟩ hs,by simpa using I.len⟩ ⟨_,hs,.inl rfl⟩
   · exact (hs.2 b (c6l (c7b (Heap.lt_size e) I.ok.above))).trans (I.base.keep b o e n hb hx)
   · obtain⟨sl,e1⟩:=I.base.slot b o e n hb hx;exact⟨sl,(hs.2 b (c6l (c7b (Heap.lt_size e) I.ok.above))).trans e1⟩
   · obtain⟨o',e1⟩:=I.base.there b o e hx;exact⟨o',(hs.2 b (c6l (c7b (Heap.lt_size e) I.ok.above))).trans e1⟩
   · by_cases hj:j=i
     · subst hj;rw[hi] at e1;cases e1;rw[List.getElem?_set_self hiσ] at e2;cases e2;exact⟨u,r,.inl ⟨hk,by simp⟩⟩
     · rw[List.getElem?_set_ne (Ne.symm hj)] at e2;obtain⟨u',r',q⟩:=hl j y v' e1 e2 e3;refine⟨u',r',?_⟩;rcases q with⟨k,e⟩ | ⟨k,c,e,z⟩
       · refine .inl ⟨k,?_⟩;have:y≠x:=fun e=>hj (b8p hN e1 (e ▸ hi));simp[this,e]
       · exact .inr ⟨k,c,e,z.sameBut hs (cne y c e)⟩
   · obtain⟨w',z⟩:=I.cell y c e;exact⟨w',z.sameBut hs (cne y c e)⟩
   · obtain⟨e,n,ne,nf,d⟩:=I.pin p hp;exact⟨(hs.2 p.1 ne).trans e,n,ne,nf,d⟩
 · have hfn:X.fn x=true:=by
     rcases hf with z | z
     · exact z
     · rw[z] at hk;cases hk
   obtain⟨c,hc⟩:=I.ok.has x (.inl hk);obtain⟨w',z⟩:=I.cell x c hc;refine wpAny_storeName_cell I.ok.kind hk hc z (fun h' hc' hs=>?_);obtain⟨oc,hoc,hocd⟩:=id z;refine h { s with heap:=h' } ⟨I.ok,I.os,I.bare,⟨fun b o e n hb hx=>?_,fun b o e n hb hx=>?_,I.base.free,fun b o e hx=>?_,I.base.tups,I.base.frzs,I.base.tbls⟩,⟨m,hn.sameBut hs (Ne.symm (cne x c hc)),fun j y v' e1 e2 e3=>?_⟩,fun y c' e=>?_,I.free,I.freeC,fun p hp=>?_,tracked ⟨oc,hoc,I.freeC x c hc⟩ hs,by simpa using I.len⟩ ⟨c,hs,.inr hc⟩
   · exact (hs.2 b (c6l (c7b (Heap.lt_size e) (I.ok.cab x c hfn hc)))).trans (I.base.keep b o e n hb hx)
   · obtain⟨sl,e1⟩:=I.base.slot b o e n hb hx;exact⟨sl,(hs.2 b (c6l (c7b (Heap.lt_size e) (I.ok.cab x c hfn hc)))).trans e1⟩
   · obtain⟨o',e1⟩:=I.base.there b o e hx;exact⟨o',(hs.2 b (c6l (c7b (Heap.lt_size e) (I.ok.cab x c hfn hc)))).trans e1⟩
   · by_cases hj:j=i
     · subst hj;rw[hi] at e1;cases e1;rw[List.getElem?_set_self hiσ] at e2;cases e2;exact⟨u,r,.inr ⟨.inl hk,c,hc,hc'⟩⟩
     · rw[List.getElem?_set_ne (Ne.symm hj)] at e2;obtain⟨u',r',q⟩:=hl j y v' e1 e2 e3;refine⟨u',r',?_⟩;rcases q with q | ⟨k,c',e,z'⟩
       · exact .inl q
       · refine .inr ⟨k,c',e,z'.sameBut hs ?_⟩;rintro rfl;exact hj (b8p hN e1 (I.ok.inj _ _ _ e hc ▸ hi))
   · by_cases hcc:c'=c
     · subst hcc;exact⟨_,hc'⟩
     · obtain⟨w2,z2⟩:=I.cell y c' e;exact⟨w2,z2.sameBut hs hcc⟩
   · obtain⟨e,n,ne,nf,d⟩:=I.pin p hp;refine⟨(hs.2 p.1 ?_).trans e,n,ne,nf,d⟩;intro q;rw[q,hoc] at e;have q':oc=p.2:=c6e.inj e;exact d w' (by rw[← q'];exact hocd)
theorem a5c{M:Model}{A:Around}{E:Value→Shared→Prop}{i:Nat}{x:Str}{v:V}{u:Value}{Q:Unit→Shared→Prop}(I:Inv X pins σ H s)(hN:X.N.Nodup)(hi:X.N[i]?=some x)(hx:Loc X.env.scope x)(r:RelV v u)(h:∀ s',Inv X pins (σ.set i (some v)) H s'→Q () s')(hf:X.fn x=true∨X.env.scope.names.lookup x=some .local:=by first | exact .inl rfl | exact .inr rfl | assumption):wpAny M A (storeName X.env x u) Q E s:=
 c1h I hN hi hx r (fun s' I' _=>h s' I') hf
theorem Inv.call'{s':Shared}{ch:List Addr}(I:Inv X pins σ H s)(ho:s'.os=s.os)(u:Un (frs X.stack) ch H H' s.heap s'.heap)(hok:HOk X.prog X.w H' s'.heap)(hg:AllBare s'.gens)(hch:∀ b∈ch,(b∈X.ex∨X.s₀.heap.objs.size≤b)∧b≠X.env.locals∧(∀ x c,X.env.cells.lookup x=some c→c≠b)∧∀ p∈X.pn++pins,p.1≠b):Inv X pins σ H' s':=by
 obtain⟨h',g',d',t',o'⟩:=s';have e:o'=s.os:=ho;subst e;exact I.call (g':=g') (t':=t') (d':=d') u hok hg hch
end
abbrev XK:=Value→Option Addr→Hp→Prop
abbrev St:=List (Option V)
abbrev VK:=V→Hp→Prop
abbrev TE:=St→Hp→VK→Prop
abbrev TT:=St→Hp→(Bool→Hp→Prop)→Prop
abbrev TA:=St→Hp→(List V→Hp→Prop)→Prop
structure Ends where
 nx:St→Hp→Prop
 rt:VK
 bk:St→Hp→Prop:=fun _ _=>False
 ct:St→Hp→Prop:=fun _ _=>False
abbrev TS:=Ends→St→Hp→Prop
noncomputable def EP(X:Cx)(pins:List (Addr×Obj))(σ:St)(Q:VK)(u:Value)(s':Shared):Prop:=∃ v H',Inv X pins σ H' s'∧RelV v u∧Q v H'
noncomputable def TP(X:Cx)(pins:List (Addr×Obj))(σ:St)(Q:Bool→Hp→Prop)(b:Bool)(s':Shared):Prop:=∃ H',Inv X pins σ H' s'∧Q b H'
noncomputable def AP(X:Cx)(pins:List (Addr×Obj))(σ:St)(Q:List V→Hp→Prop)(us:List Value)(s':Shared):Prop:=∃ vs H',Inv X pins σ H' s'∧Vals vs us∧Q vs H'
noncomputable def SP(X:Cx)(pins:List (Addr×Obj))(D:Ends)(f:Flow)(s':Shared):Prop:=
 match f with
 | .next=>∃ σ' H',Inv X pins σ' H' s'∧D.nx σ' H'
 | .brk=>∃ σ' H',Inv X pins σ' H' s'∧D.bk σ' H'
 | .cont=>∃ σ' H',Inv X pins σ' H' s'∧D.ct σ' H'
 | .ret u=>∃ v σ' H',Inv X pins σ' H' s'∧RelV v u∧D.rt v H'
noncomputable def PE(X:Cx)(e:Expr)(t:TE):Prop:=
 ∀ (pins:List (Addr×Obj)) (s:Shared) (σ:St) (H:Hp) (Q:VK),Inv X pins σ H s→t σ H Q→wpAny (model X.prog X.w) X.A (eval e X.env) (EP X pins σ Q) X.xe s
noncomputable def PT(X:Cx)(e:Expr)(t:TT):Prop:=
 ∀ (pins:List (Addr×Obj)) (s:Shared) (σ:St) (H:Hp) (Q:Bool→Hp→Prop),Inv X pins σ H s→t σ H Q→wpAny (model X.prog X.w) X.A (isTrue e X.env (eval e X.env)) (TP X pins σ Q) X.xe s
noncomputable def PW(X:Cx)(e:Expr)(t:TT):Prop:=
 ∀ (whole:Sem Value) (pins:List (Addr×Obj)) (s:Shared) (σ:St) (H:Hp) (Q:Bool→Hp→Prop),Inv X pins σ H s→t σ H Q→wpAny (model X.prog X.w) X.A (isTrue e X.env whole) (TP X pins σ Q) X.xe s
theorem PW.pt{X:Cx}{e:Expr}{t:TT}(h:PW X e t):PT X e t:=h _
noncomputable def PA(X:Cx)(es:List Expr)(t:TA):Prop:=
 ∀ (pos:Pos) (pins:List (Addr×Obj)) (s:Shared) (σ:St) (H:Hp) (Q:List V→Hp→Prop),Inv X pins σ H s→t σ H Q→wpAny (model X.prog X.w) X.A (spliced (backTo pos (starEach es X.env))) (AP X pins σ Q) X.xe s
noncomputable def PS(X:Cx)(st:Stmt)(t:TS):Prop:=
 ∀ (pins:List (Addr×Obj)) (s:Shared) (σ:St) (H:Hp) (D:Ends),Inv X pins σ H s→t D σ H→wpAny (model X.prog X.w) X.A (exec st X.env) (SP X pins D) X.xe s
noncomputable def PSs(X:Cx)(st:List Stmt)(t:TS):Prop:=
 ∀ (pins:List (Addr×Obj)) (s:Shared) (σ:St) (H:Hp) (D:Ends),Inv X pins σ H s→t D σ H→wpAny (model X.prog X.w) X.A (execs st X.env) (SP X pins D) X.xe s
theorem thn{α:Type}{t:Sem α}{Q Q':α→Shared→Prop}{M:Model}{A:Around}{E:Value→Shared→Prop}{s:Shared}(h:wpAny M A t Q E s)(hQ:∀ a s,Q a s→Q' a s):wpAny M A t Q' E s:=wpAny_mono h hQ fun _ _ x=>x
section
variable {X:Cx}
noncomputable def tVar(i:Nat):TE:=fun σ H Q=>∃ v,σ[i]?=some (some v)∧Q v H
noncomputable def tC(v:V):TE:=fun _ H Q=>Q v H
theorem pe_var{i:Nat}{x:Str}{pos:Pos}(hN:X.N[i]?=some x)(hv:Vis X.env.scope x)(hd:(x == ("__debug__" : Str))=false:=by decide)(hcd:(x == ("__classdict__" : Str))=false:=by decide):PE X (.Name x pos) (tVar i):=by
 intro pins s σ H Q I h;obtain⟨v,e,h⟩:=h;obtain⟨m,hn,hl⟩:=I.loc;obtain⟨u,r,l⟩:=hl i x v hN e hv;have fin:EP X pins σ Q u s:=⟨v,H,I,r,h⟩
 rcases l with⟨hk,hm⟩ | ⟨hk,c,hc,hcell⟩
 · exact wpAny_Name (wpAny_loadName_local I.ok.kind hk hn hm fin) hd
 · rcases hk with hk | hk
   · exact wpAny_Name (wpAny_loadName_cell I.ok.kind hk hc hcell fin) hd
   · exact wpAny_Name (wpAny_loadName_free I.ok.kind hk hc hcell fin hcd) hd
theorem pe_int{i j pos}:PE X (.Constant (.int i) j pos) (tC (.int i)):=fun _ _ _ H _ I h=>wpAny_Constant_int ⟨.int i,H,I.tok _,⟨_,rfl⟩,h⟩
theorem pe_bl{b j pos}:PE X (.Constant (.bool b) j pos) (tC (.bl b)):=fun _ _ _ H _ I h=>Constant_bool ⟨.bl b,H,I,rfl,h⟩
theorem pe_non{j pos}:PE X (.Constant .none j pos) (tC .non):=fun _ _ _ H _ I h=>Constant_none ⟨.non,H,I,rfl,h⟩
theorem pe_str{x j pos}:PE X (.Constant (.str x) j pos) (tC (.str x)):=fun _ _ _ H _ I h=>Calls.Constant_str ⟨.str x,H,I.tok _,⟨_,rfl⟩,h⟩
noncomputable def Gl(X:Cx)(x:Str):Prop:=X.env.kindOf x=some .globalImplicit
theorem b6z{E:Value→Shared→Prop}{pins:List (Addr×Obj)}{s:Shared}{σ:St}{H:Hp}{x:Str}{u:Value}{pos:Pos}{Q:Value→Shared→Prop}(I:Inv X pins σ H s)(hg:Gl X x)(hm:X.mg x=some u)(h:Q u s)(hd:(x == ("__debug__" : Str))=false:=by decide):wpAny (model X.prog X.w) X.A (eval (.Name x pos) X.env) Q E s:=
 Calls.Name_function_global I.ok.kind hg (Calls.loadGlobal_global (by rw[I.ok.glob];exact I.mod.glob.keeps I.bk) hm h) hd
theorem a9g{E:Value→Shared→Prop}{pins:List (Addr×Obj)}{s:Shared}{σ:St}{H:Hp}{x:Str}{u:Value}{pos:Pos}{Q:Value→Shared→Prop}(I:Inv X pins σ H s)(hg:Gl X x)(hm:X.mg x=none)(hv:bootBuiltins x=some u)(h:Q u s)(hn:x ≠ "__name__":=by decide)(hd:(x == ("__debug__" : Str))=false:=by decide):wpAny (model X.prog X.w) X.A (eval (.Name x pos) X.env) Q E s:=by
 obtain⟨mb,h1,h2⟩:=I.mod.blt;exact Calls.Name_function_global I.ok.kind hg (Calls.loadGlobal_builtin (by rw[I.ok.glob];exact I.mod.glob.keeps I.bk) hm (by rw[I.ok.blt];exact h1.keeps I.bk) ((h2 x hn).trans hv) h) hd
theorem pe_glob{x:Str}{v:V}{u:Value}{pos:Pos}(hg:Gl X x)(hm:X.mg x=some u)(r:RelV v u)(hd:(x == ("__debug__" : Str))=false:=by decide):PE X (.Name x pos) (tC v):=
 fun _ _ _ H _ I h=>b6z I hg hm ⟨v,H,I,r,h⟩ hd
theorem pe_bltn{x:Str}{v:V}{u:Value}{pos:Pos}(hg:Gl X x)(hm:X.mg x=none)(hv:bootBuiltins x=some u)(r:RelV v u)(hn:x ≠ "__name__":=by decide)(hd:(x == ("__debug__" : Str))=false:=by decide):PE X (.Name x pos) (tC v):=
 fun _ _ _ H _ I h=>a9g I hg hm hv ⟨v,H,I,r,h⟩ hn hd
variable {a b:Expr} {ta tb:TE} {pos:Pos}
noncomputable def tB(t:TE):TT:=fun σ H Q=>t σ H fun x H1=>∃ c,x=.bl c∧Q c H1
theorem pt_val{e:Expr}{t:TE}(h:PE X e t)(he:∀ whole,isTrue e X.env whole=(do let v ← whole;standAt e.pos;holding [v] (truthy v)):=by intro _;rfl):PT X e (tB t):=by
 intro pins s σ H Q I hw;refine isTrue_plain (thn (h pins s σ H _ I hw) fun v s1 ⟨x,H1,I1,r1,q1⟩=>?_) (he _);obtain⟨d,rfl,q⟩:=q1;cases r1;exact wpAny_truthy_bool ⟨H1,I1,q⟩
variable {tA tB':TT} {rest:List Expr}
noncomputable def tAnd(t u:TT):TT:=fun σ H Q=>t σ H fun c H1=>if c=true then u σ H1 Q else Q false H1
noncomputable def tOr(t u:TT):TT:=fun σ H Q=>t σ H fun c H1=>if c=true then Q true H1 else u σ H1 Q
noncomputable def tNot(t:TT):TT:=fun σ H Q=>t σ H fun c H1=>Q (!c) H1
theorem pw_and1(ha:PT X a tA):PW X (.BoolOp .And [a] pos) tA:=by
 intro wh pins s σ H Q I h;refine isTrue_and (thn (ha pins s σ H Q I h) fun c s1 e=>?_);cases c with
 | true=>exact isTrue_and_nil e
 | false=>exact e
theorem pw_or1(ha:PT X a tA):PW X (.BoolOp .Or [a] pos) tA:=by
 intro wh pins s σ H Q I h;refine isTrue_or (thn (ha pins s σ H Q I h) fun c s1 e=>?_);cases c with
 | false=>exact isTrue_or_nil e
 | true=>exact e
theorem pw_and(ha:PT X a tA)(hb:PW X (.BoolOp .And (b::rest) pos) tB'):PW X (.BoolOp .And (a::b::rest) pos) (tAnd tA tB'):=by
 intro wh pins s σ H Q I h;refine isTrue_and (thn (ha pins s σ H _ I h) fun c s1 ⟨H1,I1,q1⟩=>?_);cases c with
 | true=>exact hb wh pins s1 σ H1 Q I1 q1
 | false=>exact⟨H1,I1,q1⟩
theorem pw_or(ha:PT X a tA)(hb:PW X (.BoolOp .Or (b::rest) pos) tB'):PW X (.BoolOp .Or (a::b::rest) pos) (tOr tA tB'):=by
 intro wh pins s σ H Q I h;refine isTrue_or (thn (ha pins s σ H _ I h) fun c s1 ⟨H1,I1,q1⟩=>?_);cases c with
 | true=>exact⟨H1,I1,q1⟩
 | false=>exact hb wh pins s1 σ H1 Q I1 q1
theorem pt_not(ha:PT X a tA):PT X (.UnaryOp .Not a pos) (tNot tA):=by
 intro pins s σ H Q I h;exact isTrue_not (ha pins s σ H (fun c H1=>Q (!c) H1) I h)
noncomputable def tAndV(ta tb:TE):TE:=fun σ H Q=>ta σ H fun x H1=>∃ c,x=.bl c∧if c=true then tb σ H1 Q else Q (.bl false) H1
noncomputable def tNotV(ta:TE):TE:=fun σ H Q=>ta σ H fun x H1=>∃ c,x=.bl c∧Q (.bl (!c)) H1
theorem pe_one{op}{t:TE}(h:PE X a t):PE X (.BoolOp op [a] pos) t:=fun pins s σ H Q I hw=>BoolOp_one (h pins s σ H Q I hw)
theorem pe_and(ha:PE X a ta)(hb:PE X (.BoolOp .And (b::rest) pos) tb):PE X (.BoolOp .And (a::b::rest) pos) (tAndV ta tb):=by
 intro pins s σ H Q I h;refine BoolOp_and (thn (ha pins s σ H _ I h) fun v s1 ⟨x,H1,I1,r1,q1⟩=>?_);obtain⟨c,rfl,q1⟩:=q1;cases r1;refine wpAny_truthy_bool ?_;cases c with
 | true=>exact hb pins s1 σ H1 Q I1 q1
 | false=>exact⟨.bl false,H1,I1,rfl,q1⟩
theorem pe_not(ha:PE X a ta):PE X (.UnaryOp .Not a pos) (tNotV ta):=by
 intro pins s σ H Q I h;refine UnaryOp_ (thn (ha pins s σ H _ I h) fun v s1 ⟨x,H1,I1,r1,q1⟩=>?_);obtain⟨c,rfl,q1⟩:=q1;cases r1;exact not_of (wpAny_truthy_bool ⟨.bl (!c),H1,I1,rfl,q1⟩)
noncomputable def tIf(t:TT)(ta tb:TE):TE:=fun σ H Q=>t σ H fun c H1=>if c=true then ta σ H1 Q else tb σ H1 Q
theorem pe_ifExp{c:Expr}(hc:PT X c tA)(ha:PE X a ta)(hb:PE X b tb):PE X (.IfExp c a b pos) (tIf tA ta tb):=by
 intro pins s σ H Q I h;refine wpAny_IfExp (thn (hc pins s σ H _ I h) fun d s1 ⟨H1,I1,q1⟩=>?_);cases d with
 | true=>exact ha pins s1 σ H1 Q I1 q1
 | false=>exact hb pins s1 σ H1 Q I1 q1
end
noncomputable def SqL(K:c5k)(H:Hp)(a:Addr)(xs:List V):Prop:=
 Rd H a (.lst xs)∨
   ∃ (o:Obj) (its:Array Value) (n:Nat),K.lookup a=some o∧o.cls=.type "list" ∧ o.dict=none∧o.data=.seq its n∧its.size≤sizeLine∧Vals xs its.toList
noncomputable def SqT(K:c5k)(H:Hp)(a:Addr)(xs:List V):Prop:=
 Rd H a (.tup xs)∨
   ∃ (o:Obj) (its:Array Value) (n:Nat),K.lookup a=some o∧o.cls=.type "tuple" ∧ o.data=.seq its n∧its.size≤sizeLine∧Vals xs its.toList
noncomputable def absV:Value→Option V
 | .none=>some .non
 | .bool b=>some (.bl b)
 | .int i _=>some (.int i)
 | .str x _=>some (.str x)
 | .bytes b _=>some (.byt b)
 | .float b _=>some (.flt b)
 | .ref a=>some (.ref a)
 | .type n=>some (.ty n)
 | _=>none
theorem RelV.abs{x:V}{u:Value}(r:RelV x u):absV u=some x:=by
 cases x with
 | non=>cases r;rfl
 | bl _=>cases r;rfl
 | int _=>obtain⟨t,rfl⟩:=r;rfl
 | str _=>obtain⟨t,rfl⟩:=r;rfl
 | byt _=>obtain⟨t,rfl⟩:=r;rfl
 | flt _=>obtain⟨t,rfl⟩:=r;rfl
 | ref _=>cases r;rfl
 | ty _=>cases r;rfl
theorem RelV.inj{x y:V}{u:Value}(r:RelV x u)(q:RelV y u):x=y:=c6e.inj (r.abs.symm.trans q.abs)
theorem Vals.inj:∀ {xs ys:List V} {us:List Value},Vals xs us→Vals ys us→xs=ys
 | _,_,_,.nil,.nil=>rfl
 | _,_,_,.cons r t,.cons r' t'=>by rw[r.inj r',Vals.inj t t']
section
variable {X:Cx} {pins:List (Addr×Obj)} {σ:St} {H:Hp} {s:Shared} {a:Addr} {xs ys:List V}
theorem SqL.of{K:c5k}(h:H a=some (.lst xs)):SqL K H a xs:=.inl (.inl h)
theorem SqT.of{K:c5k}(h:H a=some (.tup xs)):SqT K H a xs:=.inl (.inl h)
theorem Inv.list(I:Inv X pins σ H s)(h:SqL X.K H a xs):∃ its:List Value,Vals xs its∧PlainL s.heap a its.toArray∧xs.length≤sizeLine:=by
 rcases h with h | ⟨o,its,n,hk,hc,hd,hs,hz,r⟩
 · obtain⟨z,its,n,r,e⟩:=h.ok I.hok;exact⟨its,r,⟨_,n,e,rfl,rfl,rfl⟩,z⟩
 · refine⟨its.toList,r,⟨o,n,I.kIn a o hk,hc,hd,by simpa using hs⟩,?_⟩;have e:=r.length;simp only[c5o] at e;omega
theorem Inv.tuple(I:Inv X pins σ H s)(h:SqT X.K H a xs):∃ its:List Value,Vals xs its∧IsTup s.heap a its.toArray∧xs.length≤sizeLine:=by
 rcases h with h | ⟨o,its,n,hk,hc,hs,hz,r⟩
 · obtain⟨z,its,r,p⟩:=h.ok I.hok;exact⟨its,r,p,z⟩
 · refine⟨its.toList,r,⟨o,I.kIn a o hk,hc,n,by simpa using hs⟩,?_⟩;have e:=r.length;simp only[c5o] at e;omega
theorem Inv.list_inj(I:Inv X pins σ H s)(h:SqL X.K H a xs)(h':SqL X.K H a ys):xs=ys:=by
 obtain⟨its,r,⟨o,n,e,_,_,d⟩,_⟩:=I.list h;obtain⟨its',r',⟨o',n',e',_,_,d'⟩,_⟩:=I.list h';rw[e] at e';cases e';rw[d] at d';injection d' with d1 _;have:its=its':=by simpa using congrArg Array.toList d1
 subst this;exact r.inj r'
theorem Inv.tuple_inj(I:Inv X pins σ H s)(h:SqT X.K H a xs)(h':SqT X.K H a ys):xs=ys:=by
 obtain⟨its,r,⟨o,e,_,n,d⟩,_⟩:=I.tuple h;obtain⟨its',r',⟨o',e',_,n',d'⟩,_⟩:=I.tuple h';rw[e] at e';cases e';rw[d] at d';injection d' with d1 _;have:its=its':=by simpa using congrArg Array.toList d1
 subst this;exact r.inj r'
end
abbrev Cx.wish(X:Cx)(E:Value→Shared→Prop):Cx:={ X with xe:=E }
abbrev Cx.nox(X:Cx):Cx:=X.wish fun _ _=>False
theorem Cx.Ok.wish{X:Cx}(ok:X.Ok)(E:Value→Shared→Prop):(X.wish E).Ok:=
 ⟨ok.mod,ok.kind,ok.glob,ok.blt,ok.above,ok.inj,ok.has,ok.cab,ok.hd,ok.frames,ok.stk,ok.exf,ok.bs,ok.bsz,ok.noex,ok.exfs,ok.funs,ok.frf⟩
theorem Cx.Ok.unwish{X:Cx}{E:Value→Shared→Prop}(ok:(X.wish E).Ok):X.Ok:=
 ⟨ok.mod,ok.kind,ok.glob,ok.blt,ok.above,ok.inj,ok.has,ok.cab,ok.hd,ok.frames,ok.stk,ok.exf,ok.bs,ok.bsz,ok.noex,ok.exfs,ok.funs,ok.frf⟩
section
variable {X:Cx} {pins:List (Addr×Obj)} {σ:St} {H:Hp} {s:Shared} {E:Value→Shared→Prop}
theorem Inv.wish(I:Inv X pins σ H s)(E:Value→Shared→Prop):Inv (X.wish E) pins σ H s:=⟨I.ok.wish E,I.os,I.bare,I.base,I.loc,I.cell,I.free,I.freeC,I.pin,I.hok,I.len⟩
theorem Inv.unwish(I:Inv (X.wish E) pins σ H s):Inv X pins σ H s:=⟨I.ok.unwish,I.os,I.bare,I.base,I.loc,I.cell,I.free,I.freeC,I.pin,I.hok,I.len⟩
theorem SP.unwish{D:Ends}{f:Flow}{s':Shared}(h:SP (X.wish E) pins D f s'):SP X pins D f s':=by
 cases f with
 | next=>obtain⟨σ',H',I,q⟩:=h;exact⟨σ',H',I.unwish,q⟩
 | brk=>obtain⟨σ',H',I,q⟩:=h;exact⟨σ',H',I.unwish,q⟩
 | cont=>obtain⟨σ',H',I,q⟩:=h;exact⟨σ',H',I.unwish,q⟩
 | ret u=>obtain⟨v,σ',H',I,r,q⟩:=h;exact⟨v,σ',H',I.unwish,r,q⟩
theorem PSs.nox{st:List Stmt}{t:TS}(h:PSs X.nox st t):PSs X st t:=fun pins s σ H D I hw=>
 wpAny_mono (h pins s σ H D (I.wish _) hw) (fun _ _ q=>q.unwish) fun _ _ z=>False.elim z
end
section
variable {X:Cx} {st:Stmt} {rest:List Stmt} {t u:TS} {e:Expr} {te:TE} {pos:Pos}
noncomputable def tNext:TS:=fun D σ H=>D.nx σ H
noncomputable def tSeq(t u:TS):TS:=fun D σ H=>t { D with nx:=u D } σ H
theorem pss_nil:PSs X [] tNext:=fun _ _ σ H _ I h=>wpAny_execs_nil ⟨σ,H,I,h⟩
theorem pss_cons(h1:PS X st t)(h2:PSs X rest u):PSs X (st::rest) (tSeq t u):=by
 intro pins s σ H D I h;refine wpAny_execs_cons (thn (h1 pins s σ H { D with nx:=u D } I h) fun f s1 q=>?_);cases f with
 | next=>
   obtain⟨σ',H',I',q⟩:=q;exact h2 pins s1 σ' H' D I' q
 | ret v=>exact q
 | brk=>exact q
 | cont=>exact q
theorem pss_one(h1:PS X st t):PSs X [st] t:=by
 intro pins s σ H D I h;refine wpAny_execs_cons (thn (h1 pins s σ H D I h) fun f s1 q=>?_);cases f with
 | next=>exact wpAny_execs_nil q
 | ret v=>exact q
 | brk=>exact q
 | cont=>exact q
theorem Inv.quiet{pins:List (Addr×Obj)}{σ:St}{H:Hp}{s:Shared}(I:Inv X pins σ H s):interactive X.env=false:=by simp[interactive,I.ok.kind]
noncomputable def tDrop(te:TE):TS:=fun D σ H=>te σ H fun _ H1=>D.nx σ H1
theorem ps_expr(he:PE X e te)(hs:swapsWith e none pos.line X.env=pure false:=by rfl):PS X (.Expr e pos) (tDrop te):=by
 intro pins s σ H D I h;exact wpAny_Expr_any (thn (he pins s σ H _ I h) fun v s1 ⟨x,H1,I1,r1,q1⟩=>⟨σ,H1,I1,q1⟩) I.quiet hs
noncomputable def tRet(te:TE):TS:=fun D σ H=>te σ H D.rt
theorem ps_ret(he:PE X e te):PS X (.Return (some e) pos) (tRet te):=by
 intro pins s σ H D I h;exact wpAny_Return_some (thn (he pins s σ H _ I h) fun v s1 ⟨x,H1,I1,r1,q1⟩=>⟨x,σ,H1,I1,r1,q1⟩)
noncomputable def tIfS(c:TT)(t u:TS):TS:=fun D σ H=>c σ H fun b H1=>if b=true then t D σ H1 else u D σ H1
theorem ps_if{c:Expr}{a b:List Stmt}{tc:TT}(hc:PT X c tc)(ha:PSs X a t)(hb:PSs X b u):PS X (.If c a b pos) (tIfS tc t u):=by
 intro pins s σ H D I h;refine wpAny_If (thn (hc pins s σ H _ I h) fun d s1 ⟨H1,I1,q1⟩=>?_);cases d with
 | true=>exact ha pins s1 σ H1 D I1 q1
 | false=>exact hb pins s1 σ H1 D I1 q1
noncomputable def tNever:TS:=fun _ _ _=>False
theorem ps_never:PS X st tNever:=fun _ _ _ _ _ _ h=>h.elim
end
abbrev TG:=V→St→Hp→(St→Hp→Prop)→Prop
abbrev TGs:=List V→St→Hp→(St→Hp→Prop)→Prop
noncomputable def PG(X:Cx)(target:Expr)(t:TG):Prop:=
 ∀ (pins:List (Addr×Obj)) (s:Shared) (σ:St) (H:Hp) (v:V) (u:Value) (Q:St→Hp→Prop),Inv X pins σ H s→RelV v u→t v σ H Q→
   wpAny (model X.prog X.w) X.A (assign target X.env u) (fun _ s'=>∃ σ' H',Inv X pins σ' H' s'∧Q σ' H') X.xe s
noncomputable def PGs(X:Cx)(ts:List Expr)(t:TGs):Prop:=
 ∀ (pins:List (Addr×Obj)) (s:Shared) (σ:St) (H:Hp) (vs:List V) (us:List Value) (Q:St→Hp→Prop),Inv X pins σ H s→Vals vs us→t vs σ H Q→
   wpAny (model X.prog X.w) X.A (assignInOrder ((assignEach ts X.env).map (·.2)) us) (fun _ s'=>∃ σ' H',Inv X pins σ' H' s'∧Q σ' H') X.xe s
abbrev TSet:=V→V→V→Hp→(Hp→Prop)→Prop
noncomputable def PSet(X:Cx)(t:TSet):Prop:=
 ∀ (pins:List (Addr×Obj)) (s:Shared) (σ:St) (H:Hp) (o i v:V) (ov iv u:Value) (Q:Hp→Prop),Inv X pins σ H s→RelV o ov→RelV i iv→RelV v u→t o i v H Q→
   wpAny (model X.prog X.w) X.A (setItem ov iv u) (fun _ s'=>∃ H',Inv X pins σ H' s'∧Q H') X.xe s
abbrev TIp:=V→V→Hp→VK→Prop
noncomputable def PIp(X:Cx)(op:Operator)(t:TIp):Prop:=
 ∀ (pins:List (Addr×Obj)) (s:Shared) (σ:St) (H:Hp) (x y:V) (v u:Value) (Q:VK),Inv X pins σ H s→RelV x v→RelV y u→t x y H Q→
   wpAny (model X.prog X.w) X.A (inplaceOp op v u) (EP X pins σ Q) X.xe s
section
variable {X:Cx} {pos:Pos}
noncomputable def a3u(i:Nat):TG:=fun v σ H Q=>Q (σ.set i (some v)) H
theorem pg_name{i:Nat}{x:Str}(hN:X.N.Nodup)(hi:X.N[i]?=some x)(hx:Loc X.env.scope x)(hf:X.fn x=true∨X.env.scope.names.lookup x=some .local:=by first | exact .inl rfl | exact .inr rfl | assumption):PG X (.Name x pos) (a3u i):=by
 intro pins s σ H v u Q I r h;exact wpAny_assign_Name (a5c I hN hi hx r (fun s' I'=>⟨_,H,I',h⟩) hf)
noncomputable def gNil:TGs:=fun vs σ H Q=>vs=[]∧Q σ H
noncomputable def a5s(t:TG)(u:TGs):TGs:=fun vs σ H Q=>∃ v r,vs=v::r∧t v σ H fun σ' H'=>u r σ' H' Q
theorem pgs_nil:PGs X [] gNil:=by
 intro pins s σ H vs us Q I r h;obtain⟨e,h⟩:=h;subst e;cases r;exact assignInOrder_nil ⟨σ,H,I,h⟩
theorem pgs_cons{e:Expr}{es:List Expr}{t:TG}{u:TGs}(h1:PG X e t)(h2:PGs X es u)(hs:(assignEach (e::es) X.env).map (·.2)=assign e X.env::(assignEach es X.env).map (·.2):=by rfl):PGs X (e::es) (a5s t u):=by
 intro pins s σ H vs us Q I r h;obtain⟨v,vr,e1,h⟩:=h;subst e1;cases r with
 | cons r rr=>
   rw[hs];refine assignInOrder_cons (thn (h1 pins s σ H _ _ _ I r h) fun _ s1 ⟨σ1,H1,I1,q1⟩=>?_);exact h2 pins s1 σ1 H1 _ _ Q I1 rr q1
noncomputable def gTup(K:c5k)(n:Nat)(t:TGs):TG:=fun v σ H Q=>∃ a xs,v=.ref a∧SqT K H a xs∧xs.length=n∧t xs σ H Q
theorem pg_tup{es:List Expr}{k:Nat}{t:TGs}{n:Nat}(hc:X.calm=true)(h:PGs X es t)(hn:(assignEach es X.env).length=n:=by rfl)(hst:(assignEach es X.env).findIdx? (·.1)=none:=by rfl):PG X (.Tuple es k pos) (gTup X.K n t):=by
 intro pins s σ H v u Q I r hw;obtain⟨a,xs,e1,hq,hl,hw⟩:=hw;subst e1;cases r;obtain⟨its,rv,ht,hz⟩:=I.tuple hq;refine assign_Tuple_tuple (I.ok.hd hc) ht (by simp[hn,← hl,rv.length]) hst fun h' hx=>?_;have I1:Inv X pins σ H { s with heap:=h' }:=I.kept (t':=s.toks) fun b o e=>hx b o (c6l (Heap.lt_size e)) e;exact h pins _ σ H xs _ Q I1 (by simpa using rv) hw
noncomputable def gSub(to ti:TE)(t:TSet):TG:=fun v σ H Q=>to σ H fun o H1=>ti σ H1 fun i H2=>t o i v H2 fun H3=>Q σ H3
theorem pg_sub{o i:Expr}{to ti:TE}{t:TSet}(ho:PE X o to)(hi:PE X i ti)(hs:PSet X t)(ha:∀ v,assign (.Subscript o i pos) X.env v=(do
     let ov ← holding [v] (eval o X.env);let iv ← holding [v,ov] (eval i X.env)
     standAt pos
     holding [v,ov,iv] (setItem ov iv v)
     release [v,ov,iv] []):=by intro _;rfl):PG X (.Subscript o i pos) (gSub to ti t):=by
 intro pins s σ H v u Q I r h;rw[ha];refine wpAny_bind (wpAny_holding (thn (ho pins s σ H _ I h) fun ov s1 ⟨x,H1,I1,r1,q1⟩=>?_));refine wpAny_bind (wpAny_holding (thn (hi pins s1 σ H1 _ I1 q1) fun iv s2 ⟨y,H2,I2,r2,q2⟩=>?_));refine wpAny_bind (wpAny_standAt (wpAny_bind (wpAny_holding (thn (hs pins s2 σ H2 x y v ov iv u _ I2 r1 r2 r q2) fun _ s3 ⟨H3,I3,q3⟩=>?_))));exact wpAny_release ⟨σ,H3,I3,q3⟩
noncomputable def tAsg(te:TE)(g:TG):TS:=fun D σ H=>te σ H fun x H1=>g x σ H1 D.nx
theorem ps_asg{tg e:Expr}{te:TE}{g:TG}(he:PE X e te)(hg:PG X tg g)(hs:swapsWithSole [tg] e pos.line X.env=pure false:=by rfl)(hw:swappedStores [tg] e X.env=pure none:=by rfl)(h1:(assignEach [tg] X.env).map (·.2)=[assign tg X.env]:=by rfl):PS X (.Assign [tg] e pos) (tAsg te g):=by
 intro pins s σ H D I h;refine wpAny_Assign_stores (thn (he pins s σ H _ I h) fun v s1 ⟨x,H1,I1,r1,q1⟩=>?_) hs hw;rw[h1];exact thn (hg pins s1 σ H1 x v _ I1 r1 q1) fun _ s2 q=>q
theorem ps_set{i:Nat}{x:Str}{e:Expr}{te:TE}{pos':Pos}(hN:X.N.Nodup)(hi:X.N[i]?=some x)(hx:Loc X.env.scope x)(he:PE X e te)(hs:swapsWith e (some (.Name x pos')) pos.line X.env=pure false:=by rfl)(hf:X.fn x=true∨X.env.scope.names.lookup x=some .local:=by first | exact .inl rfl | exact .inr rfl | assumption) :
   PS X (.Assign [.Name x pos'] e pos) (tAsg te (a3u i)):=by
 intro pins s σ H D I h;refine wpAny_Assign_Name (thn (he pins s σ H _ I h) fun v s1 ⟨y,H1,I1,r1,q1⟩=>?_) hs;exact a5c I1 hN hi hx r1 (fun s2 I2=>⟨_,H1,I2,q1⟩) hf
noncomputable def tPar(i j:Nat)(ta:TA):TS:=fun D σ H=>ta σ H fun vs H1=>∃ v w,vs=[v,w]∧D.nx ((σ.set i (some v)).set j (some w)) H1
theorem ps_par{i j:Nat}{x y:Str}{a b:Expr}{ta:TA}{px py pt:Pos}{kt k2 pt2}(hc:X.calm=true)(hN:X.N.Nodup)(hi:X.N[i]?=some x)(hj:X.N[j]?=some y)(hij:i≠j)(hx:X.env.scope.names.lookup x=some .local)(hy:X.env.scope.names.lookup y=some .local)(ha:PA X [a,b] ta)(hw:swappedStores [.Tuple [.Name x px,.Name y py] kt pt] (.Tuple [a,b] k2 pt2) X.env=pure (some [x,y]))(hs:swapsWithSole [.Tuple [.Name x px,.Name y py] kt pt] (.Tuple [a,b] k2 pt2) pos.line X.env=pure false:=by rfl) :
   PS X (.Assign [.Tuple [.Name x px,.Name y py] kt pt] (.Tuple [a,b] k2 pt2) pos) (tPar i j ta):=by
 intro pins s σ H D I h;rw[exec_Assign_arm];refine wpAny_bind (wpAny_standAt ?_);rw[hs];refine wpAny_bind (wpAny_pure ?_);rw[if_neg (by decide)];refine wpAny_bind (Tuple_ (thn (ha _ pins s σ H _ I h) fun us s1 ⟨vs,H1,I1,r1,q1⟩=>?_));obtain⟨v,w,e1,q1⟩:=q1;subst e1;obtain⟨u1,u2,rfl,rv,rw'⟩ : ∃ u1 u2,us=[u1,u2]∧RelV v u1∧RelV w u2:=by
   cases r1 with
   | cons p q=>
     cases q with
     | cons p' q'=>
       cases q';exact⟨_,_,rfl,p,p'⟩
 refine wpAny_newObj_type ?_ (by show 2≤sizeLine;decide);have I2:Inv X pins σ H1 { s1 with heap:=s1.heap.push { cls:=.type "tuple",data:=.seq [u1,u2].toArray } }:=I1.kept (t':=s1.toks) fun b o e=>Heap.get?_push_of_some _ e;rw[hw];refine wpAny_bind (wpAny_pure ?_);show wpAny (model X.prog X.w) X.A (do rule "assign.swapped-stores";let items ← unpackItems (.ref s1.heap.objs.size) 2 none;assignInOrder [fun v=>bindName X.env y v,fun v=>bindName X.env x v] items.reverse;pure Flow.next) _ _ _;refine wpAny_bind (wpAny_rule (wpAny_bind (unpackItems_tuple (items:=#[u1,u2]) (I.ok.hd hc) (IsTup.new s1.heap _) fun h' hx'=>?_)));have I3:=I2.kept (h':=h') (t':=s1.toks) fun b o e=>hx' b o (c6l (Heap.lt_size e)) e;show wpAny _ _ (assignInOrder [fun v=>bindName X.env y v,fun v=>bindName X.env x v] [u2,u1] >>= fun _=>pure Flow.next) _ _ _;refine wpAny_bind (assignInOrder_cons (wpAny_bindName (a5c I3 hN hj (.inl hy) rw' (fun s2 I4=>?_) (.inr hy))));refine assignInOrder_cons (wpAny_bindName (a5c I4 hN hi (.inl hx) rv (fun s3 I5=>assignInOrder_nil (wpAny_pure ?_)) (.inr hx)));rw[List.set_comm _ _ (Ne.symm hij)] at I5;exact⟨_,H1,I5,q1⟩
noncomputable def tAugS(to ti te:TE)(tget:V→V→Hp→VK→Prop)(tip:TIp)(tset:TSet):TS:=fun D σ H=>to σ H fun o H1=>ti σ H1 fun i H2=>tget o i H2 fun x H3=>te σ H3 fun y H4=>tip x y H4 fun z H5=>tset o i z H5 fun H6=>D.nx σ H6
noncomputable def PGet(X:Cx)(t:V→V→Hp→VK→Prop):Prop:=
 ∀ (pins:List (Addr×Obj)) (s:Shared) (σ:St) (H:Hp) (o i:V) (ov iv:Value) (Q:VK),Inv X pins σ H s→RelV o ov→RelV i iv→t o i H Q→
   wpAny (model X.prog X.w) X.A (getItem ov iv) (EP X pins σ Q) X.xe s
theorem ps_augS{o i e:Expr}{to ti te:TE}{tget:V→V→Hp→VK→Prop}{tip:TIp}{tset:TSet}{op:Operator}{tpos:Pos}(ho:PE X o to)(hi:PE X i ti)(hg:PGet X tget)(he:PE X e te)(hp:PIp X op tip)(hs:PSet X tset)(ha:∀ ov iv new,augStore i ov iv new=(do holding [new,ov,iv] (setItem ov iv new);release [new,ov,iv] [];pure .next):=by intros;rfl):PS X (.AugAssign (.Subscript o i tpos) op e pos) (tAugS to ti te tget tip tset):=by
 intro pins s σ H D I h;refine wpAny_AugAssign_SubscriptAny (thn (ho pins s σ H _ I h) fun ov s1 ⟨x1,H1,I1,r1,q1⟩=>?_) ha;refine thn (hi pins s1 σ H1 _ I1 q1) fun iv s2 ⟨x2,H2,I2,r2,q2⟩=>?_;refine thn (hg pins s2 σ H2 x1 x2 ov iv _ I2 r1 r2 q2) fun old s3 ⟨x3,H3,I3,r3,q3⟩=>?_;refine thn (he pins s3 σ H3 _ I3 q3) fun v s4 ⟨x4,H4,I4,r4,q4⟩=>?_;refine thn (hp pins s4 σ H4 x3 x4 old v _ I4 r3 r4 q4) fun new s5 ⟨x5,H5,I5,r5,q5⟩=>?_;exact thn (hs pins s5 σ H5 x1 x2 x5 ov iv new _ I5 r1 r2 r5 q5) fun _ s6 ⟨H6,I6,q6⟩=>⟨σ,H6,I6,q6⟩
noncomputable def ipI(f:Int→Int→Int):TIp:=fun x y H Q=>∃ i j,x=.int i∧y=.int j∧Q (.int (f i j)) H
theorem ip_add:PIp X .Add (ipI fun i j=>i+j):=by
 intro pins s σ H x y v u Q I r1 r2 h;obtain⟨i,j,e1,e2,q⟩:=h;subst e1;subst e2;obtain⟨t,rfl⟩:=r1;obtain⟨t',rfl⟩:=r2;exact iadd_int ⟨.int _,H,I.tok _,⟨_,rfl⟩,q⟩
noncomputable def b7p(c:TT)(tb:TS):TS:=fun D σ H=>∃ W:Nat→St→Hp→Prop,(∃ m,W m σ H)∧∀ m σ H,W m σ H→
 c σ H fun b H1=>if b=true then ∃ N:St→Hp→Prop,(∀ σ' H',N σ' H'→∃ m',m' < m∧W m' σ' H')∧tb { D with nx:=N,ct:=N,bk:=D.nx } σ H1 else D.nx σ H1
theorem ps_while{c:Expr}{body:List Stmt}{tc:TT}{tb:TS}(hp:PassesOwn (model X.prog X.w) X.A X.env X.xe)(hc:PT X c tc)(hb:PSs X body tb):PS X (.While c body [] pos) (b7p tc tb):=by
 intro pins s σ H D I h;obtain⟨W,⟨m0,w0⟩,turn⟩:=h;refine wpAny_While (codeAny_whileLoop (fun n s'=>∃ σ' H',Inv X pins σ' H' s'∧W n σ' H') ?_ m0 ⟨σ,H,I,w0⟩);rintro n s1 ⟨σ1,H1,I1,w1⟩;refine wpAny_passesOwn hp (thn (hc pins s1 σ1 H1 _ I1 (turn n σ1 H1 w1)) fun b s2 ⟨H2,I2,q2⟩=>?_);cases b with
 | true=>
   obtain⟨N,hN,q2⟩:=q2;rw[if_pos rfl];refine wpAny_passesOwn hp (thn (hb pins s2 σ1 H2 _ I2 q2) fun f s3 q3=>?_);cases f with
   | next=>
     obtain⟨σ3,H3,I3,n3⟩:=q3;obtain⟨m',hm,w3⟩:=hN σ3 H3 n3;exact⟨m',hm,σ3,H3,I3,w3⟩
   | cont=>
     obtain⟨σ3,H3,I3,n3⟩:=q3;obtain⟨m',hm,w3⟩:=hN σ3 H3 n3;exact⟨m',hm,σ3,H3,I3,w3⟩
   | brk=>exact q3
   | ret v=>exact q3
 | false=>
   rw[if_neg c6s];exact wpAny_execs_nil ⟨σ1,H2,I2,q2⟩
end
structure It where
 go:Nat→Hp→Prop
 yld:Nat→Hp→V→Hp→Prop
 stop:Nat→Hp→Prop
noncomputable def FpOk(X:Cx)(pins:List (Addr×Obj))(H:Hp)(b:Addr):Prop:=
 H b=none∧b≠X.env.locals∧b∉X.fs∧(b∈X.ex∨X.s₀.heap.objs.size≤b)∧(∀ x c,X.env.cells.lookup x=some c→c≠b)∧∀ p∈X.pn++pins,p.1≠b
theorem Inv.fpOk{X:Cx}{pins:List (Addr×Obj)}{σ:St}{H H':Hp}{s:Shared}{b:Addr}(I:Inv X pins σ H s)(hb:s.heap.objs.size≤b)(hn:H' b=none):FpOk X pins H' b:=by
 refine⟨hn,Nat.ne_of_gt (c7b I.lt hb),I.nofs hb,.inr (c7w I.sz hb),fun x c e z=>?_,fun p hp z=>?_⟩
 · obtain⟨v,q⟩:=I.cell x c e;exact absurd (c7b q.lt (by rw[z];exact hb)) (d0g _)
 · exact absurd (c7b (Heap.lt_size (I.pin p hp).1) (by rw[z];exact hb)) (d0g _)
structure Turn(P:Program)(w:World)(K:c5k)(tg:Expr)(J:It)(fp:List Addr)(it:Addr)(tn:Nat→Heap→Prop):Prop where
 mem:it∈fp
 obj:∀ i h,tn i h→∀ b∈fp,∃ o,h.get? b=some o∧∀ v,o.data≠.cell v
 keep:∀ i h h',tn i h→(∀ b∈fp,∀ o,h.get? b=some o→h'.get? b=some o)→tn i h'
 item:∀ (X:Cx),X.prog=P→X.w=w→X.K=K→X.calm=true→∀ (i:Nat) (pins:List (Addr×Obj)) (s:Shared) (σ:St) (H:Hp) (E:Value→Shared→Prop),Inv X pins σ H s→(∀ b∈fp,FpOk X pins H b)→tn i s.heap→J.go i H→
   wpAny (model P w) X.A (pyNext (.ref it)) (fun r s1=>∃ u,r=some u∧
     wpAny (model P w) X.A (letOwnedTupleGo tg (.ref it) u) (fun _ s2=>∃ x H',Inv X pins σ H' s2∧RelV x u∧J.yld i H x H'∧tn (i+1) s2.heap∧∀ b∈fp,H' b=none) E s1) E s
 done:∀ (X:Cx),X.prog=P→X.w=w→X.K=K→X.calm=true→∀ (i:Nat) (pins:List (Addr×Obj)) (s:Shared) (σ:St) (H:Hp) (E:Value→Shared→Prop),Inv X pins σ H s→(∀ b∈fp,FpOk X pins H b)→tn i s.heap→J.stop i H→
   wpAny (model P w) X.A (pyNext (.ref it)) (fun r s1=>r=none∧Inv X pins σ H s1) E s
 self:∀ (A:Around) (i:Nat) (s:Shared) (Q:Value→Shared→Prop) (E:Value→Shared→Prop),tn i s.heap→Q (.ref it) s→wpAny (model P w) A (pyIter (.ref it)) Q E s
abbrev TI:=St→Hp→(It→Hp→Prop)→Prop
noncomputable def PIE(X:Cx)(pins:List (Addr×Obj))(σ:St)(tg:Expr)(R:It→Hp→Prop)(itv:Value)(s2:Shared):Prop:=
 ∃ (it:Addr) (fp:List Addr) (tn:Nat→Heap→Prop) (J:It) (H':Hp),itv=.ref it∧Inv X pins σ H' s2∧Turn X.prog X.w X.K tg J fp it tn∧tn 0 s2.heap∧(∀ b∈fp,FpOk X pins H' b)∧R J H'
noncomputable def PI(X:Cx)(tg iter:Expr)(wi:TI):Prop:=
 ∀ (pins:List (Addr×Obj)) (s:Shared) (σ:St) (H:Hp) (R:It→Hp→Prop),Inv X pins σ H s→wi σ H R→
   wpAny (model X.prog X.w) X.A (eval iter X.env) (fun v s1=>wpAny (model X.prog X.w) X.A (pyIter v) (PIE X pins σ tg R) X.xe s1) X.xe s
theorem go_of{M:Model}{A:Around}{E:Value→Shared→Prop}{s:Shared}{tg:Expr}{it:Addr}{u:Value}{o:Obj}{n:String}{vs:Array Value}{Q:Unit→Shared→Prop}(ho:s.heap.get? it=some o)(hc:o.cls=.type n)(hd:o.data=.fields vs)(hn:["enumerate","zip","dict_itemiterator","dict_reverseitemiterator","odict_iterator","itertools.zip_longest","itertools.pairwise"].contains n=false)(hQ:Q () s):wpAny M A (letOwnedTupleGo tg (.ref it) u) Q E s:=by
 unfold letOwnedTupleGo;cases tg<;>first
   | exact wpAny_pure hQ
   | (cases u<;>first
       | exact wpAny_pure hQ
       | (refine wpAny_bind (wpAny_load ho ?_)
          rw[hc,hd];show wpAny M A (if (["enumerate","zip","dict_itemiterator","dict_reverseitemiterator","odict_iterator","itertools.zip_longest","itertools.pairwise"].contains n && vs[0]? == some (rawInt _))=true then _ else _) Q E s;rw[if_neg (by intro h;rw[hn,Bool.false_and] at h;cases h)];exact wpAny_pure hQ))
noncomputable def Itl(K:c5k)(a:Addr):It:=
 ⟨fun i H=>∃ xs x,SqL K H a xs∧xs[i]?=some x,fun i H x H'=>H'=H∧∀ xs,SqL K H a xs→xs[i]?=some x,fun i H=>∃ xs,SqL K H a xs∧xs.length≤i⟩
noncomputable def Itt(K:c5k)(a:Addr):It:=
 ⟨fun i H=>∃ xs x,SqT K H a xs∧xs[i]?=some x,fun i H x H'=>H'=H∧∀ xs,SqT K H a xs→xs[i]?=some x,fun i H=>∃ xs,SqT K H a xs∧xs.length≤i⟩
noncomputable def Itr(lo:Int)(n:Nat):It:=⟨fun i _=>i<n,fun i H x H'=>H'=H∧x=.int (lo+i),fun i _=>n≤i⟩
theorem c1e{P:Program}{w:World}{K:c5k}{tg:Expr}(a it:Addr):Turn P w K tg (Itl K a) [it] it (fun i h=>h.IsListIter it a i) where
 mem:=by simp
 obj:=fun i h st b hb=>by
   have e:b=it:=by simpa using hb
   subst e;obtain⟨o,e,c,d⟩:=st;exact⟨o,e,fun v z=>by rw[d] at z;cases z⟩
 keep:=fun i h h' st k=>st.at fun o e=>k it (by simp) o e
 item:=by
   intro X hP hw hK hc i pins s σ H E I hf st hg;subst hP hw hK;obtain⟨xs,x,hq,hx⟩:=hg;obtain⟨its,rv,p,hz⟩:=I.list hq;obtain⟨u,hu,ru⟩:=rv.get hx;obtain⟨f0,f1,f2,f3,f4,f5⟩:=hf it (by simp);refine wpAny_pyNext_list_item st p.isList (x:=u) (by simpa using hu) fun h' st' sb=>?_;have I1:Inv X pins σ H { s with heap:=h' }:=I.turned (t':=s.toks) (fun b o hb e=>(sb.2 b hb).trans e) f0 f1 f3 f4 f5;obtain⟨o,e,c,d⟩:=id st';exact⟨u,rfl,go_of (s:={ s with heap:=h' }) e c d (by decide) ⟨x,H,I1,ru,⟨rfl,fun ys hy=>by rw[I.list_inj hy hq];exact hx⟩,st',fun b hb=>(hf b hb).1⟩⟩
 done:=by
   intro X hP hw hK hc i pins s σ H E I hf st hg;subst hP hw hK;obtain⟨xs,hq,hx⟩:=hg;obtain⟨its,rv,p,hz⟩:=I.list hq;obtain⟨f0,f1,f2,f3,f4,f5⟩:=hf it (by simp);have hl:=rv.length;exact wpAny_pyNext_list_end (I.ok.hd hc) st p.isList (by simp;omega) fun h' eb=>⟨rfl,I.turned (t':=s.toks) (fun b o hb e=>eb b o hb e) f0 f1 f3 f4 f5⟩
 self:=fun _ _ _ _ _ st h=>wpAny_pyIter_listiter st h
theorem b9o{P:Program}{w:World}{K:c5k}{tg:Expr}(a it:Addr):Turn P w K tg (Itt K a) [it] it (fun i h=>h.IsTupleIter it a i) where
 mem:=by simp
 obj:=fun i h st b hb=>by
   have e:b=it:=by simpa using hb
   subst e;obtain⟨o,e,c,d⟩:=st;exact⟨o,e,fun v z=>by rw[d] at z;cases z⟩
 keep:=fun i h h' st k=>st.at fun o e=>k it (by simp) o e
 item:=by
   intro X hP hw hK hc i pins s σ H E I hf st hg;subst hP hw hK;obtain⟨xs,x,hq,hx⟩:=hg;obtain⟨its,rv,p,hz⟩:=I.tuple hq;obtain⟨u,hu,ru⟩:=rv.get hx;obtain⟨f0,f1,f2,f3,f4,f5⟩:=hf it (by simp);refine wpAny_pyNext_tuple_item st (show s.heap.IsTuple a its.toArray from p) (x:=u) (by simpa using hu) fun h' st' sb=>?_;have I1:Inv X pins σ H { s with heap:=h' }:=I.turned (t':=s.toks) (fun b o hb e=>(sb.2 b hb).trans e) f0 f1 f3 f4 f5;obtain⟨o,e,c,d⟩:=id st';exact⟨u,rfl,go_of (s:={ s with heap:=h' }) e c d (by decide) ⟨x,H,I1,ru,⟨rfl,fun ys hy=>by rw[I.tuple_inj hy hq];exact hx⟩,st',fun b hb=>(hf b hb).1⟩⟩
 done:=by
   intro X hP hw hK hc i pins s σ H E I hf st hg;subst hP hw hK;obtain⟨xs,hq,hx⟩:=hg;obtain⟨its,rv,p,hz⟩:=I.tuple hq;obtain⟨f0,f1,f2,f3,f4,f5⟩:=hf it (by simp);have hl:=rv.length;exact wpAny_pyNext_tuple_end (I.ok.hd hc) st (show s.heap.IsTuple a its.toArray from p) (by simp;omega) fun h' eb=>⟨rfl,I.turned (t':=s.toks) (fun b o hb e=>eb b o hb e) f0 f1 f3 f4 f5⟩
 self:=fun _ _ _ _ _ st h=>wpAny_pyIter_tupleiter st h
theorem b9p{P:Program}{w:World}{K:c5k}{tg:Expr}(it:Addr)(lo:Int)(n:Nat):Turn P w K tg (Itr lo n) [it] it (fun i h=>IsRangeIter h it (lo+(i:Nat)*1) ((n:Int) - (i:Nat)) 1) where
 mem:=by simp
 obj:=fun i h st b hb=>by
   have e:b=it:=by simpa using hb
   subst e;exact⟨_,st,fun v z=>by
     have z':Data.fields _=Data.cell v:=z;cases z'⟩
 keep:=fun i h h' st k=>k it (by simp) _ st
 item:=by
   intro X hP hw hK hc i pins s σ H E I hf st hg;subst hP hw hK;obtain⟨f0,f1,f2,f3,f4,f5⟩:=hf it (by simp);have W:=Walks.range (prog:=X.prog) (w:=X.w) (I.ok.hd hc) it lo 1 n;refine W.item i s _ _ hg st fun v h' tk hv st' kk=>?_;obtain⟨t,rfl⟩:=hv;have I1:Inv X pins σ H { s with heap:=h',toks:=tk }:=I.turned (fun b o hb e=>kk b o (by simpa using hb) e) f0 f1 f3 f4 f5;refine⟨_,rfl,go_of (s:={ s with heap:=h',toks:=tk }) (n := "range_iterator") st' rfl rfl (by decide) ⟨.int (lo+i),H,I1,⟨t,?_⟩,⟨rfl,rfl⟩,st',fun b hb=>(hf b hb).1⟩⟩;rw[d0m]
 done:=by
   intro X hP hw hK hc i pins s σ H E I hf st hg;subst hP hw hK;obtain⟨f0,f1,f2,f3,f4,f5⟩:=hf it (by simp);exact wpAny_pyNext_range_end (I.ok.hd hc) st (by have:n≤i:=hg;omega) fun h' eb=>⟨rfl,I.turned (t':=s.toks) (fun b o hb e=>eb b o hb e) f0 f1 f3 f4 f5⟩
 self:=fun _ _ _ _ _ st h=>wpAny_pyIter_rangeiter st h
section
variable {X:Cx} {tg:Expr}
noncomputable def iList(K:c5k)(tl:TE):TI:=fun σ H R=>tl σ H fun x H1=>∃ a,x=.ref a∧(∃ xs,SqL K H1 a xs)∧R (Itl K a) H1
noncomputable def iTup(K:c5k)(tl:TE):TI:=fun σ H R=>tl σ H fun x H1=>∃ a,x=.ref a∧(∃ xs,SqT K H1 a xs)∧R (Itt K a) H1
theorem pi_list{l:Expr}{tl:TE}(hl:PE X l tl):PI X tg l (iList X.K tl):=by
 intro pins s σ H R I h;refine thn (hl pins s σ H _ I h) fun v s1 ⟨x,H1,I1,r1,q1⟩=>?_;obtain⟨a,e,⟨xs,hq⟩,q⟩:=q1;subst e;cases r1;obtain⟨its,rv,p,hz⟩:=I1.list hq;refine wpAny_pyIter_list p.isList ?_;refine⟨s1.heap.objs.size,[s1.heap.objs.size],_,_,H1,rfl,I1.kept (t':=s1.toks) fun b o e=>Heap.get?_push_of_some _ e,c1e a _,⟨_,Heap.get?_push_size _ rfl,rfl,rfl⟩,fun b hb=>?_,q⟩;have e:b=s1.heap.objs.size:=by simpa using hb
 subst e;exact I1.fpOk (c5v _) (I1.hok.fresh (c5v _))
theorem pi_tup{l:Expr}{tl:TE}(hl:PE X l tl):PI X tg l (iTup X.K tl):=by
 intro pins s σ H R I h;refine thn (hl pins s σ H _ I h) fun v s1 ⟨x,H1,I1,r1,q1⟩=>?_;obtain⟨a,e,⟨xs,hq⟩,q⟩:=q1;subst e;cases r1;obtain⟨its,rv,p,hz⟩:=I1.tuple hq;refine wpAny_pyIter_tuple (show s1.heap.IsTuple a its.toArray from p) ?_;refine⟨s1.heap.objs.size,[s1.heap.objs.size],_,_,H1,rfl,I1.kept (t':=s1.toks) fun b o e=>Heap.get?_push_of_some _ e,b9o a _,⟨_,Heap.get?_push_size _ rfl,rfl,rfl⟩,fun b hb=>?_,q⟩;have e:b=s1.heap.objs.size:=by simpa using hb
 subst e;exact I1.fpOk (c5v _) (I1.hok.fresh (c5v _))
theorem b8i{pins:List (Addr×Obj)}{σ:St}{H:Hp}{s:Shared}{R:It→Hp→Prop}{E:Value→Shared→Prop}{lo hi:Int}{t u v:Tok}{tk:Nat}(I:Inv X pins σ H s)(h1:-(2^62)≤lo)(h2:lo<2^62)(h3:-(2^62)≤hi)(h4:hi<2^62)(q:R (Itr lo (hi - lo).toNat) H):wpAny (model X.prog X.w) X.A (pyIter (.ref s.heap.objs.size)) (PIE X pins σ tg R) E { s with heap:=s.heap.push { cls:=.type "range",data:=.fields #[.int lo t,.int hi u,.int 1 v] },toks:=tk }:=by
 refine wpAny_pyIter_range (IsRange.new ..) (small_one h1 h2 h3 h4) ?_;have I1:Inv X pins σ H { s with heap:=s.heap.push { cls:=.type "range",data:=.fields #[.int lo t,.int hi u,.int 1 v] },toks:=tk }:=I.kept fun b o e=>Heap.get?_push_of_some _ e;refine⟨(s.heap.push { cls:=.type "range",data:=.fields #[.int lo t,.int hi u,.int 1 v] }).objs.size,[(s.heap.push { cls:=.type "range",data:=.fields #[.int lo t,.int hi u,.int 1 v] }).objs.size],_,_,H,rfl,
   I1.kept (t':=tk) fun b o e=>Heap.get?_push_of_some _ e,b9p _ lo (hi - lo).toNat,?_,fun b hb=>?_,q⟩
 · have e1:lo+((0:Nat):Int)*1=lo:=by simp
   have e2:(((hi - lo).toNat:Nat):Int) - ((0:Nat):Int)=Builtin.Range.rangeSize lo hi 1:=by rw[rangeSize_one];split<;>omega
   show IsRangeIter _ _ (lo+((0:Nat):Int)*1) ((((hi - lo).toNat:Nat):Int) - ((0:Nat):Int)) 1;rw[e1,e2];exact Heap.get?_push_size _ rfl
 · have e:b=(s.heap.push { cls:=.type "range",data:=.fields #[.int lo t,.int hi u,.int 1 v] }).objs.size:=by simpa using hb
   subst e;exact I1.fpOk (c5v _) (I1.hok.fresh (c5v _))
noncomputable def iRng1(ta:TA):TI:=fun σ H R=>ta σ H fun vs H1=>∃ j:Int,vs=[.int j]∧-(2^62)≤j∧j<2^62∧R (Itr 0 j.toNat) H1
noncomputable def iRng2(ta:TA):TI:=fun σ H R=>ta σ H fun vs H1=>∃ i j:Int,vs=[.int i,.int j]∧(-(2^62)≤i∧i<2^62∧-(2^62)≤j∧j<2^62)∧R (Itr i (j - i).toNat) H1
theorem c2h{a:Expr}{ta:TA}{p pos:Pos}(hg:Gl X "range")(hm:X.mg "range" = none)(ha:PA X [a] ta)(hs:starEach [a] X.env=[(false,eval a X.env)]:=by rfl):PI X tg (.Call (.Name "range" p) [a] [] pos) (iRng1 ta):=by
 intro pins s σ H R I h;refine Call_ (a9g I hg hm boot_range (c8b (thn (ha pos pins s σ H _ I h) fun us s1 ⟨vs,H1,I1,r1,q1⟩=>?_) hs rfl));obtain⟨j,e,q1,q2,q⟩:=q1;subst e;cases r1 with
 | cons r rr=>
   cases rr;obtain⟨t,rfl⟩:=r;exact call_range_1 (b8i I1 (by omega) (by omega) q1 q2 (by simpa using q))
theorem c2g{a b:Expr}{ta:TA}{p pos:Pos}(hg:Gl X "range")(hm:X.mg "range" = none)(ha:PA X [a,b] ta)(hs:starEach [a,b] X.env=[(false,eval a X.env),(false,eval b X.env)]:=by rfl)(hs2:starEach [b] X.env=[(false,eval b X.env)]:=by rfl) :
   PI X tg (.Call (.Name "range" p) [a,b] [] pos) (iRng2 ta):=by
 intro pins s σ H R I h;refine Call_ (a9g I hg hm boot_range (c8b (thn (ha pos pins s σ H _ I h) fun us s1 ⟨vs,H1,I1,r1,q1⟩=>?_) (by rw[hs,hs2]) (by rw[hs2];rfl)));obtain⟨i,j,e,⟨q1,q2,q3,q4⟩,q⟩:=q1;subst e;cases r1 with
 | cons r rr=>
   cases rr with
   | cons r' rr=>
     cases rr;obtain⟨t,rfl⟩:=r;obtain⟨t',rfl⟩:=r';exact call_range_2 (b8i I1 q1 q2 q3 q4 q)
noncomputable def tFor(wi:TI)(g:TG)(tb:TS):TS:=fun D σ H=>wi σ H fun J H1=>∃ W:Nat→Nat→St→Hp→Prop,(∃ m,W 0 m σ H1)∧∀ i m σ H,W i m σ H→
 (J.stop i H∧D.nx σ H)∨(J.go i H∧∃ N:St→Hp→Prop,(∀ σ' H',N σ' H'→∃ m',m' < m∧W (i+1) m' σ' H')∧∀ x H',J.yld i H x H'→g x σ H' fun σ2 H2=>tb { D with nx:=N,ct:=N,bk:=D.nx } σ2 H2)
noncomputable def a5h(fp:List Addr)(h:Heap):List (Addr×Obj):=fp.filterMap fun b=>(h.get? b).map fun o=>(b,o)
theorem a1x{fp:List Addr}{h:Heap}{b:Addr}{o:Obj}(hb:b∈fp)(e:h.get? b=some o):(b,o)∈a5h fp h:=List.mem_filterMap.mpr ⟨b,hb,by rw[e];rfl⟩
theorem c2y{fp:List Addr}{h:Heap}{p:Addr×Obj}(hp:p∈a5h fp h):p.1∈fp∧h.get? p.1=some p.2:=by
 obtain⟨b,hb,e⟩:=List.mem_filterMap.mp hp;cases q:h.get? b with
 | none=>rw[q] at e;cases e
 | some o=>
   rw[q] at e;have e':(b,o)=p:=c6e.inj e;subst e';exact⟨hb,q⟩
theorem Inv.pinned{pins:List (Addr×Obj)}{σ:St}{H:Hp}{s:Shared}{fp:List Addr}(I:Inv X pins σ H s)(hf:∀ b∈fp,FpOk X pins H b)(ho:∀ b∈fp,∃ o,s.heap.get? b=some o∧∀ v,o.data≠.cell v):Inv X (pins++a5h fp s.heap) σ H s:=
 I.pins_of fun p hp=>(c6q.mp hp).elim (fun z=>I.pin p (c5u _ z)) fun z=>by
   obtain⟨hb,e⟩:=c2y z;obtain⟨f0,f1,f2,_⟩:=hf p.1 hb;obtain⟨o,e',d⟩:=ho p.1 hb;rw[e] at e';cases e';exact⟨e,f0,f1,f2,d⟩
theorem Inv.unpinned{pins pl:List (Addr×Obj)}{σ:St}{H:Hp}{s:Shared}(I:Inv X (pins++pl) σ H s):Inv X pins σ H s:=I.pins_of fun p hp=>I.pin p (c5u _ (List.mem_append_left _ hp))
theorem ps_for{iter:Expr}{body:List Stmt}{wi:TI}{g:TG}{tb:TS}{pos:Pos}(hp:PassesOwn (model X.prog X.w) X.A X.env X.xe)(hc:X.calm=true)(hi:PI X tg iter wi)(hg:PG X tg g)(hb:PSs X body tb)(hs:∀ x,foldedSetIterable iter X.env x=pure x:=by intro _;rfl):PS X (.For tg iter body [] pos) (tFor wi g tb):=by
 intro pins s σ H D I h;refine wpAny_For (thn (hi pins s σ H _ I h) fun v s1 h1=>thn h1 fun itv s2 h2=>?_) hs;obtain⟨it,fp,tn,J,H2,e,I2,T,st2,f2,W,⟨m0,w0⟩,turn⟩:=h2;subst e;have stat:∀ {H':Hp},(∀ b∈fp,H' b=none)→∀ b∈fp,FpOk X pins H' b:=fun hn b hb=>⟨hn b hb,(f2 b hb).2⟩
 refine codeAny_forLoop_any (fun n s'=>∃ i σ' H',Inv X pins σ' H' s'∧tn i s'.heap∧(∀ b∈fp,H' b=none)∧W i n σ' H') ?_ m0 ⟨0,σ,H2,I2,st2,fun b hb=>(f2 b hb).1,w0⟩;rintro n s3 ⟨i,σ3,H3,I3,st3,fr3,w3⟩;rcases turn i n σ3 H3 w3 with⟨stop,qn⟩ | ⟨go,N,hN,step⟩
 · refine wpAny_passesOwn hp (thn (T.done X rfl rfl rfl hc i pins s3 σ3 H3 X.xe I3 (stat fr3) st3 stop) fun r s4 ⟨hr,I4⟩=>?_);subst hr;exact wpAny_execs_nil ⟨σ3,H3,I4,qn⟩
 · refine wpAny_passesOwn hp (thn (T.item X rfl rfl rfl hc i pins s3 σ3 H3 X.xe I3 (stat fr3) st3 go) fun r s4 ⟨u,hr,h4⟩=>?_);subst hr;refine wpAny_passesOwn hp (thn h4 fun _ s5 ⟨x,H5,I5,r5,y5,st5,fr5⟩=>?_);have I5':=I5.pinned (stat fr5) (T.obj _ _ st5);refine wpAny_passesOwn hp (thn (hg _ s5 σ3 H5 x u _ I5' r5 (step x H5 y5)) fun _ s6 ⟨σ6,H6,I6,q6⟩=>?_);refine wpAny_passesOwn hp (thn (hb _ s6 σ6 H6 _ I6 q6) fun f s7 q7=>?_);have again:∀ {σ7:St} {H7:Hp},Inv X (pins++a5h fp s5.heap) σ7 H7 s7→N σ7 H7→∃ m,m<n∧∃ i σ' H',Inv X pins σ' H' s7∧tn i s7.heap∧(∀ b∈fp,H' b=none)∧W i m σ' H':=fun {σ7 H7} I7 n7=>by
     obtain⟨m',hm,w7⟩:=hN σ7 H7 n7;refine⟨m',hm,i+1,σ7,H7,I7.unpinned,T.keep _ _ _ st5 fun b hb o e=>(I7.pin (b,o) (c5u _ (c5u _ (a1x hb e)))).1,fun b hb=>?_,w7⟩;obtain⟨o,e,d⟩:=T.obj _ _ st5 b hb;exact (I7.pin (b,o) (c5u _ (c5u _ (a1x hb e)))).2.1
   cases f with
   | next=>obtain⟨σ7,H7,I7,n7⟩:=q7;exact again I7 n7
   | cont=>obtain⟨σ7,H7,I7,n7⟩:=q7;exact again I7 n7
   | brk=>obtain⟨σ7,H7,I7,q7⟩:=q7;exact⟨σ7,H7,I7.unpinned,q7⟩
   | ret v=>obtain⟨x7,σ7,H7,I7,r7,q7⟩:=q7;exact⟨x7,σ7,H7,I7.unpinned,r7,q7⟩
end
theorem a4n{K:c5k}{a:Addr}{xs:List V}{g:TG}{tb:TS}{D:Ends}{σ:St}{H:Hp}(Pv:Nat→St→Hp→Prop)(h0:Pv 0 σ H)(hl:∀ i σ H,i≤xs.length→Pv i σ H→SqL K H a xs)(hs:∀ i x σ H,xs[i]?=some x→Pv i σ H→g x σ H fun σ2 H2=>tb { D with nx:=Pv (i+1),ct:=Pv (i+1),bk:=D.nx } σ2 H2)(hd:∀ σ H,Pv xs.length σ H→D.nx σ H) :
   ∃ W:Nat→Nat→St→Hp→Prop,(∃ m,W 0 m σ H)∧∀ i m σ H,W i m σ H→
     ((Itl K a).stop i H∧D.nx σ H)∨((Itl K a).go i H∧∃ N:St→Hp→Prop,(∀ σ' H',N σ' H'→∃ m',m' < m∧W (i+1) m' σ' H')∧∀ x H',(Itl K a).yld i H x H'→g x σ H' fun σ2 H2=>tb { D with nx:=N,ct:=N,bk:=D.nx } σ2 H2):=by
 refine⟨fun i m σ H=>m=xs.length - i∧i≤xs.length∧Pv i σ H,⟨xs.length,by simp,c7c _,h0⟩,?_⟩;rintro i m σ H ⟨rfl,hi,p⟩;have q:=hl i σ H hi p;by_cases hlt:i<xs.length
 · refine .inr ⟨⟨xs,xs[i],q,by simp[hlt]⟩,Pv (i+1),fun σ' H' p'=>⟨xs.length - (i+1),by omega,rfl,hlt,p'⟩,fun x H' y=>?_⟩;obtain⟨e,y⟩:=y;subst e;exact hs i x σ _ (y xs q) p
 · have e:i=xs.length:=by omega
   subst e;exact .inl ⟨⟨xs,q,c5v _⟩,hd σ H p⟩
theorem c4k{K:c5k}{a:Addr}{xs:List V}{g:TG}{tb:TS}{D:Ends}{σ:St}{H:Hp}(Pv:Nat→St→Hp→Prop)(h0:Pv 0 σ H)(hl:∀ i σ H,i≤xs.length→Pv i σ H→SqT K H a xs)(hs:∀ i x σ H,xs[i]?=some x→Pv i σ H→g x σ H fun σ2 H2=>tb { D with nx:=Pv (i+1),ct:=Pv (i+1),bk:=D.nx } σ2 H2)(hd:∀ σ H,Pv xs.length σ H→D.nx σ H) :
   ∃ W:Nat→Nat→St→Hp→Prop,(∃ m,W 0 m σ H)∧∀ i m σ H,W i m σ H→
     ((Itt K a).stop i H∧D.nx σ H)∨((Itt K a).go i H∧∃ N:St→Hp→Prop,(∀ σ' H',N σ' H'→∃ m',m' < m∧W (i+1) m' σ' H')∧∀ x H',(Itt K a).yld i H x H'→g x σ H' fun σ2 H2=>tb { D with nx:=N,ct:=N,bk:=D.nx } σ2 H2):=by
 refine⟨fun i m σ H=>m=xs.length - i∧i≤xs.length∧Pv i σ H,⟨xs.length,by simp,c7c _,h0⟩,?_⟩;rintro i m σ H ⟨rfl,hi,p⟩;have q:=hl i σ H hi p;by_cases hlt:i<xs.length
 · refine .inr ⟨⟨xs,xs[i],q,by simp[hlt]⟩,Pv (i+1),fun σ' H' p'=>⟨xs.length - (i+1),by omega,rfl,hlt,p'⟩,fun x H' y=>?_⟩;obtain⟨e,y⟩:=y;subst e;exact hs i x σ _ (y xs q) p
 · have e:i=xs.length:=by omega
   subst e;exact .inl ⟨⟨xs,q,c5v _⟩,hd σ H p⟩
theorem a4i{lo:Int}{n:Nat}{g:TG}{tb:TS}{D:Ends}{σ:St}{H:Hp}(Pv:Nat→St→Hp→Prop)(h0:Pv 0 σ H)(hs:∀ i σ H,i<n→Pv i σ H→g (.int (lo+i)) σ H fun σ2 H2=>tb { D with nx:=Pv (i+1),ct:=Pv (i+1),bk:=D.nx } σ2 H2)(hd:∀ σ H,Pv n σ H→D.nx σ H) :
   ∃ W:Nat→Nat→St→Hp→Prop,(∃ m,W 0 m σ H)∧∀ i m σ H,W i m σ H→
     ((Itr lo n).stop i H∧D.nx σ H)∨((Itr lo n).go i H∧∃ N:St→Hp→Prop,(∀ σ' H',N σ' H'→∃ m',m' < m∧W (i+1) m' σ' H')∧∀ x H',(Itr lo n).yld i H x H'→g x σ H' fun σ2 H2=>tb { D with nx:=N,ct:=N,bk:=D.nx } σ2 H2):=by
 refine⟨fun i m σ H=>m=n - i∧i≤n∧Pv i σ H,⟨n,by simp,c7c _,h0⟩,?_⟩;rintro i m σ H ⟨rfl,hi,p⟩;by_cases hlt:i<n
 · refine .inr ⟨hlt,Pv (i+1),fun σ' H' p'=>⟨n - (i+1),by omega,rfl,hlt,p'⟩,fun x H' y=>?_⟩;obtain⟨e,y⟩:=y;subst e y;exact hs i σ _ hlt p
 · have e:i=n:=by omega
   subst e;exact .inl ⟨c5v _,hd σ H p⟩
theorem b3a{c:TT}{tb:TS}{D:Ends}{σ:St}{H:Hp}(Pv:St→Hp→Prop)(μ:St→Hp→Nat)(h0:Pv σ H)(hs:∀ σ H,Pv σ H→c σ H fun b H1=>if b=true then tb { D with nx:=fun σ' H'=>Pv σ' H'∧μ σ' H' < μ σ H,ct:=fun σ' H'=>Pv σ' H'∧μ σ' H' < μ σ H,bk:=D.nx } σ H1 else D.nx σ H1)(mono:∀ σ H Q Q',(∀ b H1,Q b H1→Q' b H1)→c σ H Q→c σ H Q'):b7p c tb D σ H:=by
 refine⟨fun m σ H=>m=μ σ H∧Pv σ H,⟨_,rfl,h0⟩,?_⟩;rintro m σ H ⟨rfl,p⟩;refine mono σ H _ _ (fun b H1 q=>?_) (hs σ H p);cases b with
 | true=>exact⟨_,fun σ' H' ⟨p',l⟩=>⟨_,l,rfl,p'⟩,q⟩
 | false=>exact q
abbrev R2:=V→V→Hp→VK→Prop
noncomputable def OpR(X:Cx)(f:Value→Value→Sem Value)(r:R2):Prop:=
 ∀ (pins:List (Addr×Obj)) (s:Shared) (σ:St) (H:Hp) (x y:V) (v u:Value) (Q:VK),Inv X pins σ H s→RelV x v→RelV y u→r x y H Q→
   wpAny (model X.prog X.w) X.A (f v u) (EP X pins σ Q) X.xe s
noncomputable def UnR(X:Cx)(f:Value→Sem Value)(r:V→Hp→VK→Prop):Prop:=
 ∀ (pins:List (Addr×Obj)) (s:Shared) (σ:St) (H:Hp) (x:V) (v:Value) (Q:VK),Inv X pins σ H s→RelV x v→r x H Q→
   wpAny (model X.prog X.w) X.A (f v) (EP X pins σ Q) X.xe s
noncomputable def a6x(X:Cx)(f:Value)(r:List V→Hp→VK→Prop):Prop:=
 ∀ (pins:List (Addr×Obj)) (s:Shared) (σ:St) (H:Hp) (xs:List V) (us:List Value) (Q:VK),Inv X pins σ H s→Vals xs us→r xs H Q→
   wpAny (model X.prog X.w) X.A (call f us) (EP X pins σ Q) X.xe s
noncomputable def tOp(r:R2)(ta tb:TE):TE:=fun σ H Q=>ta σ H fun x H1=>tb σ H1 fun y H2=>r x y H2 Q
noncomputable def tUn(r:V→Hp→VK→Prop)(ta:TE):TE:=fun σ H Q=>ta σ H fun x H1=>r x H1 Q
noncomputable def rI(C:Int→Int→Prop)(g:Int→Int→V):R2:=fun x y H Q=>∃ i j,x=.int i∧y=.int j∧C i j∧Q (g i j) H
noncomputable def rI0(g:Int→Int→V):R2:=fun x y H Q=>∃ i j,x=.int i∧y=.int j∧Q (g i j) H
noncomputable def rU(g:Int→V):V→Hp→VK→Prop:=fun x H Q=>∃ i,x=.int i∧Q (g i) H
section
variable {X:Cx} {a b c:Expr} {ta tb tc:TE} {pos:Pos}
theorem binT(ha:PE X a ta)(hb:PE X b tb){pins:List (Addr×Obj)}{s:Shared}{σ:St}{H:Hp}{R:V→V→Hp→Prop}(I:Inv X pins σ H s)(h:ta σ H fun x H1=>tb σ H1 fun y H2=>R x y H2){Q:Value→Shared→Prop}{f:Value→Value→Sem Value}(hf:∀ v u s2 x y H2,Inv X pins σ H2 s2→RelV x v→RelV y u→R x y H2→wpAny (model X.prog X.w) X.A (f v u) Q X.xe s2) :
   wpAny (model X.prog X.w) X.A (eval a X.env) (fun v s₁=>wpAny (model X.prog X.w) X.A (eval b X.env) (fun u s₂=>wpAny (model X.prog X.w) X.A (f v u) Q X.xe s₂) X.xe s₁) X.xe s:=by
 refine thn (ha pins s σ H _ I h) fun v s1 ⟨x,H1,I1,r1,q1⟩=>?_;refine thn (hb pins s1 σ H1 _ I1 q1) fun u s2 ⟨y,H2,I2,r2,q2⟩=>?_;exact hf v u s2 x y H2 I2 r1 r2 q2
theorem pe_op{op:Operator}{r:R2}(ho:OpR X (binaryOp op) r)(ha:PE X a ta)(hb:PE X b tb):PE X (.BinOp a op b pos) (tOp r ta tb):=by
 intro pins s σ H Q I h;exact wpAny_BinOp (binT ha hb I h fun v u s2 x y H2 I2 rx ry q=>ho pins s2 σ H2 x y v u Q I2 rx ry q)
theorem pe_un{op:UnaryOp}{r:V→Hp→VK→Prop}(ho:UnR X (unaryOp op) r)(ha:PE X a ta):PE X (.UnaryOp op a pos) (tUn r ta):=by
 intro pins s σ H Q I h;exact UnaryOp_ (thn (ha pins s σ H _ I h) fun v s1 ⟨x,H1,I1,r1,q1⟩=>ho pins s1 σ H1 x v Q I1 r1 q1)
theorem opI{f:Value→Value→Sem Value}{C:Int→Int→Prop}{g:Int→Int→Int}(rule:∀ (i j:Int) (t u:Tok) (s:Shared) (Q:Value→Shared→Prop) (E:Value→Shared→Prop),C i j→Q (.int (g i j) s.toks) { s with toks:=s.toks+1 }→wpAny (model X.prog X.w) X.A (f (.int i t) (.int j u)) Q E s) :
   OpR X f (rI C fun i j=>.int (g i j)):=by
 intro pins s σ H x y v u Q I rx ry h;obtain⟨i,j,rfl,rfl,hc,q⟩:=h;obtain⟨t,rfl⟩:=rx;obtain⟨t',rfl⟩:=ry;exact rule i j t t' s _ _ hc ⟨.int (g i j),H,I.tok _,⟨_,rfl⟩,q⟩
theorem opI0{f:Value→Value→Sem Value}{g:Int→Int→Int}(rule:∀ (i j:Int) (t u:Tok) (s:Shared) (Q:Value→Shared→Prop) (E:Value→Shared→Prop),Q (.int (g i j) s.toks) { s with toks:=s.toks+1 }→wpAny (model X.prog X.w) X.A (f (.int i t) (.int j u)) Q E s) :
   OpR X f (rI0 fun i j=>.int (g i j)):=by
 intro pins s σ H x y v u Q I rx ry h;obtain⟨i,j,rfl,rfl,q⟩:=h;obtain⟨t,rfl⟩:=rx;obtain⟨t',rfl⟩:=ry;exact rule i j t t' s _ _ ⟨.int (g i j),H,I.tok _,⟨_,rfl⟩,q⟩
theorem opB0{f:Value→Value→Sem Value}{g:Int→Int→Bool}(rule:∀ (i j:Int) (t u:Tok) (s:Shared) (Q:Value→Shared→Prop) (E:Value→Shared→Prop),Q (.bool (g i j)) s→wpAny (model X.prog X.w) X.A (f (.int i t) (.int j u)) Q E s) :
   OpR X f (rI0 fun i j=>.bl (g i j)):=by
 intro pins s σ H x y v u Q I rx ry h;obtain⟨i,j,rfl,rfl,q⟩:=h;obtain⟨t,rfl⟩:=rx;obtain⟨t',rfl⟩:=ry;exact rule i j t t' s _ _ ⟨.bl (g i j),H,I,rfl,q⟩
noncomputable def CDiv(i j:Int):Prop:=0<j∧j<1073741824
noncomputable def CPow(i j:Int):Prop:=0≤j∧j≤1000000∧i.natAbs<2^64
noncomputable def CMul(i j:Int):Prop:=(-(2^64)<i∧i<2^64)∨(-(2^64)<j∧j<2^64)
theorem CMul.ok{i j:Int}(h:CMul i j):IntMulOk i j:=by
 rcases h with⟨h1,h2⟩ | ⟨h1,h2⟩
 · exact .of_left (intBits_le_64 h1 h2)
 · exact .of_right (intBits_le_64 h1 h2)
theorem a2f:OpR X (binaryOp .Add) (rI0 fun i j=>.int (i+j)):=opI0 fun _ _ _ _ _ _ _ q=>add_int q
theorem a3z:OpR X (binaryOp .Sub) (rI0 fun i j=>.int (i - j)):=opI0 fun _ _ _ _ _ _ _ q=>sub_int q
theorem a6j:OpR X (binaryOp .FloorDiv) (rI CDiv fun i j=>.int (i / j)):=opI fun i j _ _ _ _ _ hc q=>by
 have h1:(0:Int)<j:=hc.1;have h2:j<1073741824:=hc.2;exact floordiv_int (by omega) (by rw[c7f i (by omega)];exact q) (.inl (PyProof.noPylong_small (by omega)))
theorem a4a:OpR X (binaryOp .Mod) (rI (fun _ j=>0<j) fun i j=>.int (i % j)):=opI fun i j _ _ _ _ _ hc q=>by
 have h1:(0:Int)<j:=hc;exact mod_int' (by omega) (by rw[Int.fmod_eq_emod_of_nonneg i (by omega)];exact q)
theorem op_modN:OpR X (binaryOp .Mod) (rI (fun _ j=>j≠0) fun i j=>.int (i.fmod j)):=opI fun _ _ _ _ _ _ _ hc q=>mod_int' hc q
theorem op_pow:OpR X (binaryOp .Pow) (rI CPow fun i j=>.int (i^j.toNat)):=opI fun _ _ _ _ _ _ _ hc q=>pow_int_small hc.1 hc.2.1 hc.2.2 q
theorem b2u:OpR X (binaryOp .LShift) (rI CPow fun i j=>.int (i*2^j.toNat)):=opI fun _ _ _ _ _ _ _ hc q=>lshift_int_small hc.1 hc.2.1 hc.2.2 q
theorem unI{f:Value→Sem Value}{g:Int→Int}(rule:∀ (i:Int) (t:Tok) (s:Shared) (Q:Value→Shared→Prop) (E:Value→Shared→Prop),Q (.int (g i) s.toks) { s with toks:=s.toks+1 }→wpAny (model X.prog X.w) X.A (f (.int i t)) Q E s) :
   UnR X f (rU fun i=>.int (g i)):=by
 intro pins s σ H x v Q I rx h;obtain⟨i,rfl,q⟩:=h;obtain⟨t,rfl⟩:=rx;exact rule i t s _ _ ⟨.int (g i),H,I.tok _,⟨_,rfl⟩,q⟩
theorem a7m:UnR X (unaryOp .USub) (rU fun i=>.int (-i)):=unI fun _ _ _ _ _ q=>neg_int q
end
noncomputable def scal:V→V→Bool
 | .non,.non=>true | .non,.int _=>true | .int _,.non=>true | .non,.bl _=>true | .bl _,.non=>true | .non,.str _=>true | .str _,.non=>true
 | .int _,.int _=>true | .bl _,.bl _=>true | .str _,.str _=>true | .byt _,.byt _=>true
 | .int _,.str _=>true | .str _,.int _=>true | .bl _,.str _=>true | .str _,.bl _=>true
 | _,_=>false
noncomputable def rEq:R2:=fun x y H Q=>scal x y=true∧Q (.bl (decide (x=y))) H
noncomputable def rNe:R2:=fun x y H Q=>scal x y=true∧Q (.bl (!decide (x=y))) H
theorem c4q{i j:Int}:decide (V.int i=V.int j)=(i == j):=by
 rw[Bool.eq_iff_iff];simp
theorem dec_bl{i j:Bool}:decide (V.bl i=V.bl j)=(i == j):=by
 rw[Bool.eq_iff_iff];simp
theorem c4p{i j:Str}:decide (V.str i=V.str j)=(i == j):=by
 rw[Bool.eq_iff_iff];simp
theorem c4r{i j:Array UInt8}:decide (V.byt i=V.byt j)=(i.toList == j.toList):=by
 rw[Bool.eq_iff_iff];cases i;cases j;simp
section
variable {X:Cx} {a b c:Expr} {ta tb tc:TE} {pos:Pos}
theorem a1z{pins:List (Addr×Obj)}{σ:St}{H:Hp}{s:Shared}{Q:VK}{k k':Bool}(I:Inv X pins σ H s)(q:Q (.bl k) H)(e:k=k'):EP X pins σ Q (.bool k') s:=by
 subst e;exact⟨.bl k,H,I,rfl,q⟩
theorem a9m:OpR X (compareOp .Eq) rEq:=by
 intro pins s σ H x y v u Q I rx ry h;obtain⟨hs,q⟩:=h;cases x with
 | non=>
   cases rx;cases y with
   | non=>cases ry;exact PySem.EqNone.eq_none_none (a1z I q (by simp))
   | bl j=>cases ry;exact PySem.EqNone.eq_none_bool (a1z I q (by simp))
   | int j=>obtain⟨t',rfl⟩:=ry;exact PySem.EqNone.eq_none_int (a1z I q (by simp))
   | str j=>obtain⟨t',rfl⟩:=ry;exact PySem.EqNone.eq_none_str (a1z I q (by simp))
   | _=>exact absurd (show false=true from hs) c6s
 | bl i=>
   cases rx;cases y with
   | non=>cases ry;exact PySem.EqNone.eq_bool_none (a1z I q (by simp))
   | bl j=>cases ry;exact eq_bool (a1z I q dec_bl)
   | str j=>obtain⟨t',rfl⟩:=ry;exact PySem.EqMixed.eq_bool_str (a1z I q (by simp))
   | _=>exact absurd (show false=true from hs) c6s
 | int i=>
   obtain⟨t,rfl⟩:=rx;cases y with
   | non=>cases ry;exact PySem.EqNone.eq_int_none (a1z I q (by simp))
   | int j=>obtain⟨t',rfl⟩:=ry;exact eq_int (a1z I q c4q)
   | str j=>obtain⟨t',rfl⟩:=ry;exact PySem.EqMixed.eq_int_str (a1z I q (by simp))
   | _=>exact absurd (show false=true from hs) c6s
 | str i=>
   obtain⟨t,rfl⟩:=rx;cases y with
   | non=>cases ry;exact PySem.EqNone.eq_str_none (a1z I q (by simp))
   | bl j=>cases ry;exact PySem.EqMixed.eq_str_bool (a1z I q (by simp))
   | int j=>obtain⟨t',rfl⟩:=ry;exact PySem.EqMixed.eq_str_int (a1z I q (by simp))
   | str j=>obtain⟨t',rfl⟩:=ry;exact eq_str (a1z I q c4p)
   | _=>exact absurd (show false=true from hs) c6s
 | byt i=>
   obtain⟨t,rfl⟩:=rx;cases y with
   | byt j=>obtain⟨t',rfl⟩:=ry;exact PySem.W.eq_bytes (a1z I q c4r)
   | _=>exact absurd (show false=true from hs) c6s
 | _=>cases y<;>exact absurd (show false=true from hs) c6s
theorem c2p:OpR X (compareOp .NotEq) rNe:=by
 intro pins s σ H x y v u Q I rx ry h;obtain⟨hs,q⟩:=h;cases x with
 | non=>
   cases rx;cases y with
   | non=>cases ry;exact PySem.EqNone.ne_none_none (a1z I q (by simp))
   | bl j=>cases ry;exact PySem.EqNone.ne_none_bool (a1z I q (by simp))
   | int j=>obtain⟨t',rfl⟩:=ry;exact PySem.EqNone.ne_none_int (a1z I q (by simp))
   | str j=>obtain⟨t',rfl⟩:=ry;exact PySem.EqNone.ne_none_str (a1z I q (by simp))
   | _=>exact absurd (show false=true from hs) c6s
 | bl i=>
   cases rx;cases y with
   | non=>cases ry;exact PySem.EqNone.ne_bool_none (a1z I q (by simp))
   | bl j=>cases ry;exact ne_bool (a1z I q (congrArg not dec_bl))
   | str j=>obtain⟨t',rfl⟩:=ry;exact PySem.EqMixed.ne_bool_str (a1z I q (by simp))
   | _=>exact absurd (show false=true from hs) c6s
 | int i=>
   obtain⟨t,rfl⟩:=rx;cases y with
   | non=>cases ry;exact PySem.EqNone.ne_int_none (a1z I q (by simp))
   | int j=>obtain⟨t',rfl⟩:=ry;exact ne_int (a1z I q (congrArg not c4q))
   | str j=>obtain⟨t',rfl⟩:=ry;exact PySem.EqMixed.ne_int_str (a1z I q (by simp))
   | _=>exact absurd (show false=true from hs) c6s
 | str i=>
   obtain⟨t,rfl⟩:=rx;cases y with
   | non=>cases ry;exact PySem.EqNone.ne_str_none (a1z I q (by simp))
   | bl j=>cases ry;exact PySem.EqMixed.ne_str_bool (a1z I q (by simp))
   | int j=>obtain⟨t',rfl⟩:=ry;exact PySem.EqMixed.ne_str_int (a1z I q (by simp))
   | str j=>obtain⟨t',rfl⟩:=ry;exact ne_str (a1z I q (congrArg not c4p))
   | _=>exact absurd (show false=true from hs) c6s
 | byt i=>
   obtain⟨t,rfl⟩:=rx;cases y with
   | byt j=>obtain⟨t',rfl⟩:=ry;exact PySem.W.ne_bytes (a1z I q (congrArg not c4r))
   | _=>exact absurd (show false=true from hs) c6s
 | _=>cases y<;>exact absurd (show false=true from hs) c6s
theorem b9x:OpR X (compareOp .Lt) (rI0 fun i j=>.bl (decide (i<j))):=opB0 fun _ _ _ _ _ _ _ q=>lt_int q
theorem b9y:OpR X (compareOp .Gt) (rI0 fun i j=>.bl (decide (j<i))):=opB0 fun _ _ _ _ _ _ _ q=>gt_int q
theorem op_ge:OpR X (compareOp .GtE) (rI0 fun i j=>.bl (decide (j≤i))):=opB0 fun _ _ _ _ _ _ _ q=>ge_int q
theorem op_isN:OpR X (compareOp .Is) (fun x y H Q=>y=.non∧Q (.bl (decide (x=.non))) H):=by
 intro pins s σ H x y v u Q I rx ry h;obtain⟨rfl,q⟩:=h;cases ry;refine is_none_gen (a1z I q ?_);cases x<;>first
   | (cases rx;rfl)
   | (obtain⟨t,rfl⟩:=rx;rfl)
theorem op_notN:OpR X (compareOp .IsNot) (fun x y H Q=>y=.non∧Q (.bl (!decide (x=.non))) H):=by
 intro pins s σ H x y v u Q I rx ry h;obtain⟨rfl,q⟩:=h;cases ry;refine isnot_none_gen (a1z I q ?_);cases x<;>first
   | (cases rx;rfl)
   | (obtain⟨t,rfl⟩:=rx;rfl)
theorem a1t(b:Expr){op:CmpOp}(h:op≠.In:=by decide)(h2:op≠.NotIn:=by decide):behindInMarks op b=false:=by
 have e1:(op == CmpOp.In)=false:=by cases op<;>first | rfl | exact absurd rfl h
 have e2:(op == CmpOp.NotIn)=false:=by cases op<;>first | rfl | exact absurd rfl h2
 cases b<;>simp[behindInMarks,e1,e2]
theorem pe_cmpR{op:CmpOp}{r:R2}(ho:OpR X (compareOp op) r)(ha:PE X a ta)(hb:PE X b tb)(hm:behindInMarks op b=false):PE X (.Compare a [op] [b] pos) (tOp r ta tb):=by
 intro pins s σ H Q I h;exact wpAny_Compare1 (binT ha hb I h fun v u s2 x y H2 I2 rx ry q=>ho pins s2 σ H2 x y v u Q I2 rx ry q) hm
noncomputable def tTest(t:TE):TT:=fun σ H Q=>t σ H fun x H'=>∃ k,x=.bl k∧Q k H'
theorem pt_cmpR{op:CmpOp}{r:R2}(ho:OpR X (compareOp op) r)(ha:PE X a ta)(hb:PE X b tb)(hm:behindInMarks op b=false):PT X (.Compare a [op] [b] pos) (tTest (tOp r ta tb)):=by
 intro pins s σ H Q I h;refine wpAny_isTrue_Compare1 (thn (ha pins s σ H _ I h) fun v s1 ⟨x,H1,I1,r1,q1⟩=>thn (hb pins s1 σ H1 _ I1 q1) fun u s2 ⟨y,H2,I2,r2,q2⟩=>
   thn (ho pins s2 σ H2 x y v u _ I2 r1 r2 q2) fun c s3 ⟨z,H3,I3,r3,k,e,q3⟩=>?_) hm
 subst e;cases r3;exact wpAny_truthy_bool ⟨H3,I3,q3⟩
theorem b5j:(sizeLine:Nat)<2^63:=by rw[sizeLine_eq];decide
theorem vals1{x:V}{us:List Value}(r:Vals [x] us):∃ u,us=[u]∧RelV x u:=by
 cases r with
 | cons r1 r2=>cases r2;exact⟨_,rfl,r1⟩
theorem vals2{x y:V}{us:List Value}(r:Vals [x,y] us):∃ u w',us=[u,w']∧RelV x u∧RelV y w':=by
 cases r with
 | cons r1 r2=>
   cases r2 with
   | cons r3 r4=>cases r4;exact⟨_,_,rfl,r1,r3⟩
theorem b4g:a6x X (.builtin "abs") (fun xs H Q=>∃ i,xs=[.int i]∧Q (.int (if i<0 then -i else i)) H):=by
 intro pins s σ H xs us Q I r h;obtain⟨i,rfl,q⟩:=h;obtain⟨u,rfl,t,rfl⟩:=vals1 r;exact call_abs_int fun u tk=>⟨.int (if i<0 then -i else i),H,I.tok _,⟨_,rfl⟩,q⟩
theorem c4z(hc:X.calm=true):a6x X (.builtin "max") (fun xs H Q=>∃ i j,xs=[.int i,.int j]∧Q (.int (if j > i then j else i)) H):=by
 intro pins s σ H xs us Q I r h;obtain⟨i,j,rfl,q⟩:=h;obtain⟨u,w',rfl,⟨t,rfl⟩,⟨t',rfl⟩⟩:=vals2 r;refine max_two_ints (I.ok.hd hc) fun h' tk k=>⟨_,H,I.kept k,?_,q⟩
 by_cases hj:j > i
 · rw[if_pos hj,if_pos hj];exact⟨_,rfl⟩
 · rw[if_neg hj,if_neg hj];exact⟨_,rfl⟩
end
structure ObjM(h:Heap)(x dx C:Addr)(mA:Str→Option Value):Prop where
 obj:h.get? x=some (c9f C dx)
 ns:h.Ns1 dx mA
 ne:dx≠x
theorem c3i{h:Heap}{dx:Addr}{mA:Str→Option Value}(n:h.Ns1 dx mA):∃ od,h.get? dx=some od∧∀ name,PySem.W.lookIn name od=some (mA name):=by
 obtain⟨o,es,ep,ho,hd,hk,_,hm⟩:=n;refine⟨o,ho,fun name=>?_⟩;have e:=hm name;unfold nsFind findBy at e;rw[← Array.find?_toList] at e;unfold PySem.W.lookIn;rw[hd];dsimp only;split
 · rename_i y q;rw[q] at e;exact congrArg some e
 · rename_i q;rw[q] at e;have a:es.toList.any (·.refKey)=false:=by
     rw[List.any_eq_false];intro y hy;obtain⟨z,t,hkey⟩:=hk y (Array.mem_toList_iff.mp hy);simp[DictEntry.refKey,hkey]
   have a':¬ es.toList.any (·.refKey)=true:=by rw[a];exact c6s
   rw[if_neg a'];exact congrArg some e
theorem ObjM.look{h:Heap}{x dx C:Addr}{mA:Str→Option Value}(I:ObjM h x dx C mA):∃ od,PySem.W.InstAt h x (c9f C dx) C (some od)∧∀ name,PySem.W.lookIn name od=some (mA name):=
 let ⟨od,ho,hl⟩:=c3i I.ns
 ⟨od,⟨I.obj,rfl,rfl,ho⟩,hl⟩
section
variable {prog:Program} {w:World} {A:Around} {E:Value→Shared→Prop} {s:Shared} {K:c5k} {x dx C f:Addr} {mA:Str→Option Value} {name:Str} {v:Value}
theorem get_map{expr:Bool}{Q:Value→Shared→Prop}(X:K.In s.heap)(I:ObjM s.heap x dx C mA)(hg:d0w K C name=true)(hh:d1f K C=true)(ha:c7h K (.ref C) name=some none)(hv:mA name=some v)(hv':PySem.W.handedIn v=true)(h:Q v { s with toks:=s.toks+1 }) :
   wpAny (model prog w) A (getAttr (.ref x) name expr) Q E s:=by
 obtain⟨od,J,hl⟩:=I.look;exact PySem.W.get_value X J (PySem.W.plainGet_of hg).1 (PySem.W.findObj_own hh ha rfl (by rw[hl,hv])) hv' h
theorem get_meth{pl:Sem Bool}{Q:Value×List Value→Shared→Prop}(X:K.In s.heap)(I:ObjM s.heap x dx C mA)(hg:d0w K C name=true)(hf:c7h K (.ref C) name=some (some (.ref f)))(ht:d1e K (.ref f)=true)(hv:mA name=none)(h:Q (.ref f,[.ref x]) s) :
   wpAny (model prog w) A (getMethod (.ref x) name pl) Q E s:=by
 obtain⟨od,J,hl⟩:=I.look;exact PySem.W.method_fn X J (PySem.W.plainGet_of hg).1 (PySem.W.plainGet_of hg).2 hf (beq_iff_eq.mp ht) (by show (PySem.W.lookIn name od).map (·.isSome)=some false;rw[hl,hv];rfl) h
theorem set_map{ns:List Str}{Q:Unit→Shared→Prop}(X:K.In s.heap)(I:ObjM s.heap x dx C mA)(hs:c7h K (.ref C) "__setattr__" = some (some (.builtin "object.__setattr__")))(hp:PySem.W.plainOver K C=true)(ht:PySem.W.takerIn K C name=some none)(hh:d1f K C=true)(hw:PySem.Within mA ns)(hsz:ns.length≤sizeLine)(h:∀ h',ObjM h' x dx C (fun y=>if y=name then some v else mA y)→Heap.SameBut dx s.heap h'→Q () { s with heap:=h',toks:=s.toks+2 }) :
   wpAny (model prog w) A (setAttr (.ref x) name v) Q E s:=by
 obtain⟨od,J,hl⟩:=I.look;refine PySem.W.set_plain X J hs (PySem.W.osa_open (s:={ s with toks:=s.toks+1 }) (r:=none) X J hp ht fun b=>?_);obtain⟨cd,hc,hd'⟩:=PySem.W.any_some hh;have hx:s.heap.get? x=some ⟨.ref C,some dx,.plain,#[]⟩:=I.obj;refine wpAny_bind (wpAny_pure (wpAny_bind (wpAny_bind (wpAny_loadPart hx (wpAny_bind (PySem.W.Looks.here (s:={ s with toks:=s.toks+1 }) (PySem.W.looks_clsIn X hc) ?_))))));rw[hd'];refine wpAny_pure (a:=some dx) (wpAny_bind (wpAny_pure (wpAny_bind ?_)));refine wpAny_nsSet1 (s:={ s with toks:=s.toks+1 }) I.ns fun h' hn2 hs2=>?_;obtain⟨oD,esD,epD,hoD,hdD,hcD⟩:=hn2.count (PySem.Within.cons name v hw);refine wpAny_bind (wpAny_lookBehind hoD (by rw[hdD];exact pastItsLine_dict (c7w hcD (by rw[c6y];omega))) ?_);exact wpAny_pure (h _ ⟨(hs2.2 _ (Ne.symm I.ne)).trans I.obj,hn2,I.ne⟩ hs2)
theorem make_map{R:Result→Shared→Prop}{vs:List Value}{kw:List (Str×Value)}(X:K.In s.heap)(hm:PySem.W.makesIn K C=true)(hi:c7h K (.ref C) "__init__" = some (some (.ref f)))(hf:PySem.W.typeIn K (.ref f)=some (.type "function"))(h:codeAny (model prog w) (A.under (.builtin "type.__call__" ⟨.ref C::vs,kw⟩)) (.call (.ref f) ⟨.ref (s.heap.objs.size+1)::vs,kw⟩) (PySem.W.InitBack (s.heap.objs.size+1) R)
     { s with heap:=(s.heap.push c8g).push (c9f C s.heap.objs.size) }) :
   codeAny (model prog w) A (.call (.ref C) ⟨vs,kw⟩) R s:=by
 obtain⟨hh,g,d,t,os⟩:=s;exact PySem.W.make_core (PySem.W.makes_of X hm) (PySem.W.looks_findIn X hi) (fun self=>PySem.W.bind_fn X self hf) (.inl rfl) h
end
noncomputable def putF(f:Str)(v:V):List (Str×V)→List (Str×V)
 | []=>[(f,v)]
 | (g,x)::r=>if g=f then (g,v)::r else (g,x)::putF f v r
theorem a0z(f g:Str)(v:V):∀ fs:List (Str×V),(putF f v fs).lookup g=if g=f then some v else fs.lookup g
 | []=>by
   show d0z g [(f,v)]=_;by_cases h:g=f
   · have hb:(g == f)=true:=beq_iff_eq.mpr h;simp only[d0z,hb,if_pos h]
   · have hb:(g == f)=false:=beq_eq_false_iff_ne.mpr h;simp only[d0z,hb,if_neg h]
 | (k,x)::r=>by
   have ih:=a0z f g v r;rw[show putF f v ((k,x)::r)=(if k=f then (k,v)::r else (k,x)::putF f v r) from rfl];by_cases hk:k=f
   · rw[if_pos hk];by_cases h:g=k
     · have hb:(g == k)=true:=beq_iff_eq.mpr h;simp only[d0z,hb,if_pos (h.trans hk)]
     · have hb:(g == k)=false:=beq_eq_false_iff_ne.mpr h;simp only[d0z,hb,if_neg (fun e:g=f=>h (e.trans hk.symm))]
   · rw[if_neg hk];by_cases h:g=k
     · have hb:(g == k)=true:=beq_iff_eq.mpr h;simp only[d0z,hb,if_neg (fun e:g=f=>hk (h.symm.trans e))]
     · have hb:(g == k)=false:=beq_eq_false_iff_ne.mpr h;simp only[d0z,hb];exact ih
theorem b1d(f:Str)(v:V):∀ fs:List (Str×V),f∈(putF f v fs).map (·.1)∧∀ g,g∈fs.map (·.1)→g∈(putF f v fs).map (·.1)
 | []=>⟨by simp[putF],fun g h=>by simp at h⟩
 | (k,x)::r=>by
   obtain⟨i1,i2⟩:=b1d f v r;rw[show putF f v ((k,x)::r)=(if k=f then (k,v)::r else (k,x)::putF f v r) from rfl];by_cases hk:k=f
   · rw[if_pos hk];subst hk;exact⟨by simp,fun g h=>by simpa using h⟩
   · rw[if_neg hk];refine⟨?_,fun g h=>?_⟩
     · rw[c8m];exact c6w _ i1
     · rw[c8m] at h ⊢;rcases c6f.mp h with e | e
       · exact c6f.mpr (.inl e)
       · exact c6w _ (i2 g e)
theorem b1b(f:Str)(v:V):∀ fs:List (Str×V),(putF f v fs).length≤fs.length+1
 | []=>by simp[putF]
 | (k,x)::r=>by
   have ih:=b1b f v r;rw[show putF f v ((k,x)::r)=(if k=f then (k,v)::r else (k,x)::putF f v r) from rfl];by_cases hk:k=f
   · rw[if_pos hk,c6y,c6y];omega
   · rw[if_neg hk,c6y,c6y];omega
theorem RelO.some_of{v:V}{o:Option Value}(r:RelO (some v) o):∃ u,o=some u∧RelV v u:=by
 cases o with
 | none=>exact (show False from r).elim
 | some u=>exact⟨u,rfl,r⟩
theorem RelO.none_of{o:Option Value}(r:RelO none o):o=none:=by
 cases o with
 | none=>rfl
 | some u=>exact (show False from r).elim
theorem c4e{v:V}{u:Value}(r:RelV v u):PySem.W.handedIn u=true:=by
 cases v with
 | non=>cases (show u=Value.none from r);rfl
 | bl b=>cases (show u=Value.bool b from r);rfl
 | int i=>obtain⟨t,e⟩:=(show ∃ t,u=Value.int i t from r);cases e;rfl
 | str x=>obtain⟨t,e⟩:=(show ∃ t,u=Value.str x t from r);cases e;rfl
 | byt b=>obtain⟨t,e⟩:=(show ∃ t,u=Value.bytes b t from r);cases e;rfl
 | flt b=>obtain⟨t,e⟩:=(show ∃ t,u=Value.float b t from r);cases e;rfl
 | ref a=>cases (show u=Value.ref a from r);rfl
 | ty n=>cases (show u=Value.type n from r);rfl
section
variable {P:Program} {w:World} {H H':Hp} {h h':Heap} {a C dx:Addr} {fs fs':List (Str×V)}
theorem b3t(hok:HOk P w H h)(e:H a=some (.ins C dx fs)):∃ mA,ObjM h a dx C mA∧(∀ f,RelO (fs.lookup f) (mA f))∧PySem.Within mA (fs.map (·.1))∧fs.length≤1000∧H dx=some (.own a):=by
 obtain⟨d,z,ne,ob,mA,n,r,q⟩:=(show a5b P w H h a (.ins C dx fs) from hok a _ e)
 exact⟨mA,⟨ob,n,ne⟩,r,q,z,d⟩
end
structure Cls(K:c5k)(C:Addr):Prop where
 pg:d0w K C Str.empty=true
 hd:d1f K C=true
 po:PySem.W.plainOver K C=true
 sa:c7h K (.ref C) "__setattr__" = some (some (.builtin "object.__setattr__"))
theorem Cls.get{K:c5k}{C:Addr}(c:Cls K C)(f:Str):d0w K C f=true:=c.pg
noncomputable def a2s(K:c5k)(C:Addr)(f:Str):Prop:=c7h K (.ref C) f=some none
theorem a2s.taker{K:c5k}{C:Addr}{f:Str}(n:a2s K C f):PySem.W.takerIn K C f=some none:=by
 unfold PySem.W.takerIn;rw[show c7h K (.ref C) f=some none from n];rfl
structure Meth(K:c5k)(C:Addr)(m:Str)(f:Addr):Prop where
 at_:c7h K (.ref C) m=some (some (.ref f))
 fn:d1e K (.ref f)=true
 kp:c5w K (.ref f)=true
section
variable {X:Cx} {pins:List (Addr×Obj)} {σ:St} {H:Hp} {s:Shared} {a C dx:Addr} {fs:List (Str×V)} {f:Str} {v:V} {A:Around} {E:Value→Shared→Prop}
theorem c0k{b:Bool}{Q:Value→Shared→Prop}(I:Inv X pins σ H s)(e:H a=some (.ins C dx fs))(c:Cls X.K C)(n:a2s X.K C f)(l:fs.lookup f=some v)(h:∀ u s',Inv X pins σ H s'→RelV v u→Q u s'):wpAny (model X.prog X.w) A (getAttr (.ref a) f b) Q E s:=by
 obtain⟨mA,O,r,_,_,_⟩:=b3t I.hok e;obtain⟨u,hu,ru⟩:=RelO.some_of (v:=v) (o:=mA f) (by rw[← l];exact r f);exact get_map I.kIn O (c.get f) c.hd n hu (c4e ru) (h u _ (I.tok _) ru)
theorem c0j{m:Str}{g:Addr}{pl:Sem Bool}{Q:Value×List Value→Shared→Prop}(I:Inv X pins σ H s)(e:H a=some (.ins C dx fs))(c:Cls X.K C)(k:Meth X.K C m g)(l:fs.lookup m=none)(h:Q (.ref g,[.ref a]) s):wpAny (model X.prog X.w) A (getMethod (.ref a) m pl) Q E s:=by
 obtain⟨mA,O,r,_,_,_⟩:=b3t I.hok e;have hn:mA m=none:=RelO.none_of (by rw[← l];exact r m);exact get_meth I.kIn O (c.get m) k.at_ k.fn hn h
theorem b2m{y:V}{u:Value}{Q:Unit→Shared→Prop}(I:Inv X pins σ H s)(e:H a=some (.ins C dx fs))(c:Cls X.K C)(n:a2s X.K C f)(hl:fs.length<1000)(ry:RelV y u)(h:∀ s',Inv X pins σ (upd H a (.ins C dx (putF f y fs))) s'→Q () s'):wpAny (model X.prog X.w) A (setAttr (.ref a) f u) Q E s:=by
 obtain⟨mA,O,r,wi,_,ho⟩:=b3t I.hok e;have hz:(fs.map (·.1)).length≤sizeLine:=by rw[c5l,sizeLine_eq];omega
 refine set_map I.kIn O c.sa c.po n.taker c.hd wi hz fun h' O' sb=>h _ ?_;have hd:∃ o,h'.get? dx=some o:=let ⟨o,_,_,e',_⟩:=O'.ns;⟨o,e'⟩;refine I.write (x:=a) (e:=dx) (by rw[e];exact True.intro) (.inr ho) (fun b q hb z=>(sb.2 b hb).trans z) hd ?_;refine⟨by rw[a0m O.ne];exact ho,?_,O.ne,O'.obj,_,O'.ns,fun g=>?_,fun g hg=>?_⟩
 · have:=b1b f y fs;omega
 · show RelO ((putF f y fs).lookup g) (if g=f then some u else mA g);rw[a0z];by_cases q:g=f
   · rw[if_pos q,if_pos q];exact ry
   · rw[if_neg q,if_neg q];exact r g
 · by_cases q:g=f
   · rw[q];exact (b1d f y fs).1
   · refine (b1d f y fs).2 g (wi g fun z=>hg ?_);show (if g=f then some u else mA g)=none;rw[if_neg q];exact z
theorem Inv.made(I:Inv X pins σ H s):Inv X pins σ (upd (upd H s.heap.objs.size (.own (s.heap.objs.size+1))) (s.heap.objs.size+1) (.ins C s.heap.objs.size []))
   { s with heap:=(s.heap.push c8g).push (c9f C s.heap.objs.size) }:=by
 have e1:(s.heap.push c8g).get? s.heap.objs.size=some c8g:=Heap.get?_push_size s.heap rfl;have e2:((s.heap.push c8g).push (c9f C s.heap.objs.size)).get? (s.heap.objs.size+1)=some (c9f C s.heap.objs.size):=by
   have:=Heap.get?_push_size (s.heap.push c8g) (o:=c9f C s.heap.objs.size) rfl
   rwa [Heap.size_push] at this
 have e3:(s.heap.push c8g).Ns s.heap.objs.size (fun _=>none):=⟨c8g,#[],_,e1,rfl,(fun e he=>absurd he (by simp)),fun _=>rfl⟩
 have I1:=I.laid (a:=s.heap.objs.size) (o:=.own (s.heap.objs.size+1)) (h':=s.heap.push c8g) (t':=s.toks) (fun b u q=>Heap.get?_push_of_some _ q) (c5v _) ⟨_,e1⟩;refine I1.laid (a:=s.heap.objs.size+1) (o:=.ins C s.heap.objs.size []) (t':=s.toks) (fun b u q=>Heap.get?_push_of_some _ q) (Nat.le_of_eq (Heap.size_push _ _)) ?_;have ne:s.heap.objs.size≠s.heap.objs.size+1:=c6l (c9z _);refine⟨by rw[a0m ne,a0d],c7c _,ne,e2,fun _=>none,(Heap.Ns1.of_empty e3).at fun o q=>Heap.get?_push_of_some _ q,fun _=>True.intro,fun y hy=>absurd rfl hy⟩
theorem attr_of{prog:Program}{w:World}{env:Env}{e:Expr}{f:Str}{pos:Pos}{s:Shared}{Q:Value→Shared→Prop}(hb:attributeBase e f env (eval e env)=eval e env)(h:wpAny (model prog w) A (eval e env) (fun o s₁=>wpAny (model prog w) A (getAttr o f true) Q E s₁) E s):wpAny (model prog w) A (eval (.Attribute e f pos) env) Q E s:=
 Attribute_any_ h (by rw[arm_eval_Attribute,hb])
end
noncomputable def tFld(K:c5k)(ta:TE)(f:Str):TE:=fun σ H Q=>ta σ H fun x H1=>∃ a C dx fs v,x=.ref a∧H1 a=some (.ins C dx fs)∧Cls K C∧a2s K C f∧fs.lookup f=some v∧Q v H1
noncomputable def sFld(K:c5k)(ta tv:TE)(f:Str):TS:=fun D σ H=>tv σ H fun y H1=>ta σ H1 fun x H2=>∃ a C dx fs,x=.ref a∧H2 a=some (.ins C dx fs)∧Cls K C∧a2s K C f∧fs.length<1000∧
 D.nx σ (upd H2 a (.ins C dx (putF f y fs)))
section
variable {X:Cx} {o e value:Expr} {f:Str} {pos pos' tpos:Pos} {ta tv:TE}
theorem pe_fld(he:PE X e ta)(hb:attributeBase e f X.env (eval e X.env)=eval e X.env):PE X (.Attribute e f pos) (tFld X.K ta f):=by
 intro pins s σ H Q I h;refine attr_of hb (thn (he pins s σ H _ I h) fun u s1 ⟨x,H1,I1,rx,a,C,dx,fs,v,ex,ea,c,n,l,q⟩=>?_);subst ex;obtain rfl:u=Value.ref a:=rx;exact c0k I1 ea c n l fun u' s2 I2 ru=>⟨v,H1,I2,ru,q⟩
theorem ps_fld(ha:PE X o ta)(hv:PE X value tv)(hs:swapsWith value (some (.Attribute o f pos')) pos.line X.env=pure false):PS X (.Assign [.Attribute o f pos'] value pos) (sFld X.K ta tv f):=by
 intro pins s σ H D I h;refine plainObj_wpAny_Assign_Attribute (thn (hv pins s σ H _ I h) fun u s1 ⟨y,H1,I1,ry,q⟩=>thn (ha pins s1 σ H1 _ I1 q) fun ov s2 ⟨x,H2,I2,rx,a,C,dx,fs,ex,ea,c,n,l,q2⟩=>?_) hs;subst ex;obtain rfl:ov=Value.ref a:=rx;exact b2m I2 ea c n l ry fun s3 I3=>⟨σ,_,I3,q2⟩
end
section
variable {X:Cx} {pins:List (Addr×Obj)} {σ:St} {H:Hp} {s:Shared} {A:Around} {E:Value→Shared→Prop} {Q:Value→Shared→Prop} {c:Value} {b:Bool}
inductive TyOf (K:c5k) (H:Hp):V→Value→Prop where
 | non:TyOf K H .non (.type "NoneType")
 | bl (x:Bool):TyOf K H (.bl x) (.type "bool")
 | int (i:Int):TyOf K H (.int i) (.type "int")
 | str (x:Str):TyOf K H (.str x) (.type "str")
 | flt (x:UInt64):TyOf K H (.flt x) (.type "float")
 | lst {a:Addr} {xs:List V} (e:H a=some (.lst xs)):TyOf K H (.ref a) (.type "list")
 | frz {a:Addr} {o:Obj} {xs:List V} (e:H a=some (.frz o (.lst xs))):TyOf K H (.ref a) (.type "list")
 | tup {a:Addr} {xs:List V} (e:H a=some (.tup xs)):TyOf K H (.ref a) (.type "tuple")
 | dK {a:Addr} {kvs:List (Key×V)} (e:H a=some (.dK kvs)):TyOf K H (.ref a) (.type "dict")
 | dT {a:Addr} {kvs:List (List Key×V)} (e:H a=some (.dT kvs)):TyOf K H (.ref a) (.type "dict")
 | ins {a C dx:Addr} {fs:List (Str×V)} (e:H a=some (.ins C dx fs)) (cl:Cls K C) (ha:c7h K (.ref C) "__class__" = some (some (.builtin "object.__class__")))
     (hn:PySem.W.specialIn K (.builtin "object.__class__") "__get__" = some (some (.builtin "getset_descriptor.__get__"))) (htk:PySem.W.takesIn K (.builtin "object.__class__")=some true)
     (hm:PySem.W.mroIn K C (.type "object")=some true):TyOf K H (.ref a) (.ref C)
theorem c3u{x:V}{u t:Value}(I:Inv X pins σ H s)(rx:RelV x u)(ty:TyOf X.K H x t)(e:c8q X.K t c=some b)(h:∀ tk,Q (.bool b) { s with toks:=tk }) :
   wpAny (model X.prog X.w) A (call (.builtin "isinstance") [u,c]) Q E s:=by
 cases ty with
 | non=>cases (show u=Value.none from rx);exact c8c PySem.W.kitx_none I.kIn True.intro e (fun z=>nomatch z) h
 | bl y=>cases (show u=Value.bool y from rx);exact c8c PySem.W.kitx_bool I.kIn True.intro e (fun z=>nomatch z) h
 | int i=>obtain⟨t,q⟩:=(show ∃ t,u=Value.int i t from rx);cases q;exact c8c PySem.W.kitx_int I.kIn True.intro e (fun z=>nomatch z) h
 | str y=>obtain⟨t,q⟩:=(show ∃ t,u=Value.str y t from rx);cases q;exact c8c PySem.W.kitx_str I.kIn True.intro e (fun z=>nomatch z) h
 | flt y=>obtain⟨t,q⟩:=(show ∃ t,u=Value.float y t from rx);cases q;exact c8c PySem.W.kitx_float I.kIn True.intro e (fun z=>nomatch z) h
 | @lst a xs ea=>
   cases (show u=Value.ref a from rx);obtain⟨_,_,n,_,h1⟩:=(show a5b X.prog X.w H s.heap a (.lst xs) from I.hok a _ ea)
   exact c8c PySem.W.kitx_list I.kIn ⟨_,h1,rfl⟩ e (fun z=>nomatch z) h
 | @frz a ob xs ea=>
   cases (show u=Value.ref a from rx);obtain⟨_,_,_,n,_,h1⟩:=(show a5b X.prog X.w H s.heap a (.frz ob (.lst xs)) from I.hok a _ ea)
   exact c8c PySem.W.kitx_list I.kIn ⟨_,h1,rfl⟩ e (fun z=>nomatch z) h
 | @tup a xs ea=>
   cases (show u=Value.ref a from rx);obtain⟨_,_,_,p⟩:=(show a5b X.prog X.w H s.heap a (.tup xs) from I.hok a _ ea)
   obtain⟨o,h1,h2,_⟩:=p;exact c8c PySem.W.kitx_tuple I.kIn ⟨o,h1,h2⟩ e (fun z=>nomatch z) h
 | @dK a kvs ea=>
   cases (show u=Value.ref a from rx);obtain⟨_,_,vs,_,p⟩:=(show a5b X.prog X.w H s.heap a (.dK kvs) from I.hok a _ ea)
   obtain⟨o,es,ep,h1,h2,_⟩:=p;exact c8c PySem.W.kitx_dict I.kIn ⟨o,h1,h2.1⟩ e (fun z=>nomatch z) h
 | @dT a kvs ea=>
   cases (show u=Value.ref a from rx);obtain⟨_,_,xs,_,o,es,ep,h1,h2,_⟩:=(show a5b X.prog X.w H s.heap a (.dT kvs) from I.hok a _ ea)
   exact c8c PySem.W.kitx_dict I.kIn ⟨o,h1,h2.1⟩ e (fun z=>nomatch z) h
 | @ins a C dx fs ea cl ha hn htk hm=>
   cases (show u=Value.ref a from rx);obtain⟨mA,O,_⟩:=b3t I.hok ea;obtain⟨od,J,_⟩:=O.look;exact c8c (PySem.W.kitx_own (cl.get _) cl.hd ha hn htk hm) I.kIn J e (fun z=>nomatch z) h
end
structure Room(k:Nat)(A:Around):Prop where
 hd:A.handled=none
 dp:A.depth+3*k+5<recursionLimit
 un:A.units+16*k+200<cLine
theorem Room.mono{j k:Nat}{A:Around}(r:Room k A)(h:j≤k):Room j A:=⟨r.hd,by have:=r.dp;omega,by have:=r.un;omega⟩
theorem Room.deeper{k:Nat}{A:Around}(r:Room (k+1) A)(env:Env):Room k (A.deeper env):=
 ⟨r.hd,by have:=r.dp;show A.depth+1+3*k+5<_;omega,by have:=r.un;show A.units+3+16*k+200<_;omega⟩
theorem c0f{A:Around}{C:Addr}{us:List Value}{kw:List (Str×Value)}:(A.under (.builtin "type.__call__" ⟨.ref C::us,kw⟩)).depth=A.depth+1:=by
 first | rfl | simp[Around.under,Code.weight,Code.isCreation,Code.isGuard,Code.isCaller,Code.frames,Code.isFrame,guardIds]
theorem c0e{A:Around}{C:Addr}{us:List Value}{kw:List (Str×Value)}:(A.under (.builtin "type.__call__" ⟨.ref C::us,kw⟩)).units=A.units+1:=by
 first | rfl | simp[Around.under,Code.cUnits,Code.frames,Code.isFrame]
theorem Room.make{k:Nat}{A:Around}(r:Room (k+1) A)(C:Addr)(us:List Value)(kw:List (Str×Value)):Room k (A.under (.builtin "type.__call__" ⟨.ref C::us,kw⟩)):=
 ⟨r.hd,by have:=r.dp;rw[c0f];omega,by have:=r.un;rw[c0e];omega⟩
theorem Room.depth{k:Nat}{A:Around}(r:Room k A):A.depth<recursionLimit:=by have:=r.dp;omega
theorem Room.units{k:Nat}{A:Around}(r:Room k A):A.units+64<cLine:=by have:=r.un;omega
noncomputable def tNil:TA:=fun _ H Q=>Q [] H
noncomputable def tCons(ta:TE)(tr:TA):TA:=fun σ H Q=>ta σ H fun x H1=>tr σ H1 fun xs H2=>Q (x::xs) H2
section
variable {X:Cx} {e:Expr} {es:List Expr} {te:TE} {t:TA} {pos:Pos}
theorem pa_nil:PA X [] tNil:=fun _ _ _ _ H Q I h=>Calls.spliced_nil ⟨[],H,I,.nil,h⟩
theorem pa_cons(ha:PE X e te)(hr:PA X es t)(hs:starEach (e::es) X.env=(false,eval e X.env)::starEach es X.env:=by rfl):PA X (e::es) (tCons te t):=by
 intro pos pins s σ H Q I h;rw[hs];show wpAny _ _ (spliced ((false,eval e X.env)::backTo pos (starEach es X.env))) _ _ s;refine Calls.spliced_cons (thn (ha pins s σ H _ I h) fun u s1 ⟨x,H1,I1,r1,q1⟩=>?_);exact thn (hr pos pins s1 σ H1 _ I1 q1) fun us s2 ⟨xs,H2,I2,r2,q2⟩=>⟨x::xs,H2,I2,.cons r1 r2,q2⟩
noncomputable def tTup(t:TA):TE:=fun σ H Q=>t σ H fun xs H1=>xs.length≤sizeLine∧∀ p,H1 p=none→Q (.ref p) (upd H1 p (.tup xs))
noncomputable def tLst(t:TA):TE:=fun σ H Q=>t σ H fun xs H1=>xs.length≤sizeLine∧∀ p,H1 p=none→Q (.ref p) (upd H1 p (.lst xs))
theorem pe_tup{x1}(h:PA X es t):PE X (.Tuple es x1 pos) (tTup t):=by
 intro pins s σ H Q I hq;refine wpAny_Tuple_spliced (thn (h pos pins s σ H _ I hq) fun us s1 ⟨xs,H1,I1,r,z,q⟩=>⟨by rw[← r.length];exact z,?_⟩);have hf:H1 s1.heap.objs.size=none:=I1.hok.fresh (c5v _);refine⟨.ref s1.heap.objs.size,upd H1 s1.heap.objs.size (.tup xs),I1.laid (t':=s1.toks) (fun b u e=>Heap.get?_push_of_some _ e) (c5v _) ?_,rfl,q _ hf⟩;exact⟨z,us,r,⟨_,Heap.get?_push_size _ rfl,rfl,_,rfl⟩⟩
theorem pe_lst(h:PA X es t):PE X (.List es pos) (tLst t):=by
 intro pins s σ H Q I hq;refine wpAny_List_spliced (thn (h pos pins s σ H _ I hq) fun us s1 ⟨xs,H1,I1,r,z,q⟩=>⟨by rw[← r.length];exact z,?_⟩);have hf:H1 s1.heap.objs.size=none:=I1.hok.fresh (c5v _);refine⟨.ref s1.heap.objs.size,upd H1 s1.heap.objs.size (.lst xs),I1.laid (t':=s1.toks) (fun b u e=>Heap.get?_push_of_some _ e) (c5v _) ?_,rfl,q _ hf⟩;exact⟨z,us,0,r,Heap.get?_push_size _ rfl⟩
end
abbrev Sp:=List V→Hp→VK→XK→Prop
abbrev CXT:=List Env→Hp→Shared→XK→Value→Shared→Prop
structure Env0(P:Program)(w:World)(K:c5k)(mg:Str→Option Value)(base:Heap)(A:Around)(outer:List Env)(s:Shared)(H:Hp):Prop where
 frames:A.frames=some outer
 mod:Mod K mg base
 bs:∀ b o,base.get? b=some o→s.heap.get? b=some o∧H b=none
 bsz:base.objs.size≤s.heap.objs.size
 funs:s.heap.FunFrames base outer
 frf:∀ b∈frs outer,H b=none
 hok:HOk P w H s.heap
 bare:AllBare s.gens
noncomputable def CE(outer:List Env)(P:Program)(w:World)(H:Hp)(s:Shared)(Q:VK)(u:Value)(s':Shared):Prop:=
 ∃ v H',s'.os=s.os∧AllBare s'.gens∧Un (frs outer) [] H H' s.heap s'.heap∧HOk P w H' s'.heap∧RelV v u∧Q v H'
noncomputable def CR(CX:CXT)(outer:List Env)(P:Program)(w:World)(H:Hp)(s:Shared)(Q:VK)(E:XK)(r:Result)(s':Shared):Prop:=
 match r with
 | .ok (.ret u)=>CE outer P w H s Q u s'
 | .ok _=>False
 | .error e=>CX outer H s E e s'
structure FnOk(P:Program)(w:World)(K:c5k)(mg:Str→Option Value)(base:Heap)(CX:CXT)(k:Nat)(f:Addr)(fd:FuncData)(ps:List Str)(sp:Sp):Prop where
 len:∀ vs H Q E,sp vs H Q E→vs.length=ps.length
 run:∀ (A:Around) (outer:List Env) (s:Shared) (H:Hp) (args:Args) (us:List Value) (vs:List V) (Q:VK) (E:XK),Room k A→Env0 P w K mg base A outer s H→BindsTo s fd args (ps.zip us)→Vals vs us→sp vs H Q E→
   codeAny (model P w) A (.call (.ref f) args) (CR CX outer P w H s Q E) s
theorem Env0.make{P:Program}{w:World}{K:c5k}{mg:Str→Option Value}{base:Heap}{A:Around}{outer:List Env}{s:Shared}{H:Hp}(e:Env0 P w K mg base A outer s H)(C:Addr)(us:List Value)(kw:List (Str×Value)) :
 Env0 P w K mg base (A.under (.builtin "type.__call__" ⟨.ref C::us,kw⟩)) outer s H:=⟨by first | exact e.frames | (simpa [Around.under,Code.envs,Code.isFrame,pushEnvs] using e.frames),e.mod,e.bs,e.bsz,e.funs,e.frf,e.hok,e.bare⟩
section
variable {X:Cx} {pins:List (Addr×Obj)} {σ:St} {H:Hp} {s s':Shared}
theorem Inv.env0(I:Inv X pins σ H s):Env0 X.prog X.w X.K X.mg X.base X.A X.stack s H:=
 ⟨I.ok.frames,I.ok.mod,I.bs,c7w I.ok.bsz I.sz,I.stack,I.stkFree,I.hok,I.bare⟩
theorem Inv.after{Q:VK}{u:Value}(I:Inv X pins σ H s)(h:CE X.stack X.prog X.w H s Q u s'):EP X pins σ Q u s':=by
 obtain⟨v,H',os,bare,un,hok,r,q⟩:=h;obtain⟨hh,g,d,t,os'⟩:=s';obtain rfl:os'=s.os:=os;exact⟨v,H',I.call (h':=hh) (g':=g) (d':=d) (t':=t) (ch:=[]) un hok bare (fun b z=>absurd z (by simp)),r,q⟩
end
noncomputable def tCall(sp:Sp)(dvs:List V)(E:XK)(t:TA):TE:=fun σ H Q=>t σ H fun vs H1=>sp (vs++dvs) H1 Q E
noncomputable def tMeth(C:Addr)(m:Str)(sp:Sp)(dvs:List V)(E:XK)(ta:TE)(t:TA):TE:=fun σ H Q=>ta σ H fun x H1=>∃ a dx fs,x=.ref a∧H1 a=some (.ins C dx fs)∧fs.lookup m=none∧
 t σ H1 fun vs H2=>sp (x::(vs++dvs)) H2 Q E
noncomputable def tMake(C:Addr)(sp:Sp)(dvs:List V)(E:XK)(t:TA):TE:=fun σ H Q=>t σ H fun vs H1=>∀ x dx,H1 x=none→H1 dx=none→dx≠x→
 sp (.ref x::(vs++dvs)) (upd (upd H1 dx (.own x)) x (.ins C dx [])) (fun v H2=>v=.non∧Q (.ref x) H2) E
noncomputable def a9t(K:c5k)(fd:FuncData)(ps:List Str)(ds:List Value):Prop:=
 ∀ (s:Shared) (us:List Value),K.In s.heap→(us++ds).length=ps.length→BindsTo s fd ⟨us,[]⟩ (ps.zip (us++ds))
theorem a9t.all{K:c5k}{fd:FuncData}{ps:List Str}(h:∀ us:List Value,us.length=ps.length→bindArgs fd ⟨us,[]⟩=pure (ps.zip us)):a9t K fd ps []:=fun s us _ hl=>by
 rw[c8z] at hl ⊢;exact .of_eq (h us hl)
noncomputable def a6c(CX:CXT)(X:Cx)(E:XK):Prop:=∀ (pins:List (Addr×Obj)) (σ:St) (H:Hp) (s:Shared) (e:Value) (s':Shared),Inv X pins σ H s→CX X.stack H s E e s'→X.xe e s'
section
variable {X:Cx} {CX:CXT} {k:Nat} {f C:Addr} {fd:FuncData} {ps:List Str} {sp:Sp} {dvs:List V} {ds:List Value} {E:XK} {x m:Str} {p pos apos:Pos} {e o:Expr} {es:List Expr} {ta:TE} {t:TA}
theorem run_fn{pins:List (Addr×Obj)}{σ:St}{H:Hp}{s:Shared}{Q:VK}{us:List Value}{vs:List V}(F:FnOk X.prog X.w X.K X.mg X.base CX k f fd ps sp)(hr:Room k X.A)(hb:a9t X.K fd ps ds)(hd:Vals dvs ds)(hx:a6c CX X E)(I:Inv X pins σ H s)(r:Vals vs us)(h:sp (vs++dvs) H Q E):wpAny (model X.prog X.w) X.A (call (.ref f) us) (EP X pins σ Q) X.xe s:=by
 have r2:Vals (vs++dvs) (us++ds):=r.append hd;have hl:(us++ds).length=ps.length:=by rw[← r2.length];exact F.len _ _ _ _ h
 refine wpAny_call (codeAny_mono (F.run X.A X.stack s H ⟨us,[]⟩ (us++ds) (vs++dvs) Q E hr I.env0 (hb s us I.kIn hl) r2 h) fun r s' hq=>?_);cases r with
 | error e=>exact hx pins σ H s e s' I hq
 | ok fl=>
   cases fl with
   | ret u=>exact I.after hq
   | next=>exact False.elim hq
   | brk=>exact False.elim hq
   | cont=>exact False.elim hq
theorem pe_call(F:FnOk X.prog X.w X.K X.mg X.base CX k f fd ps sp)(hr:Room k X.A)(hg:Gl X x)(hm:X.mg x=some (.ref f))(hk:c5w X.K (.ref f)=true)(hb:a9t X.K fd ps ds)(hd:Vals dvs ds)(hx:a6c CX X E)(ha:PA X (e::es) t)(hdb:(x == ("__debug__" : Str))=false:=by decide)(he:starEach (e::es) X.env=(false,eval e X.env)::starEach es X.env:=by rfl)(hpl:(backTo pos (starEach es X.env)).any (·.1)=false:=by rfl) :
   PE X (.Call (.Name x p) (e::es) [] pos) (tCall sp dvs E t):=by
 intro pins s σ H Q I h;refine wpAny_Call_Name_kw (b6z I hg hm ?_ hdb);refine PySem.W.callWith_K (h₀:=X.base) I.ok.mod.kin hk (thn (ha pos pins s σ H _ I h) fun us s1 ⟨vs,H1,I1,r,q⟩=>⟨I1.kIn,?_⟩) he hpl;exact run_fn F hr hb hd hx I1 r q
theorem pe_meth0{pl:Sem Bool}(he:PE X o ta)(c:Cls X.K C)(hm:Meth X.K C m f)(F:FnOk X.prog X.w X.K X.mg X.base CX k f fd ps sp)(hr:Room k X.A)(hb:a9t X.K fd ps ds)(hd:Vals dvs ds)(hx:a6c CX X E)(ht:eval (.Call (.Attribute o m apos) [] [] pos) X.env=(do
     let ov ← eval o X.env
     standAt apos.atName
     let (f,first) ← holding [ov] (getMethod ov m pl)
     callWith pos f first (backTo pos (starEach [] X.env)) (backToKw pos (keywordEach [] X.env))):=by rfl) :
   PE X (.Call (.Attribute o m apos) [] [] pos) (tMeth C m sp dvs E ta tNil):=by
 intro pins s σ H Q I h;refine PySem.W.methodCall_KW (pl:=pl) (thn (he pins s σ H _ I h) fun u s1 ⟨x,H1,I1,rx,a,dx,fs,ex,ea,l,q⟩=>?_) ht;subst ex;obtain rfl:u=Value.ref a:=rx;refine c0j I1 ea c hm l ?_;exact PySem.W.callWith_K0 (first:=[.ref a]) I1.kIn hm.kp (run_fn (us:=[.ref a]) (vs:=[.ref a]) F hr hb hd hx I1 (.cons rfl .nil) q)
structure Mk(K:c5k)(C f:Addr):Prop where
 makes:PySem.W.makesIn K C=true
 init:c7h K (.ref C) "__init__" = some (some (.ref f))
 fn:d1e K (.ref f)=true
 kp:c5w K (.ref C)=true
theorem run_make{pins:List (Addr×Obj)}{σ:St}{H:Hp}{s:Shared}{Q:VK}{us:List Value}{vs:List V}(M:Mk X.K C f)(F:FnOk X.prog X.w X.K X.mg X.base CX k f fd ps sp)(hr:Room (k+1) X.A)(hb:a9t X.K fd ps ds)(hd:Vals dvs ds)(hx:a6c CX X E)(I:Inv X pins σ H s)(r:Vals vs us)(h:∀ x dx,H x=none→H dx=none→dx≠x→sp (.ref x::(vs++dvs)) (upd (upd H dx (.own x)) x (.ins C dx [])) (fun v H2=>v=.non∧Q (.ref x) H2) E) :
   wpAny (model X.prog X.w) X.A (call (.ref C) us) (EP X pins σ Q) X.xe s:=by
 have hq:=h (s.heap.objs.size+1) s.heap.objs.size (I.hok.fresh (Nat.le_succ _)) (I.hok.fresh (c5v _)) (c6l (c9z _));have I2:=Inv.made (C:=C) I;have r2:Vals (V.ref (s.heap.objs.size+1)::(vs++dvs)) (Value.ref (s.heap.objs.size+1)::(us++ds)):=.cons rfl (r.append hd);have hl:(Value.ref (s.heap.objs.size+1)::us++ds).length=ps.length:=by
   have e:=r2.length;rw[F.len _ _ _ _ hq] at e;exact e.symm
 refine wpAny_call (make_map (f:=f) I.kIn M.makes M.init (beq_iff_eq.mp M.fn) (codeAny_mono (F.run _ X.stack _ _ ⟨Value.ref (s.heap.objs.size+1)::us,[]⟩ (Value.ref (s.heap.objs.size+1)::(us++ds)) _ _ E (hr.make C us [])
   (I2.env0.make C us []) (hb _ (Value.ref (s.heap.objs.size+1)::us) I2.kIn hl) r2 hq) fun r s' hq'=>?_))
 cases r with
 | error e=>exact hx pins σ _ _ e s' I2 hq'
 | ok fl=>
   cases fl with
   | ret u=>
     obtain⟨v,H',I3,rv,ev,q3⟩:=I2.after hq';subst ev;exact⟨rv,⟨V.ref (s.heap.objs.size+1),H',I3,rfl,q3⟩⟩
   | next=>exact False.elim hq'
   | brk=>exact False.elim hq'
   | cont=>exact False.elim hq'
theorem pe_make(M:Mk X.K C f)(F:FnOk X.prog X.w X.K X.mg X.base CX k f fd ps sp)(hr:Room (k+1) X.A)(hg:Gl X x)(hm:X.mg x=some (.ref C))(hb:a9t X.K fd ps ds)(hd:Vals dvs ds)(hx:a6c CX X E)(ha:PA X (e::es) t)(hdb:(x == ("__debug__" : Str))=false:=by decide)(he:starEach (e::es) X.env=(false,eval e X.env)::starEach es X.env:=by rfl)(hpl:(backTo pos (starEach es X.env)).any (·.1)=false:=by rfl) :
   PE X (.Call (.Name x p) (e::es) [] pos) (tMake C sp dvs E t):=by
 intro pins s σ H Q I h;refine wpAny_Call_Name_kw (b6z I hg hm ?_ hdb);refine PySem.W.callWith_K (h₀:=X.base) I.ok.mod.kin M.kp (thn (ha pos pins s σ H _ I h) fun us s1 ⟨vs,H1,I1,r,q⟩=>⟨I1.kIn,?_⟩) he hpl;exact run_make M F hr hb hd hx I1 r q
end
structure a1d(N P:List Str)(sc:Scope):Prop where
 kind:sc.kind=.function
 co:sc.isCoroutine=false
 gen:sc.isGenerator=false
 nd:N.Nodup
 pre:N.take P.length=P
 par:∀ x∈P,sc.names.lookup x=some .local∨sc.names.lookup x=some .cell
 nofree:∀ y∈sc.names,y.2≠.free
theorem b5z{kindOf:Str→Option NameKind}{x:Str}:∀ {binds:List (Str×Value)} {m:Str→Option Value},(∀ v,(x,v)∉binds)→bindL kindOf binds m x=m x
 | [],_,_=>rfl
 | (n,v)::r,m,h=>by
   unfold bindL;rw[b5z fun w hw=>h w (c6w _ hw)];split
   · have:x≠n:=by rintro rfl;exact h v c9k
     simp[this]
   · rfl
theorem b6b{kindOf:Str→Option NameKind}{x:Str}:∀ {binds:List (Str×Value)} {m:Str→Option Value},(∀ v,(x,v)∉binds)→bindC kindOf binds m x=m x
 | [],_,_=>rfl
 | (n,v)::r,m,h=>by
   unfold bindC;rw[b6b fun w hw=>h w (c6w _ hw)];split
   · rfl
   · have:x≠n:=by rintro rfl;exact h v c9k
     simp[this]
theorem b6a{kindOf:Str→Option NameKind}{x:Str}{v:Value}:∀ {P:List Str} {vs:List Value} {i:Nat} {m:Str→Option Value},P.Nodup→P[i]?=some x→vs[i]?=some v→kindOf x=some .local→
   bindL kindOf (P.zip vs) m x=some v
 | [],_,_,_,_,h,_,_=>by simp at h
 | _::_,[],_,_,_,_,h,_=>by simp at h
 | p::P,w::vs,0,m,nd,h1,h2,hk=>by
   simp at h1 h2;subst h1;subst h2;show bindL kindOf ((p,w)::P.zip vs) m p=_;unfold bindL;rw[b5z fun v hv=>(d0e.mp nd).1 (d1a hv).1,if_pos hk];simp
 | p::P,w::vs,i+1,m,nd,h1,h2,hk=>by
   show bindL kindOf ((p,w)::P.zip vs) m x=_;unfold bindL;exact b6a (i:=i) (d0e.mp nd).2 (by simpa using h1) (by simpa using h2) hk
theorem b6c{kindOf:Str→Option NameKind}{x:Str}{v:Value}:∀ {P:List Str} {vs:List Value} {i:Nat} {m:Str→Option Value},P.Nodup→P[i]?=some x→vs[i]?=some v→kindOf x≠some .local→
   bindC kindOf (P.zip vs) m x=some v
 | [],_,_,_,_,h,_,_=>by simp at h
 | _::_,[],_,_,_,_,h,_=>by simp at h
 | p::P,w::vs,0,m,nd,h1,h2,hk=>by
   simp at h1 h2;subst h1;subst h2;show bindC kindOf ((p,w)::P.zip vs) m p=_;unfold bindC;rw[b6b fun v hv=>(d0e.mp nd).1 (d1a hv).1,if_neg hk];simp
 | p::P,w::vs,i+1,m,nd,h1,h2,hk=>by
   show bindC kindOf ((p,w)::P.zip vs) m x=_;unfold bindC;exact b6c (i:=i) (d0e.mp nd).2 (by simpa using h1) (by simpa using h2) hk
noncomputable def b0i(N:List Str)(vs:List V):St:=vs.map some++c5q (N.length - vs.length) none
noncomputable def cxOf(CX:CXT)(P:Program)(w:World)(K:c5k)(mg:Str→Option Value)(base:Heap)(N:List Str)(qual:Str)(scope:Scope)(f:Addr)(cd:Value)(A:Around)(outer:List Env)(s:Shared)(H:Hp)(E:XK):Cx where
 prog:=P
 w:=w
 K:=K
 mg:=mg
 base:=base
 A:=A.deeper (envOfC qual scope s.heap.objs.size f cd)
 N:=N
 s₀:=s
 H₀:=H
 env:=envOfC qual scope s.heap.objs.size f cd
 outer:=outer
 stack:=envOfC qual scope s.heap.objs.size f cd::outer
 ex:=[]
 calm:=true
 fn:=fun _=>true
 pn:=[]
 xe:=fun e s'=>wpAny (model P w) (A.deeper (envOfC qual scope s.heap.objs.size f cd)) (leaving (envOfC qual scope s.heap.objs.size f cd) e) (fun _ s''=>CX outer H s E e s'') (fun e' s''=>CX outer H s E e' s'') s'
theorem b9j{sc:Scope}{n:Nat}{x:Str}(h:sc.names.lookup x=some .cell):∃ c,(cellsFrom n sc.names []).lookup x=some c:=by
 have q:=PySem.W.cellsFrom_some sc.names n [] (.inl h);exact Option.isSome_iff_exists.mp q
theorem c3v{CX:CXT}{P:Program}{w:World}{K:c5k}{mg:Str→Option Value}{base:Heap}{N ps:List Str}{qual:Str}{scope:Scope}{f:Addr}{cd:Value}{A:Around}{outer:List Env}{s s1:Shared}{H:Hp}{E:XK}{us:List Value}{vs:List V}(S:a1d N ps scope)(hd:A.handled=none)(e0:Env0 P w K mg base A outer s H)(hl:vs.length=ps.length)(r:Vals vs us)(x:InCallC s s.heap.objs.size (bindL (envOfC qual scope s.heap.objs.size f cd).kindOf (ps.zip us) fun _=>none) (cellsFrom (s.heap.objs.size+1) scope.names []) (bindC (envOfC qual scope s.heap.objs.size f cd).kindOf (ps.zip us) fun _=>none) s1) :
   Inv (cxOf CX P w K mg base N qual scope f cd A outer s H E) [] (b0i N vs) H s1:=by
 have hpl:ps.length≤N.length:=by have:=congrArg c9v S.pre;rw[c6u] at this;omega
 obtain⟨h1,tk,rfl,hk⟩:=x.done;have noA:∀ b:Addr,b∉(cxOf CX P w K mg base N qual scope f cd A outer s H E).ex:=fun b z=>absurd (show b∈([]:List Addr) from z) (by simp);refine⟨⟨e0.mod,S.kind,rfl,rfl,c5v _,fun y z c h1 h2=>?_,fun y hy=>?_,fun y c _ h=>?_,fun _=>hd,Around.frames_deeper e0.frames,.inr ⟨rfl,rfl⟩,fun b z=>absurd z (noA b),e0.bs,e0.bsz,fun b _ _=>noA b,fun b z=>absurd z (noA b),e0.funs,e0.frf⟩,
   rfl,e0.bare,Un.kept hk,⟨_,x.toInCall.ns,fun i y v h1 h2 h3=>?_⟩,fun y c h=>⟨_,x.cell y c h⟩,e0.hok.fresh (c5v _),fun y c h=>?_,fun p hp=>absurd (show p∈([]:List (Addr×Obj)) from hp) (by simp),e0.hok.kept hk,?_⟩
 · exact name_of_addr x.apart (PySem.mem_of_lookup h1) (PySem.mem_of_lookup h2)
 · have hy:scope.names.lookup y=some .cell∨scope.names.lookup y=some .free:=hy;rcases hy with hy | hy
   · exact b9j hy
   · exact absurd rfl (S.nofree _ (PySem.mem_of_lookup hy))
 · exact c7r (x.above y c (PySem.mem_of_lookup h))
 · have hi:i<vs.length:=by
     unfold b0i at h2;by_cases hi:i<vs.length
     · exact hi
     · rw[c6d (by simpa using hi)] at h2;rw[List.getElem?_replicate] at h2;split at h2<;>cases h2
   have ha:vs[i]?=some v:=by
     unfold b0i at h2;rw[c5y (by simpa using hi),c5t] at h2;cases e:vs[i]? with
     | none=>rw[e] at h2;cases h2
     | some a=>rw[e] at h2;cases h2;rfl
   obtain⟨u,hu,rv⟩:=r.get ha;have hp:ps[i]?=some y:=by
     rw[← S.pre,List.getElem?_take_of_lt (by omega)];exact h1
   have ndP:ps.Nodup:=by rw[← S.pre];exact S.nd.sublist (List.take_sublist _ _)
   refine⟨u,rv,?_⟩;rcases S.par y (c5p hp) with k | k
   · exact .inl ⟨k,b6a ndP hp hu k⟩
   · obtain⟨c,e⟩:=b9j (n:=s.heap.objs.size+1) k;refine .inr ⟨.inl k,c,e,?_⟩;have q:=x.cell y c e;rw[b6c ndP hp hu (by show scope.names.lookup y≠_;rw[k];decide)] at q;exact q
 · exact e0.hok.fresh (c7r (x.above y c (PySem.mem_of_lookup h)))
 · unfold b0i;show _=N.length;rw[c5n,c5l,c7i];omega
theorem fn_of{CX:CXT}{P:Program}{w:World}{K:c5k}{mg:Str→Option Value}{base:Heap}{k:Nat}{f:Addr}{name qual:Str}{params:Arguments}{body:List Stmt}{scope:Scope}{dV kV doc pm cdv ct oc:Value}{an od:Option Addr}{osl:Array (Option Value)}{N ps:List Str}{sp:Sp}(lk:K.lookup f=some ⟨oc,od,.func (c5z name qual params body scope dV kV doc pm an cdv ct),osl⟩)(hcd:c5x K cdv qual=true)(S:a1d N ps scope)(len:∀ vs H Q E,sp vs H Q E→vs.length=ps.length)(hbody:∀ (A:Around) (outer:List Env) (s:Shared) (H:Hp) (vs:List V) (Q:VK) (E:XK),Room k (A.deeper (envOfC qual scope s.heap.objs.size f cdv))→sp vs H Q E→
     ∃ t,PSs (cxOf CX P w K mg base N qual scope f cdv A outer s H E) body t∧t { nx:=fun _ H'=>Q .non H',rt:=Q } (b0i N vs) H) :
   FnOk P w K mg base CX (k+1) f (c5z name qual params body scope dV kV doc pm an cdv ct) ps sp:=by
 refine⟨len,fun A outer s H args us vs Q E hr e0 hb r hsp=>?_⟩;have hl:=len _ _ _ _ hsp;have KX:K.In s.heap:=e0.mod.kin.keeps fun b o e=>(e0.bs b o e).1;have lim:s.heap.NoLimit:=e0.mod.nolimit.keeps fun b o e=>(e0.bs b o e).1;have hkind:∀ y∈ps.zip us,scope.names.lookup y.1=some .local∨(scope.names.lookup y.1=some .cell∧((cellsFrom (s.heap.objs.size+1) scope.names []).lookup y.1).isSome=true):=fun⟨n,v⟩ hy=>by
   rcases S.par n (d1a hy).1 with q | q
   · exact .inl q
   · exact .inr ⟨q,PySem.W.cellsFrom_some _ _ _ (.inl q)⟩
 refine codeAny_call_function hr.depth (KX _ _ lk) rfl S.co S.gen rfl (PySem.W.codeRec_of KX hcd) (hb _ _ _ _ ?_);refine wpAny_newFunctionEnv_cells S.kind hkind fun env he s1 x=>?_;subst he;refine⟨lim.keeps x.toInCall.keep,codeAny_func ?_⟩;obtain⟨t,ht,hq⟩:=hbody A outer s H vs Q E (hr.deeper _) hsp;have I:Inv (cxOf CX P w K mg base N qual scope f cdv A outer s H E) [] (b0i N vs) H s1:=c3v S hr.hd e0 hl r x;refine wpAny_mono (ht [] s1 (b0i N vs) H _ I hq) (fun fl s' hs=>?_) fun e s' hs=>hs;have fin:∀ {σ':St} {H':Hp} {v:V} {u:Value},Inv (cxOf CX P w K mg base N qual scope f cdv A outer s H E) [] σ' H' s'→RelV v u→Q v H'→CE outer P w H s Q u s':=
   fun {σ' H' v u} J rv q=>⟨v,H',J.os,J.bare,J.base,J.hok,rv,q⟩
 cases fl with
 | ret u=>
   obtain⟨v,σ',H',J,rv,q⟩:=hs;exact fin J rv q
 | next=>
   obtain⟨σ',H',J,q⟩:=hs;exact fin (v:=V.non) (u:=Value.none) J rfl q
 | brk=>
   obtain⟨_,_,_,q⟩:=hs;exact False.elim q
 | cont=>
   obtain⟨_,_,_,q⟩:=hs;exact False.elim q
section
variable {X:Cx} {x:Str} {p pos:Pos} {e:Expr} {es:List Expr} {t:TA} {id T:String} {r:List V→Hp→VK→Prop}
noncomputable def tCB(r:List V→Hp→VK→Prop)(t:TA):TE:=fun σ H Q=>t σ H fun vs H1=>r vs H1 Q
theorem pe_callB(hc:a6x X (.builtin id) r)(hg:Gl X x)(hm:X.mg x=none)(hv:bootBuiltins x=some (.builtin id))(ha:PA X (e::es) t)(hn:x ≠ "__name__":=by decide)(hdb:(x == ("__debug__" : Str))=false:=by decide)(he:starEach (e::es) X.env=(false,eval e X.env)::starEach es X.env:=by rfl)(hpl:(backTo pos (starEach es X.env)).any (·.1)=false:=by rfl):PE X (.Call (.Name x p) (e::es) [] pos) (tCB r t):=by
 intro pins s σ H Q I h;refine wpAny_Call_Name_kw (a9g I hg hm hv ?_ hn hdb);exact PyProof.Rows.callWith_builtin1 (thn (ha pos pins s σ H _ I h) fun us s1 ⟨vs,H1,I1,r1,q1⟩=>hc pins s1 σ H1 vs us Q I1 r1 q1) he hpl
theorem c2o(hc:a6x X (.type T) r)(hg:Gl X x)(hm:X.mg x=none)(hv:bootBuiltins x=some (.type T))(ha:PA X (e::es) t)(hn:x ≠ "__name__":=by decide)(hdb:(x == ("__debug__" : Str))=false:=by decide)(he:starEach (e::es) X.env=(false,eval e X.env)::starEach es X.env:=by rfl)(hpl:(backTo pos (starEach es X.env)).any (·.1)=false:=by rfl):PE X (.Call (.Name x p) (e::es) [] pos) (tCB r t):=by
 intro pins s σ H Q I h;refine wpAny_Call_Name_kw (a9g I hg hm hv ?_ hn hdb);exact c8b (thn (ha pos pins s σ H _ I h) fun us s1 ⟨vs,H1,I1,r1,q1⟩=>hc pins s1 σ H1 vs us Q I1 r1 q1) he hpl
end
end L2
namespace HT
open PySem PyProof.Rows
section
variable {prog:Program} {w:World} {A:Around} {E:Value→Shared→Prop} {s:Shared}
theorem cat_tup{t b:Addr}{vs ws:List Value}{Q:Value→Shared→Prop}(ht:IsTup s.heap t vs.toArray)(hb:IsTup s.heap b ws.toArray)(hv:vs≠[])(h1:ws=[]→Q (.ref t) s)(h2:ws≠[]→Q (.ref s.heap.objs.size) { s with heap:=s.heap.push { cls:=.type "tuple",data:=.seq (vs++ws).toArray } })(hsz:vs.length+ws.length≤sizeLine):wpAny (model prog w) A (binaryOp .Add (.ref t) (.ref b)) Q E s:=by
 obtain⟨⟨cls,dd,data,sl⟩,ho,hc,n,hd⟩:=id ht;obtain⟨⟨cls2,dd2,data2,sl2⟩,ho2,hc2,n2,hd2⟩:=id hb;simp only at hc hd hc2 hd2;subst hc hd hc2 hd2;have e:vs.toArray++ws.toArray=(vs++ws).toArray:=by simp
 by_cases hw:ws=[]
 · exact concat_meets ⟨_,ho,rfl⟩ ⟨_,ho2,rfl⟩ noFill_tuple_add seq_tuple_add PySem.F.slot_tuple_add PySem.F.entry_tuple_add (PySem.F.args_tuple_add_2 _ _)
     (tuple_addW1 t b vs.toArray ws.toArray n n2 dd dd2 sl sl2 (by simpa using hv) (by simp[hw])) ⟨ho,ho2,h1 hw⟩
 · refine concat_meets ⟨_,ho,rfl⟩ ⟨_,ho2,rfl⟩ noFill_tuple_add seq_tuple_add PySem.F.slot_tuple_add PySem.F.entry_tuple_add (PySem.F.args_tuple_add_2 _ _)
     (tuple_addW2 t b vs.toArray ws.toArray n n2 dd dd2 sl sl2 (by simpa using hv) (by simpa using hw) (by rw[c6c,c6c];exact hsz)) ⟨ho,ho2,?_⟩
   rw[e];exact h2 hw
noncomputable def sIx(n d:Nat):Option Int→Nat
 | none=>d
 | some v=>if v<0 then (v+(n:Int)).toNat else min v.toNat n
theorem b3l(n d:Nat):sIx n d none=d:=rfl
theorem b6t(n d k:Nat):sIx n d (some (k:Int))=min k n:=by
 show (if (k:Int)<0 then ((k:Int)+(n:Int)).toNat else min (k:Int).toNat n)=min k n;rw[if_neg (by omega),c9q]
theorem sIx_le(n d:Nat)(hd:d≤n)(o:Option Int):sIx n d o≤n:=by
 cases o with
 | none=>exact hd
 | some v=>
   show (if v<0 then (v+(n:Int)).toNat else min v.toNat n)≤n;by_cases hv:v<0
   · rw[if_pos hv];omega
   · rw[if_neg hv];exact Nat.min_le_right _ _
theorem c4v(v:Int)(n d:Nat):(if v<0 then max (v+(n:Int)) 0 else min v (n:Int))=((sIx n d (some v):Nat):Int):=by
 show (if v<0 then max (v+(n:Int)) 0 else min v (n:Int))=(((if v<0 then (v+(n:Int)).toNat else min v.toNat n):Nat):Int)
 by_cases hv:v<0
 · simp only[if_pos hv];omega
 · simp only[if_neg hv];omega
theorem c0y(lo hi:Option Int)(n:Nat):Builtin.Slice.sliceAdjust lo hi 1 (n:Int)=(((sIx n 0 lo:Nat):Int),((sIx n n hi:Nat):Int)):=by
 have h1:¬ ((1:Int)<0):=by omega
 unfold Builtin.Slice.sliceAdjust;simp only[h1,if_false];refine Prod.ext ?_ ?_
 · cases lo with
   | none=>rfl
   | some v=>exact c4v v n 0
 · cases hi with
   | none=>rfl
   | some v=>exact c4v v n n
theorem b9t(i j:Nat):Builtin.Slice.slicePlaces (i:Int) (j:Int) 1=j - i:=by
 unfold Builtin.Slice.slicePlaces;have h1:(1:Int) > 0:=by omega
 simp only[h1,if_true,Int.ediv_one];split<;>omega
theorem b2l{v:Value}{o:Option Int}{Q:Option Int→Shared→Prop}(p:IsPart v o)(h:Q o s):wpAny (model prog w) A (Builtin.Slice.slicePartIndex v) Q E s:=by
 cases p with
 | none=>exact slicePart_none h
 | int i t=>exact slicePart_int h
theorem a9l{sl:Addr}{vl vu:Value}{lo hi:Option Int}{n:Nat}{Q:Int×Int×Nat→Shared→Prop}(hs:s.heap.IsSliceOf sl vl vu .none)(pl:IsPart vl lo)(pu:IsPart vu hi)(h:Q (((sIx n 0 lo:Nat):Int),1,sIx n n hi - sIx n 0 lo) s):wpAny (model prog w) A (Builtin.Slice.sliceApplied (.ref sl) (pure (n:Int))) Q E s:=by
 obtain⟨os,hos,hcs,hds⟩:=id hs;unfold Builtin.Slice.sliceApplied Builtin.Slice.sliceFields;refine wpAny_bind (wpAny_bind (wpAny_field hos hds (x:=vl) rfl (wpAny_bind (wpAny_field hos hds (x:=vu) rfl (wpAny_bind (wpAny_field hos hds (x:=.none) rfl (wpAny_pure ?_)))))));refine wpAny_bind (slicePart_none ?_);show wpAny _ _ (if ((1:Int) == 0)=true then _ else _) _ _ s;rw[if_neg (by decide)];refine wpAny_bind (b2l pl (wpAny_bind (b2l pu (wpAny_bind (wpAny_pure ?_)))));show wpAny _ _ (match Builtin.Slice.sliceAdjust lo hi 1 (n:Int) with | (lo,hi)=>pure (lo,(1:Int),Builtin.Slice.slicePlaces lo hi 1)) _ _ s;rw[c0y lo hi n];show wpAny _ _ (pure (((sIx n 0 lo:Nat):Int),(1:Int),Builtin.Slice.slicePlaces ((sIx n 0 lo:Nat):Int) ((sIx n n hi:Nat):Int) 1)) _ _ s;rw[b9t];exact wpAny_pure h
theorem pick_gen(xs:Array Value)(i k:Nat):((c7s k).filterMap fun (m:Nat)=>xs[((i:Int)+(m:Int)*1).toNat]?).toArray=((xs.toList.drop i).take k).toArray:=by
 have e:(fun (m:Nat)=>xs[((i:Int)+(m:Int)*1).toNat]?)=fun m=>xs[i+m]?:=by
   funext m;have:((i:Int)+(m:Int)*1).toNat=i+m:=by omega
   rw[this]
 rw[e];have:=pick_run xs i k;rw[List.filterMap_map] at this;have e2:((fun x=>xs[x]?)∘fun x=>i+x)=fun m=>xs[i+m]?:=rfl;rw[e2] at this;rw[this]
theorem a8x{t sl:Addr}{items:Array Value}{vl vu:Value}{lo hi:Option Int}{Q:Value→Shared→Prop}(ht:IsTup s.heap t items)(hs:s.heap.IsSliceOf sl vl vu .none)(pl:IsPart vl lo)(pu:IsPart vu hi)(hw:¬ (sIx items.size 0 lo=0∧sIx items.size items.size hi=items.size))(h:Q (.ref s.heap.objs.size) { s with heap:=s.heap.push { cls:=.type "tuple",data:=.seq ((items.toList.drop (sIx items.size 0 lo)).take (sIx items.size items.size hi - sIx items.size 0 lo)).toArray } })(hsz:items.size≤sizeLine):wpAny (model prog w) A (getItem (.ref t) (.ref sl)) Q E s:=by
 have htake:sizeOk (.seq ((items.toList.drop (sIx items.size 0 lo)).take (sIx items.size items.size hi - sIx items.size 0 lo)).toArray):=by
   show ((items.toList.drop (sIx items.size 0 lo)).take (sIx items.size items.size hi - sIx items.size 0 lo)).toArray.size≤sizeLine;rw[c6c,c6u,c6n,c5o];omega
 have hj:sIx items.size items.size hi≤items.size:=sIx_le _ _ (c5v _) hi;obtain⟨os,hos,hcs,hds⟩:=id hs;have hTs:s.TypeIs (.ref sl) "slice":=⟨os,hos,hcs⟩
 unfold getItem;try with_reducible refine wpAny_holding ?_
 first | refine wpAny_bind (wpAny_pure ?_) | skip
 refine wpAny_bind (wpAny_sequenceKey ht.typeIs (by decide) ?_);refine wpAny_bind (wpAny_callSpecial?_slot (name:=Str.ofString "__getitem__") ht.typeIs d0a
   (wpAny_call_entry d0a ht.typeIs entry_tuple_getitem ?_ (args_tuple_getitem _ _)))
 show wpAny _ _ (Builtin.Tuple.tupleItemsOf (.ref t) >>= _) _ _ s;refine wpAny_bind (tupleItemsOf_ ht ?_);refine wpAny_bind (wpAny_typeOf hTs ?_);rw[if_pos (by decide)];refine wpAny_bind (a9l hs pl pu ?_);have hno:¬ ((((sIx items.size 0 lo:Nat):Int) == 0 && (1:Int) == 1 && (sIx items.size items.size hi - sIx items.size 0 lo) == items.size)=true):=by
   intro q;rw[c8k,c8k] at q;have q1:((sIx items.size 0 lo:Nat):Int)=0:=eq_of_beq q.1.1;have q2:sIx items.size items.size hi - sIx items.size 0 lo=items.size:=eq_of_beq q.2;exact hw ⟨by omega,by omega⟩
 show wpAny _ _ (if (((sIx items.size 0 lo:Nat):Int) == 0 && (1:Int) == 1 && (sIx items.size items.size hi - sIx items.size 0 lo) == items.size)=true then _ else _) _ _ s;rw[if_neg hno,pick_gen];first
   | exact wpAny_bind (m:=Builtin.Tuple.tupleExact _) (wpAny_newObj_type (wpAny_pure ⟨_,rfl,wpAny_pure h⟩) htake)
   | exact wpAny_bind (m:=Builtin.Tuple.tupleExact _) (wpAny_newObj_type (wpAny_bind (wpAny_pure (wpAny_pure ⟨_,rfl,wpAny_pure h⟩))) htake)
   | exact wpAny_bind (wpAny_bind (m:=Builtin.Tuple.tupleExact _) (wpAny_newObj_type (wpAny_pure (wpAny_pure ⟨_,rfl,wpAny_pure h⟩)) htake))
   | exact wpAny_bind (wpAny_bind (m:=Builtin.Tuple.tupleExact _) (wpAny_newObj_type (wpAny_pure ⟨_,rfl,wpAny_pure h⟩) htake))
end
end HT
namespace L2
open PySem PySem.Spec PyProof.Rows
abbrev TO:=St→Hp→(Option Int→Hp→Prop)→Prop
noncomputable def PO(X:Cx)(e:Option Expr)(t:TO):Prop:=
 ∀ (pins:List (Addr×Obj)) (s:Shared) (σ:St) (H:Hp) (Q:Option Int→Hp→Prop),Inv X pins σ H s→t σ H Q→
   wpAny (model X.prog X.w) X.A (evalPart e X.env) (fun u s'=>∃ o H',Inv X pins σ H' s'∧IsPart u o∧Q o H') X.xe s
noncomputable def c1f:TO:=fun _ H Q=>Q none H
noncomputable def tPart(t:TE):TO:=fun σ H Q=>t σ H fun x H1=>∃ i,x=.int i∧Q (some i) H1
theorem a8w{ns:List Int}:∀ {us:List Value},Vals (ns.map V.int) us→IntsAre us ns:=by
 induction ns with
 | nil=>intro us r;rw[List.map_nil] at r;cases r;exact .nil
 | cons n ns ih=>
   intro us r;rw[c8m] at r;cases r with
   | cons r1 r2=>
     obtain⟨t,e⟩:=r1;subst e;exact .cons n t (ih r2)
section
variable {X:Cx} {e:Expr} {te:TE} {lo hi:Option Expr} {tl th:TO} {pos p2:Pos}
theorem po_none:PO X none c1f:=by
 intro pins s σ H Q I h;rw[evalPart_none];exact wpAny_pure ⟨none,H,I,.none,h⟩
theorem po_some(h:PE X e te):PO X (some e) (tPart te):=by
 intro pins s σ H Q I hw;rw[evalPart_some];refine thn (h pins s σ H _ I hw) fun u s1 ⟨x,H1,I1,r1,q1⟩=>?_;obtain⟨i,rfl,q⟩:=q1;obtain⟨t,rfl⟩:=r1;exact⟨some i,H1,I1,.int i t,q⟩
noncomputable def SlR(X:Cx)(r:V→Option Int→Option Int→Hp→VK→Prop):Prop:=
 ∀ (pins:List (Addr×Obj)) (s:Shared) (σ:St) (H:Hp) (x:V) (v vl vu:Value) (lo hi:Option Int) (sl:Addr) (Q:VK),Inv X pins σ H s→RelV x v→s.heap.IsSliceOf sl vl vu .none→IsPart vl lo→IsPart vu hi→r x lo hi H Q→
   ∃ T id,typeLookup (.type T) "__getitem__" = pure (some (.builtin id))∧s.TypeIs v T∧wpAny (model X.prog X.w) X.A (getItem v (.ref sl)) (EP X pins σ Q) X.xe s
noncomputable def tSl(r:V→Option Int→Option Int→Hp→VK→Prop)(te:TE)(tl th:TO):TE:=fun σ H Q=>te σ H fun x H1=>tl σ H1 fun l H2=>th σ H2 fun u H3=>r x l u H3 Q
theorem pe_slice{r:V→Option Int→Option Int→Hp→VK→Prop}(hr:SlR X r)(he:PE X e te)(hl:PO X lo tl)(hu:PO X hi th):PE X (.Subscript e (.Slice lo hi none p2) pos) (tSl r te tl th):=by
 intro pins s σ H Q I h;refine Subscript_ (thn (he pins s σ H _ I h) fun v s1 ⟨x,H1,I1,r1,q1⟩=>?_);refine wpAny_Slice (thn (hl pins s1 σ H1 _ I1 q1) fun vl s2 ⟨l,H2,I2,pl,q2⟩=>thn (hu pins s2 σ H2 _ I2 q2) fun vu s3 ⟨u,H3,I3,pu,q3⟩=>?_);rw[evalPart_none];refine wpAny_pure ?_;have I4:Inv X pins σ H3 { s3 with heap:=s3.heap.push { cls:=.type "slice",data:=.fields #[vl,vu,.none] } }:=I3.kept (t':=s3.toks) fun b ob q=>Heap.get?_push_of_some _ q;obtain⟨T,id,hT,ht,hg⟩:=hr pins { s3 with heap:=s3.heap.push { cls:=.type "slice",data:=.fields #[vl,vu,.none] } } σ H3 x v vl vu l u s3.heap.objs.size Q I4 r1 (Heap.IsSliceOf.new ..) pl pu q3;show wpAny (model X.prog X.w) X.A (subscriptTail e (.Slice lo hi none p2) v (.ref s3.heap.objs.size)) (EP X pins σ Q) X.xe { s3 with heap:=s3.heap.push { cls:=.type "slice",data:=.fields #[vl,vu,.none] } };exact tail_any (ops:=[.ref s3.heap.objs.size,v]) ht hT hg (by with_unfolding_all rfl)
noncomputable def cutV(xs:List V)(lo hi:Option Int):List V:=(xs.drop (HT.sIx xs.length 0 lo)).take (HT.sIx xs.length xs.length hi - HT.sIx xs.length 0 lo)
theorem b1m(xs:List V)(lo hi:Option Int):(cutV xs lo hi).length≤xs.length:=by
 unfold cutV;rw[c6u,c6n];omega
noncomputable def rSlT(K:c5k):V→Option Int→Option Int→Hp→VK→Prop:=fun x lo hi H Q=>∃ a xs,x=.ref a∧SqT K H a xs∧
 ¬ (HT.sIx xs.length 0 lo=0∧HT.sIx xs.length xs.length hi=xs.length)∧∀ p,H p=none→Q (.ref p) (upd H p (.tup (cutV xs lo hi)))
theorem sl_tup:SlR X (rSlT X.K):=by
 intro pins s σ H x v vl vu lo hi sl Q I rx hs pl pu h;obtain⟨a,xs,rfl,hx,hw,q⟩:=h;cases rx;obtain⟨its,r,ht,hz⟩:=I.tuple hx;have hlen:its.toArray.size=xs.length:=by rw[c6c];exact r.length.symm
 refine⟨"tuple",_,d0a.lookup,ht.typeIs,?_⟩;refine HT.a8x ht hs pl pu (by rw[hlen];exact hw) ?_ (by rw[hlen];exact hz);rw[hlen];refine⟨.ref s.heap.objs.size,_,I.laid (t':=s.toks) (o:=.tup (cutV xs lo hi)) (fun b ob q=>Heap.get?_push_of_some _ q) (c5v _) ?_,rfl,q _ (I.hok.fresh (c5v _))⟩;exact⟨c7w (b1m xs lo hi) hz,_,(r.drop (HT.sIx xs.length 0 lo)).take (HT.sIx xs.length xs.length hi - HT.sIx xs.length 0 lo),IsTup.new _ _⟩
noncomputable def rCatT(K:c5k):R2:=fun x y H Q=>∃ a b xs ys,x=.ref a∧y=.ref b∧SqT K H a xs∧SqT K H b ys∧xs≠[]∧xs.length+ys.length≤sizeLine∧
 (ys=[]→Q (.ref a) H)∧(ys≠[]→∀ p,H p=none→Q (.ref p) (upd H p (.tup (xs++ys))))
theorem Vals.nil_iff{xs:List V}{us:List Value}(r:Vals xs us):us=[]↔xs=[]:=by
 cases r with
 | nil=>simp
 | cons _ _=>simp
theorem op_catT:OpR X (binaryOp .Add) (rCatT X.K):=by
 intro pins s σ H x y v u Q I rx ry h;obtain⟨a,b,xs,ys,rfl,rfl,ha,hb,hx,hz,q1,q2⟩:=h;cases rx;cases ry;obtain⟨its,r1,p1,_⟩:=I.tuple ha;obtain⟨its2,r2,p2,_⟩:=I.tuple hb;refine HT.cat_tup p1 p2 (fun z=>hx (r1.nil_iff.mp z)) (fun z=>⟨.ref a,H,I,rfl,q1 (r2.nil_iff.mp z)⟩) (fun z=>?_) (by rw[← r1.length,← r2.length];exact hz);refine⟨.ref s.heap.objs.size,_,I.laid (t':=s.toks) (o:=.tup (xs++ys)) (fun b ob q=>Heap.get?_push_of_some _ q) (c5v _) ?_,rfl,q2 (fun w=>z (r2.nil_iff.mpr w)) _ (I.hok.fresh (c5v _))⟩;exact⟨by rw[c5n];exact hz,_,r1.append r2,IsTup.new _ _⟩
end
noncomputable def ixN(n:Nat)(i:Int):Option Nat:=if 0≤i then (if i<n then some i.toNat else none) else if -(n:Int)≤i then some (i+n).toNat else none
noncomputable def atI{α:Type}(xs:List α)(i:Int):Option α:=(ixN xs.length i).bind fun j=>xs[j]?
theorem c3t{n:Nat}{i:Int}{j:Nat}(h:ixN n i=some j):seqIndex? i n=some j∧j<n∧-(n:Int)≤i∧i<n:=by
 unfold ixN at h;by_cases h0:0≤i
 · rw[if_pos h0] at h;by_cases h1:i<n
   · rw[if_pos h1] at h;have e:i.toNat=j:=c6e.inj h;exact⟨by rw[seqIndex_of h0 h1,e],by omega,by omega,h1⟩
   · rw[if_neg h1] at h;cases h
 · rw[if_neg h0] at h;by_cases h1:-(n:Int)≤i
   · rw[if_pos h1] at h;have e:(i+n).toNat=j:=c6e.inj h;exact⟨by rw[seqIndex_neg (by omega) h1,e],by omega,h1,by omega⟩
   · rw[if_neg h1] at h;cases h
theorem c5c{α:Type}{xs:List α}{i:Int}{v:α}(h:atI xs i=some v):∃ j,seqIndex? i xs.length=some j∧xs[j]?=some v∧j<xs.length∧-(xs.length:Int)≤i∧i<xs.length:=by
 unfold atI at h;cases e:ixN xs.length i with
 | none=>rw[e] at h;cases h
 | some j=>
   rw[e] at h;obtain⟨h1,h2,h3,h4⟩:=c3t e;exact⟨j,h1,h,h2,h3,h4⟩
theorem b7i{α:Type}{xs:List α}{j:Nat}{v:α}(h:xs[j]?=some v):atI xs (j:Int)=some v:=by
 have hj:j<xs.length:=(c5m.mp h).1;have e:ixN xs.length (j:Int)=some j:=by
   unfold ixN;rw[if_pos (by omega),if_pos (by omega)];simp
 unfold atI;rw[e];exact h
theorem atI_last{α:Type}(xs:List α)(v:α):atI (xs++[v]) (-1)=some v:=by
 have hl:(xs++[v]).length=xs.length+1:=by simp
 have e:ixN (xs++[v]).length (-1)=some xs.length:=by
   unfold ixN;rw[hl,if_neg (by decide),if_pos (by omega)];congr 1;omega
 unfold atI;rw[e];show (xs++[v])[xs.length]?=some v;simp
noncomputable def c5f(b:Expr):Prop:=∀ o i,subscripted b false o i=operate [o,i] (getItem o i)
noncomputable def IxR(X:Cx)(r:R2):Prop:=
 ∀ (value slice:Expr) (pins:List (Addr×Obj)) (s:Shared) (σ:St) (H:Hp) (x y:V) (v u:Value) (Q:VK),Inv X pins σ H s→RelV x v→RelV y u→r x y H Q→
   subscripted slice false v u=operate [v,u] (getItem v u)→wpAny (model X.prog X.w) X.A (subscriptTail value slice v u) (EP X pins σ Q) X.xe s
noncomputable def MtR(X:Cx)(id:String)(r:V→List V→Hp→VK→Prop):Prop:=
 ∀ (pins:List (Addr×Obj)) (s:Shared) (σ:St) (H:Hp) (x:V) (xs:List V) (v:Value) (us:List Value) (Q:VK),Inv X pins σ H s→RelV x v→Vals xs us→r x xs H Q→
   wpAny (model X.prog X.w) X.A (call (.builtin id) (v::us)) (EP X pins σ Q) X.xe s
section
variable {X:Cx} {a b:Expr} {ta tb:TE} {pos:Pos}
theorem pe_ix{r:R2}(hr:IxR X r)(ha:PE X a ta)(hb:PE X b tb)(hs:c5f b):PE X (.Subscript a b pos) (tOp r ta tb):=by
 intro pins s σ H Q I h;exact Subscript_ (binT ha hb I h fun v u s2 x y H2 I2 rx ry q=>hr a b pins s2 σ H2 x y v u Q I2 rx ry q (hs _ _))
noncomputable def rIxL(K:c5k):R2:=fun x y H Q=>∃ p xs i v,x=.ref p∧y=.int i∧SqL K H p xs∧atI xs i=some v∧Q v H
noncomputable def rIxT(K:c5k):R2:=fun x y H Q=>∃ p xs i v,x=.ref p∧y=.int i∧SqT K H p xs∧atI xs i=some v∧Q v H
theorem ix_list:IxR X (rIxL X.K):=by
 intro value slice pins s σ H x y v u Q I rx ry h hs;obtain⟨p,xs,i,z,rfl,rfl,hq,he,q⟩:=h;cases rx;obtain⟨t,rfl⟩:=ry;obtain⟨its,r,pl,hz⟩:=I.list hq;obtain⟨j,h1,h2,h3,h4,h5⟩:=c5c he;obtain⟨w,ew,rw'⟩:=r.get h2;have hl:=r.length;have hn:=b5j;have fin:EP X pins σ Q w s:=⟨z,H,I,rw',q⟩
 by_cases h0:0≤i
 · have hj:i.toNat=j:=by
     rw[seqIndex_of h0 h5] at h1;exact c6e.inj h1
   exact item_listR pl.isList h0 (by omega) (by rw[hj];simpa using ew) fin hs
 · have hj:(i+(its.toArray.size:Int)).toNat=j:=by
     rw[seqIndex_neg (by omega) h4] at h1;rw[c6c,← hl];exact c6e.inj h1
   exact subscriptTail_builtinR (x:=w) pl.isList.typeIs slot_list_getitem.lookup
     (wpAny_getItem_list_neg (Q:=fun r s'=>r=w∧EP X pins σ Q r s') pl.isList (by omega) (by rw[c6c]<;>omega) (by omega) (by rw[hj];simpa using ew) ⟨rfl,fin⟩) hs
theorem ix_tup:IxR X (rIxT X.K):=by
 intro value slice pins s σ H x y v u Q I rx ry h hs;obtain⟨p,xs,i,z,rfl,rfl,hq,he,q⟩:=h;cases rx;obtain⟨t,rfl⟩:=ry;obtain⟨its,r,pl,hz⟩:=I.tuple hq;obtain⟨j,h1,h2,h3,h4,h5⟩:=c5c he;obtain⟨w,ew,rw'⟩:=r.get h2;have hl:=r.length;have hn:=b5j;have fin:EP X pins σ Q w s:=⟨z,H,I,rw',q⟩
 exact subscriptTail_builtinR (x:=w) pl.typeIs slot_tuple_getitem.lookup
   (getItem_tuple (j:=j) (Q:=fun r s'=>r=w∧EP X pins σ Q r s') pl (by omega) (by omega) (by rw[c6c,← hl];exact h1) (by simpa using ew) ⟨rfl,fin⟩) hs
theorem c0d(its:List Value)(n j:Nat)(u:Value):Obj.mapSeq (·.setIfInBounds j u) { cls:=.type "list",data:=.seq its.toArray n }={ cls:=.type "list",data:=.seq (its.set j u).toArray n }:=by
 simp[Obj.mapSeq]
theorem Inv.lst{pins:List (Addr×Obj)}{σ:St}{H:Hp}{s:Shared}{p:Addr}{xs:List V}(I:Inv X pins σ H s)(h:H p=some (.lst xs)) :
   ∃ (its:List Value) (n:Nat),Vals xs its∧s.heap.get? p=some { cls:=.type "list",data:=.seq its.toArray n }∧xs.length≤sizeLine:=by
 obtain⟨z,its,n,r,e⟩:=I.hok p _ h;exact⟨its,n,r,e,z⟩
theorem Inv.lstUpd{pins:List (Addr×Obj)}{σ:St}{H:Hp}{s:Shared}{p:Addr}{xs ys:List V}{its its':List Value}{n n':Nat}{f:Obj→Obj}(I:Inv X pins σ H s)(h:H p=some (.lst xs))(ho:s.heap.get? p=some { cls:=.type "list",data:=.seq its.toArray n })(hf:f { cls:=.type "list",data:=.seq its.toArray n }={ cls:=.type "list",data:=.seq its'.toArray n' })(r:Vals ys its')(hz:ys.length≤sizeLine)(t:Nat) :
   Inv X pins σ (upd H p (.lst ys)) { s with heap:=s.heap.update p f,toks:=t }:=by
 have e:(s.heap.update p f).get? p=some { cls:=.type "list",data:=.seq its'.toArray n' }:=by
   rw[Heap.get?_update_self f ho (by rw[hf]<;>rfl),hf]
 refine I.write (x:=p) (e:=p) (by rw[h];trivial) (.inl rfl) (fun b u hb q=>(Heap.get?_update_other _ _ (Ne.symm hb)).trans q) ⟨_,e⟩ ?_;exact⟨hz,its',n',r,e⟩
noncomputable def rSetL:V→V→V→Hp→(Hp→Prop)→Prop:=fun o i v H Q=>∃ p xs k j,o=.ref p∧i=.int k∧H p=some (.lst xs)∧ixN xs.length k=some j∧Q (upd H p (.lst (xs.set j v)))
theorem b3h:PSet X rSetL:=by
 intro pins s σ H o i v ov iv u Q I ro ri rv h;obtain⟨p,xs,k,j,rfl,rfl,hp,hj,q⟩:=h;cases ro;obtain⟨t,rfl⟩:=ri;obtain⟨its,n,r,ho,hz⟩:=I.lst hp;obtain⟨h1,h2,h3,h4⟩:=c3t hj;have hl:=r.length;have hn:=b5j;have I':Inv X pins σ (upd H p (.lst (xs.set j v))) { s with heap:=s.heap.update p (Obj.mapSeq (·.setIfInBounds j u)) }:=
   I.lstUpd hp ho (c0d its n j u) (r.set rv j) (by rw[List.length_set];exact hz) s.toks
 by_cases h0:0≤k
 · have hk:k.toNat=j:=by
     rw[seqIndex_of h0 h4] at h1;exact c6e.inj h1
   exact PySem.W.ki_setAt ho h0 (by omega) (by rw[c6c,← hl];exact h4) (by rw[hk];exact⟨_,I',q⟩)
 · have hk:(k+(its.toArray.size:Int)).toNat=j:=by
     rw[seqIndex_neg (by omega) h3] at h1;rw[c6c,← hl];exact c6e.inj h1
   exact PySem.W.ki_setBack ho (by omega) (by rw[c6c,← hl];exact h3) (by omega) (by rw[hk];exact⟨_,I',q⟩)
theorem b4s(lo hi:Option Int)(n:Nat):(sliceBounds lo hi none n).1=((HT.sIx n 0 lo:Nat):Int)∧(sliceBounds lo hi none n).2.1=((HT.sIx n n hi:Nat):Int)∧(sliceBounds lo hi none n).2.2=1:=by
 refine⟨?_,?_,rfl⟩
 · cases lo with
   | none=>simp[sliceBounds,HT.sIx]
   | some i=>
     simp only[sliceBounds,HT.sIx,Option.getD_none,show (1:Int) > 0 by decide,if_true];by_cases h:i<0
     · simp only[h,if_true]<;>omega
     · simp only[h,if_false]<;>omega
 · cases hi with
   | none=>simp[sliceBounds,HT.sIx]
   | some i=>
     simp only[sliceBounds,HT.sIx,Option.getD_none,show (1:Int) > 0 by decide,if_true];by_cases h:i<0
     · simp only[h,if_true]<;>omega
     · simp only[h,if_false]<;>omega
theorem b3g(its:List Value)(lo hi:Option Int):slicePick its.toArray lo hi none=((its.drop (HT.sIx its.length 0 lo)).take (HT.sIx its.length its.length hi - HT.sIx its.length 0 lo)).toArray:=by
 obtain⟨h1,h2,h3⟩:=b4s lo hi its.toArray.size;unfold slicePick;rw[h1,h2,h3];simp only[sliceRange_one,pick_run,c6c]<;>rfl
noncomputable def rSlL(K:c5k):V→Option Int→Option Int→Hp→VK→Prop:=fun x lo hi H Q=>∃ a xs,x=.ref a∧SqL K H a xs∧∀ p,H p=none→Q (.ref p) (upd H p (.lst (cutV xs lo hi)))
theorem sl_list:SlR X (rSlL X.K):=by
 intro pins s σ H x v vl vu lo hi sl Q I rx hs pl pu h;obtain⟨a,xs,rfl,hx,q⟩:=h;cases rx;obtain⟨its,r,ht,hz⟩:=I.list hx;have hlen:=r.length;refine⟨"list",_,slot_list_getitem.lookup,ht.isList.typeIs,?_⟩;refine wpAny_getItem_list_slice ht.isList hs pl pu .none (by simp) ?_ (by rw[c6c]<;>omega);rw[b3g,← hlen];refine⟨.ref s.heap.objs.size,_,I.laid (t':=s.toks) (o:=.lst (cutV xs lo hi)) (fun b ob q=>Heap.get?_push_of_some _ q) (c5v _) ?_,rfl,q _ (I.hok.fresh (c5v _))⟩;exact⟨c7w (b1m xs lo hi) hz,_,0,(r.drop (HT.sIx xs.length 0 lo)).take (HT.sIx xs.length xs.length hi - HT.sIx xs.length 0 lo),Heap.get?_push_size _ rfl⟩
theorem b5y:a6x X (.builtin "len") (fun xs H Q=>∃ p ys,xs=[.ref p]∧(SqL X.K H p ys∨SqT X.K H p ys)∧Q (.int ys.length) H):=by
 intro pins s σ H xs us Q I r h;obtain⟨p,ys,rfl,hq,q⟩:=h;obtain⟨u,rfl,rx⟩:=vals1 r;cases rx;have hn:=b5j;rcases hq with hq | hq
 · obtain⟨its,r',pl,hz⟩:=I.list hq;have hlen:=r'.length;exact Calls.call_len_list pl.isList (by simp only[c6c]<;>omega) ⟨.int ys.length,H,I.tok _,⟨s.toks+1,by rw[c6c,hlen]⟩,q⟩
 · obtain⟨its,r',pl,hz⟩:=I.tuple hq;have hlen:=r'.length;exact len_tuple pl (by simp only[c6c]<;>omega) ⟨.int ys.length,H,I.tok _,⟨s.toks+1,by rw[c6c,hlen]⟩,q⟩
theorem b5x:a6x X (.type "list") (fun xs H Q=>∃ p ys,xs=[.ref p]∧(SqL X.K H p ys∨SqT X.K H p ys)∧∀ l,H l=none→Q (.ref l) (upd H l (.lst ys))):=by
 intro pins s σ H xs us Q I r h;obtain⟨p,ys,rfl,hq,q⟩:=h;obtain⟨u,rfl,rx⟩:=vals1 r;cases rx;have fin:∀ (its:List Value),Vals ys its→ys.length≤sizeLine→∀ (h':Heap) (c':Nat),(∀ b o',s.heap.get? b=some o'→h'.get? b=some o')→
     h'.get? s.heap.objs.size=some { cls:=.type "list",dict:=none,data:=.seq its.toArray c',slots:=#[] }→EP X pins σ Q (.ref s.heap.objs.size) { s with heap:=h' }:=fun its r' hz h' c' kp e=>
   ⟨.ref s.heap.objs.size,_,I.laid (t':=s.toks) kp (c5v _) (show a5b X.prog X.w _ h' _ (.lst ys) from ⟨hz,its,c',r',e⟩),rfl,q _ (I.hok.fresh (c5v _))⟩
 rcases hq with hq | hq
 · obtain⟨its,r',pl,hz⟩:=I.list hq;have hlen:=r'.length;obtain⟨o,ho,hc,n,hd⟩:=pl.isList;exact call_list_seq p (.inl rfl) ho hc hd (fun h' c' kp e=>fin its r' hz h' c' kp e) (by simp only[c6c]<;>omega)
 · obtain⟨its,r',pl,hz⟩:=I.tuple hq;have hlen:=r'.length;obtain⟨o,ho,hc,n,hd⟩:=pl;exact call_list_seq p (.inr rfl) ho hc hd (fun h' c' kp e=>fin its r' hz h' c' kp e) (by simp only[c6c]<;>omega)
noncomputable def tyV(K:c5k)(T:String)(x:V)(H:Hp):Prop:=match x with
 | .str _=>T = "str"
 | .int _=>T = "int"
 | .ref p=>(T = "list" ∧ ∃ xs,SqL K H p xs)∨(T = "tuple" ∧ ∃ o,K.lookup p=some o∧o.cls=.type "tuple" ∧ o.dict=none)∨
     (T = "dict" ∧ ((∃ kvs,H p=some (.dK kvs))∨∃ kvs,H p=some (.dT kvs)))∨(T = "set" ∧ ∃ S n,H p=some (.set S n))
 | _=>False
theorem tyV_is{pins:List (Addr×Obj)}{σ:St}{H:Hp}{s:Shared}{T:String}{x:V}{v:Value}(I:Inv X pins σ H s)(r:RelV x v)(ty:tyV X.K T x H) :
   s.TypeIs v T∧∀ a,v=.ref a→∃ ob,s.heap.get? a=some ob∧ob.dict=none:=by
 cases x with
 | str z=>
   obtain⟨t,rfl⟩:=r;cases (show T = "str" from ty);exact⟨typeIs_str s z t,fun _ e=>nomatch e⟩
 | int i=>
   obtain⟨t,rfl⟩:=r;cases (show T = "int" from ty);exact⟨typeIs_int s i t,fun _ e=>nomatch e⟩
 | ref p=>
   cases r;rcases ty with⟨rfl,xs,hq⟩ | ⟨rfl,o,hk,hc,hd⟩ | ⟨rfl,hk⟩ | ⟨rfl,S,n,hk⟩
   · obtain⟨its,_,pl,_⟩:=I.list hq;refine⟨pl.isList.typeIs,fun a e=>?_⟩;cases e;obtain⟨o,n,e,c,hd,_⟩:=pl;exact⟨o,e,hd⟩
   · refine⟨⟨o,I.kIn p o hk,hc⟩,fun a e=>?_⟩;cases e;exact⟨o,I.kIn _ o hk,hd⟩
   · have z:∃ o,s.heap.get? p=some o∧o.ExactDict:=by
       rcases hk with⟨kvs,hk⟩ | ⟨kvs,hk⟩
       · obtain⟨_,_,_,_,o,_,_,e,ex,_⟩:=I.hok p _ hk;exact⟨o,e,ex⟩
       · obtain⟨_,_,_,_,o,_,_,e,ex,_⟩:=I.hok p _ hk;exact⟨o,e,ex⟩
     obtain⟨o,e,ex⟩:=z;refine⟨⟨o,e,ex.1⟩,fun a e2=>?_⟩;cases e2;exact⟨o,e,ex.2.1⟩
   · obtain⟨o,_,_,_,e,ex,_⟩:=I.hok p _ hk;refine⟨⟨o,e,ex.1⟩,fun a e2=>?_⟩;cases e2;exact⟨o,e,ex.2.1⟩
 | _=>exact False.elim ty
noncomputable def tBM(K:c5k)(T:String)(r:V→List V→Hp→VK→Prop)(to:TE)(t:TA):TE:=fun σ H Q=>to σ H fun x H1=>tyV K T x H1∧t σ H1 fun xs H2=>r x xs H2 Q
variable {o e:Expr} {es:List Expr} {to:TE} {t:TA} {name:Str} {apos cpos:Pos} {T id:String} {r:V→List V→Hp→VK→Prop}
theorem pe_bm(pa:PlainAttrs T)(slot:Slot T name id)(hty:typeOf (.builtin id)=pure (.type "method_descriptor"))(hm:MtR X id r)(ho:PE X o to)(ha:PA X (e::es) t)(hbase:attributeBase o name X.env (eval o X.env)=eval o X.env:=by rfl)(hfew:((backTo cpos (starEach (e::es) X.env)).all (fun x=>!x.1) && (backToKw cpos (keywordEach [] X.env)).all (fun x=>x.1.isSome)
     && decide ((e::es).length+([]:List Keyword).length+(if ([]:List Keyword).isEmpty then 0 else 1)<30))=true:=by rfl)(hline:(apos.endLine == cpos.line)=true:=by rfl)(hs:starEach (e::es) X.env=(false,eval e X.env)::starEach es X.env:=by rfl)(hplain:(backTo cpos (starEach es X.env)).any (·.1)=false:=by rfl) :
   PE X (.Call (.Attribute o name apos) (e::es) [] cpos) (tBM X.K T r to t):=by
 intro pins s σ H Q I h;refine wpAny_Call_method_late hbase hfew hline rfl (thn (ho pins s σ H _ I h) fun v s1 ⟨x,H1,I1,r1,ty,q1⟩=>?_);obtain⟨h1,h2⟩:=tyV_is I1 r1 ty;refine⟨T,id,pa,slot,hty,h1,h2,?_⟩;have hA:=ha cpos pins s1 σ H1 _ I1 q1;rw[hs] at hA ⊢;refine Calls.callWith_builtin (by show (false || (backTo cpos (starEach es X.env)).any (·.1))=false;rw[hplain]<;>rfl) (Calls.evalArgs_plain ?_);exact thn hA fun us s2 ⟨vs,H2,I2,r2,q2⟩=>hm pins s2 σ H2 x vs v us Q I2 r1 r2 q2
end
noncomputable def MtM(X:Cx)(id:String)(r:V→List V→Hp→VK→Prop):Prop:=
 ∀ (pins:List (Addr×Obj)) (s:Shared) (σ:St) (H:Hp) (x:V) (xs:List V) (v:Value) (us:List Value) (Q:VK),Inv X pins σ H s→RelV x v→Vals xs us→r x xs H Q→
   wpAny (model X.prog X.w) X.A (call (.builtin id) (v::us)) (EP X pins σ Q) X.xe s
theorem Vals.one:∀ {x:V} {us:List Value},Vals [x] us→∃ u,us=[u]∧RelV x u
 | _,_,.cons r .nil=>⟨_,rfl,r⟩
theorem Vals.reverse{xs:List V}{us:List Value}(h:Vals xs us):Vals xs.reverse us.reverse:=by
 induction h with
 | nil=>exact .nil
 | cons r t ih=>rw[List.reverse_cons,List.reverse_cons];exact Vals.append ih (.cons r .nil)
theorem Vals.rep{xs:List V}{us:List Value}(h:Vals xs us):∀ k:Nat,Vals (c5q k xs).flatten (c5q k us).flatten
 | 0=>.nil
 | k+1=>by
   rw[c7j,c7j,d0j,d0j];exact Vals.append h (Vals.rep h k)
theorem b5o(its:List Value):∀ (k:Nat) (acc:List Value),
   List.foldl (fun x1 x2=>x1++x2) acc.toArray (c5q k its.toArray)=(acc++(c5q k its).flatten).toArray
 | 0,acc=>by simp
 | k+1,acc=>by
   have e:acc.toArray++its.toArray=(acc++its).toArray:=by simp
   have e2:(acc++its)++(c5q k its).flatten=acc++(c5q (k+1) its).flatten:=by
     rw[c7j,d0j,c6i]
   rw[← e2,← b5o its k (acc++its),← e,c7j,List.foldl_cons]
section
variable {X:Cx} {pins:List (Addr×Obj)} {σ:St} {H:Hp} {s:Shared} {l b:Addr} {xs ys zs:List V}
theorem Inv.lset{its its':List Value}{n:Nat}{f:Array Value→Array Value}{t':Nat}(I:Inv X pins σ H s)(hH:H l=some (.lst xs))(e:s.heap.get? l=some { cls:=.type "list",data:=.seq its.toArray n })(hf:f its.toArray=its'.toArray)(hv:Vals ys its')(hz:ys.length≤sizeLine) :
   Inv X pins σ (upd H l (.lst ys)) { s with heap:=s.heap.update l (Obj.mapSeq f),toks:=t' }:=by
 have q:=PySem.IsL.update e f;rw[hf] at q;refine I.write (x:=l) (e:=l) (by rw[hH];exact trivial) (.inl rfl) (fun b' u hb hu=>(Heap.get?_update_other s.heap (Obj.mapSeq f) (Ne.symm hb)).trans hu) ⟨_,q⟩ ?_;exact⟨hz,its',_,hv,q⟩
theorem Inv.lnew{its:List Value}{t':Nat}(I:Inv X pins σ H s)(hv:Vals ys its)(hz:ys.length≤sizeLine) :
   Inv X pins σ (upd H s.heap.objs.size (.lst ys)) { s with heap:=s.heap.push { cls:=.type "list",data:=.seq its.toArray },toks:=t' }:=
 I.laid (fun _ _ q=>Heap.get?_push_of_some _ q) (c5v _) ⟨hz,its,0,hv,Heap.get?_push_size _ rfl⟩
theorem Inv.fresh(I:Inv X pins σ H s):H s.heap.objs.size=none:=I.hok.fresh (c5v _)
theorem Inv.lstM(I:Inv X pins σ H s)(hH:H l=some (.lst xs)):xs.length≤sizeLine∧∃ (its:List Value) (n:Nat),Vals xs its∧xs.length=its.length∧s.heap.get? l=some { cls:=.type "list",data:=.seq its.toArray n }:=by
 obtain⟨z,its,n,r,e⟩:=I.hok l _ hH;exact⟨z,its,n,r,r.length,e⟩
theorem b8o{n:Nat}(h:n≤sizeLine):Builtin.List.listTooLong n=false:=by
 unfold Builtin.List.listTooLong;exact decide_eq_false (by omega)
end
section
variable {X:Cx}
noncomputable def rAppend:V→List V→Hp→VK→Prop:=fun x vs H Q=>∃ l xs y,x=.ref l∧vs=[y]∧H l=some (.lst xs)∧xs.length<sizeLine∧Q .non (upd H l (.lst (xs++[y])))
theorem a2l:MtM X "list.append" rAppend:=by
 intro pins s σ H x vs v us Q I rx rv h;obtain⟨l,xs,y,rfl,rfl,hH,hz,q⟩:=h;cases rx;obtain⟨u,rfl,ru⟩:=rv.one;obtain⟨z,its,n,r,hl,e⟩:=I.lstM hH;refine call_meets F.slot_list_append ⟨_,e,rfl⟩ F.entry_list_append (F.args_list_append_2 _ _) (PySem.list_append l its.toArray n u (by rw[c6c];omega)) ⟨e,?_⟩;refine⟨.non,_,I.lset (its':=its++[u]) hH e (by simp) (r.append (.cons ru .nil)) ?_,rfl,q⟩;rw[c5n,List.length_singleton];omega
noncomputable def rExtend:V→List V→Hp→VK→Prop:=fun x vs H Q=>∃ l b xs zs,x=.ref l∧vs=[.ref b]∧H l=some (.lst xs)∧H b=some (.lst zs)∧xs.length+zs.length≤sizeLine∧Q .non (upd H l (.lst (xs++zs)))
theorem b5i:MtM X "list.extend" rExtend:=by
 intro pins s σ H x vs v us Q I rx rv h;obtain⟨l,b,xs,zs,rfl,rfl,hH,hB,hz,q⟩:=h;cases rx;obtain⟨u,rfl,ru⟩:=rv.one;cases ru;obtain⟨z,its,n,r,hl,e⟩:=I.lstM hH;obtain⟨z2,its2,n2,r2,hl2,e2⟩:=I.lstM hB;have hsz:its.toArray.size+its2.toArray.size≤sizeLine:=by rw[c6c,c6c];omega
 have hlong:¬ (!its.toArray.isEmpty && Builtin.List.listTooLong (its.toArray.size+its2.toArray.size))=true:=by
   rw[b8o hsz,Bool.and_false];exact c6s
 refine call_meets F.slot_list_extend ⟨_,e,rfl⟩ F.entry_list_extend (F.args_list_extend_2 _ _)
   (AutoSeq1.list_extend_list_list_0 l its.toArray n b its2.toArray n2 hlong (by rw[c6c];omega) (by omega)) ⟨e,e2,?_⟩
 refine⟨.non,_,I.lset (its':=its++its2) hH e (by simp) (r.append r2) ?_,rfl,q⟩;rw[c5n];omega
noncomputable def rCat:R2:=fun x y H Q=>∃ l b xs zs,x=.ref l∧y=.ref b∧H l=some (.lst xs)∧H b=some (.lst zs)∧xs.length+zs.length≤sizeLine∧∀ p,H p=none→Q (.ref p) (upd H p (.lst (xs++zs)))
theorem c2q:OpR X (binaryOp .Add) rCat:=by
 intro pins s σ H x y v u Q I rx ry h;obtain⟨l,b,xs,zs,rfl,rfl,hH,hB,hz,q⟩:=h;cases rx;cases ry;obtain⟨z,its,n,r,hl,e⟩:=I.lstM hH;obtain⟨z2,its2,n2,r2,hl2,e2⟩:=I.lstM hB;refine PySem.P.add_list e e2 ?_ (by rw[c6c,c6c];omega);have ea:its.toArray++its2.toArray=(its++its2).toArray:=by simp
 rw[ea];exact⟨.ref _,_,I.lnew (t':=s.toks) (r.append r2) (by rw[c5n];omega),rfl,q _ I.fresh⟩
noncomputable def rRep:R2:=fun x y H Q=>∃ l k xs,x=.ref l∧y=.int k∧H l=some (.lst xs)∧-(2^63)≤k∧k<2^63∧xs.length*k.toNat≤sizeLine∧
 ∀ p,H p=none→Q (.ref p) (upd H p (.lst (c5q k.toNat xs).flatten))
theorem len_rep{α:Type}(xs:List α)(k:Nat):(c5q k xs).flatten.length=k*xs.length:=by
 induction k with
 | zero=>simp
 | succ k ih=>rw[c7j,d0j,c5n,ih,d0t,Nat.add_comm]
theorem op_rep:OpR X (binaryOp .Mult) rRep:=by
 intro pins s σ H x y v u Q I rx ry h;obtain⟨l,k,xs,rfl,rfl,hH,h1,h2,hz,q⟩:=h;cases rx;obtain⟨t,rfl⟩:=ry;obtain⟨z,its,n,r,hl,e⟩:=I.lstM hH;have hlen:its.toArray.size*k.toNat≤sizeLine:=by rw[c6c,← hl];exact hz
 have hcap:¬ its.toArray.size*k.toNat > (2^63 - 1) / 8:=by
   have:(sizeLine:Nat)≤(2^63 - 1) / 8:=by decide
   omega
 have hfit:¬ (!Builtin.List.listFitsIndex k)=true:=by
   rw[fitsIndex_both h1 h2];exact c6s
 have hlong:¬ Builtin.List.listTooLong (its.toArray.size*k.toNat)=true:=by
   rw[b8o hlen];exact c6s
 have hnew:List.foldl (fun x1 x2=>x1++x2) #[] (c5q (if its.toArray.isEmpty=true then 0 else k.toNat) its.toArray)=(c5q k.toNat its).flatten.toArray:=by
   have f0:∀ m:Nat,List.foldl (fun x1 x2=>x1++x2) #[] (c5q m its.toArray)=(c5q m its).flatten.toArray:=fun m=>by
     have:=b5o its m [];rw[List.nil_append] at this;exact this
   rw[f0];cases its with
   | nil=>simp
   | cons a r'=>rw[if_neg (by simp)]
 refine wpAny_binaryOp_repeat_ref (T := "list") (U := "int") (by decide) ⟨_,e,rfl⟩ (fun s'=>typeIs_int s' k t) noFill_list_mul F.fills_int_mul F.slot_int_rmul repeat_list F.slot_int_index.lookup
   (call_meets F.slot_int_rmul (typeIs_int s k t) F.entry_int_rmul (F.args_int_rmul_2 _ _) (int___rmul___int_list k t l its.toArray n)
     ⟨e,rfl,⟨_,e,rfl⟩,call_meets F.slot_list_mul ⟨_,e,rfl⟩ F.entry_list_mul (F.args_list_mul_2 _ _) (AutoListH.list___mul___list_int_3 l its.toArray n k t hfit hcap hlong) ⟨e,?_⟩⟩)
 rw[hnew];exact⟨.ref _,_,I.lnew (t':=s.toks) (r.rep k.toNat) (by rw[len_rep,Nat.mul_comm];exact hz),rfl,q _ I.fresh⟩
end
section
variable {prog:Program} {w:World} {A:Around} {E:Value→Shared→Prop} {s:Shared}
set_option maxRecDepth 100000 in
end
end L2
namespace Att
open PySem PySem.W PySem.Calls PyProof.Rows
theorem b1e{P:Params}{h:Heap}:∀ (ns:List Int) (vs:List Value),WellAll P h vs (ns.map WData.int)→IntsAre vs ns:=by
 intro ns;induction ns with
 | nil=>
   intro vs w;rw[List.map_nil] at w;cases w;exact .nil
 | cons n ns ih=>
   intro vs w;rw[c8m] at w;cases w with
   | cons a b=>
     cases a;exact .cons _ _ (ih _ b)
theorem c1z{l:OpenLaw}{n:Nat}(hn:l.most=some n){P:Params}{h:Heap}{args:List WData}{vals:List Value}(hpre:l.row.toRowW.claim.pre args=true)(hwl:WellAll P h vals args) :
   ∃ a vs ns,vals=[Value.ref a]∧args=[WData.list (ns.map WData.int)]∧h.get? a=some { cls:=.type "list",data:=.seq vs.toArray }∧IntsAre vs ns∧ns.length≤n:=by
 have hsh:WShape.hasAll [] args [.list .int]=true:=(pre_splitW hpre).1;have hc:l.pre.holds [] { args:=args }=true:=(pre_splitW hpre).2;obtain⟨d,r,rfl,h1,h2⟩:=hasAllW_cons hsh;obtain rfl:=hasAllW_nil h2;obtain⟨xs,rfl,h3⟩:=hasW_list h1;obtain⟨ns,rfl⟩:=items_int h3;have hlen:ns.length≤n:=by
   unfold OpenLaw.pre at hc;have h4:(WTm.not (.lt (.lit (.int (n:Int))) (.len (.arg 0)))).holds [] { args:=[.list (ns.map .int)] }=true:=by
     have h4:=(holds_andW hc).1;rw[hn] at h4;exact h4
   have h5:=condW_of h4 (w_not (w_lt w_lit (w_len_list (w_arg rfl))));rw[c5l] at h5;refine Nat.le_of_not_lt fun q=>?_;have q':(n:Int)<((ns.length:Nat):Int):=by omega
   first
     | (rw[decide_eq_true q'] at h5;exact absurd h5 (by decide))
     | (simp at h5;omega)
 cases hwl with
 | cons w1 w2=>
   cases w2;cases w1 with
   | list ho hall=>exact⟨_,_,ns,rfl,rfl,ho,b1e ns _ hall,hlen⟩
theorem c2e(l:OpenLaw)(args:List WData):l.row.toRowW.claim.post args (.bool true) args=true:=
 postW_of (r:=l.row.toRowW) (X:=(true == true))
   (show WShape.has [] (.bool true) .bool=true by first | rfl | decide | simp[WShape.has,WShape.arms,WShape.armsAll])
   (show (WTm.eq .res (.lit (.bool true))).value [] { args:=args,res:=some (.bool true),after:=args }=some (.bool (true == true)) from w_eq_bool (w_res rfl) w_lit) rfl
theorem b7h{l:OpenLaw}{n:Nat}{q:Program}{loose:List Str}{XP:(Str→Option Value)→Heap→Prop}{YP:World→Heap→Prop}{d:DefRec}(hn:l.most=some n)(hdf:d.params.defaults=[])(call:∀ (w:World) (s₀ s₁:Shared) (mg mb:Str→Option Value) (fa:Addr) (o:Obj) (pm cd doc:Value) (a:Addr) (vs:List Value) (ns:List Int),
     Ground q loose [] XP w s₀ mg mb s₁.heap→YP w s₁.heap→
     s₁.heap.get? fa=some o→o.data=.func (docDef d.name d.params d.body d.scope pm cd doc)→s₁.heap.CodeRec cd d.name→mg d.name=some (.ref fa)→
     s₁.heap.get? a=some { cls:=.type "list",data:=.seq vs.toArray }→IntsAre vs ns→ns.length≤n→s₁.gens = #[]→
     codeAny (model l.prog w) callerA (.call (.ref fa) ⟨[.ref a],[]⟩) (fun r s'=>r=.ok (.ret (.bool true))∧OldK s₁.heap s'.heap∧s'.os=s₁.os∧AllBare s'.gens) s₁) :
   WalkO q loose XP YP l.row.toRowW d [] (fun f vs=>PySem.call f vs):=by
 intro w s₀ s₁ mg mb G Y fa o pm cd doc dV kV ho hd hcd hD hmg hg args vals as hpre hlay hrd hwl hlo;obtain rfl:dV=.none:=Dflts.none hD hdf;obtain rfl:kV=.none:=Dflts.noKw hD;obtain⟨a,vs,ns,rfl,rfl,hobj,hints,hlen⟩:=c1z hn hpre hwl;refine enter_call (codeAny_mono (call w s₀ s₁ mg mb fa o pm cd doc a vs ns G Y ho (fd_plain hd) hcd hmg hobj hints hlen hg) fun r s' hq=>?_);obtain⟨rfl,h2,h3,h4⟩:=hq;exact⟨.inl ⟨.bool true,.bool true,[],rfl,fun _=>rfl,.bool true,c2e l _,fun _=>⟨List.Pairwise.nil,fun _ hm=>(nomatch hm)⟩⟩,h2,h3,h4⟩
end Att
namespace L2
open PySem PySem.Spec PyProof.Rows
theorem b4l:∀ {vs:List Value} {ns:List Int},IntsAre vs ns→Vals (ns.map V.int) vs
 | _,_,.nil=>.nil
 | _,_,.cons n t h=>.cons ⟨t,rfl⟩ (b4l h)
noncomputable def Only(H:Hp):Prop:=∀ b,H b=none∨∃ o xs,H b=some (.frz o (.lst xs))
theorem law_call{P:Program}{w:World}{K:c5k}{mg mb:Str→Option Value}{CX:CXT}{k:Nat}{fa a:Addr}{fd:FuncData}{x:Str}{sp:Sp}{s₁:Shared}{vs:List Value}{ns:List Int}(KX:K.In s₁.heap)(hns:s₁.heap.Ns mainGlobals mg)(hb:s₁.heap.Ns builtinsNs mb)(hbb:∀ x:Str,x ≠ "__name__" → mb x=bootBuiltins x)(hlim:s₁.heap.NoLimit)(hg:s₁.gens = #[])(ha:s₁.heap.get? a=some { cls:=.type "list",data:=.seq vs.toArray })(hi:IntsAre vs ns)(hl:ns.length≤sizeLine)(hr:Room k callerA)(F:∀ base:Heap,K.In base→base.Ns mainGlobals mg→FnOk P w K mg base CX k fa fd [x] sp)(hbind:∀ (s:Shared) (u:Value),BindsTo s fd ⟨[u],[]⟩ [(x,u)])(hsp:∀ H:Hp,Only H→SqL K H a (ns.map V.int)→sp [.ref a] H (fun v _=>v=.bl true) fun _ _ _=>False)(hCX:∀ H e s',CX [] H s₁ (fun _ _ _=>False) e s'→False) :
   codeAny (model P w) callerA (.call (.ref fa) ⟨[.ref a],[]⟩) (fun r s'=>r=.ok (.ret (.bool true))∧OldK s₁.heap s'.heap∧s'.os=s₁.os∧AllBare s'.gens) s₁:=by
 have rv:=b4l hi;have lenV:=hi.length;have core:∀ H:Hp,Only H→SqL K H a (ns.map V.int)→HOk P w H s₁.heap→(∀ b,H b≠none→b=a)→(H a≠none→K.lookup a=none)→
     codeAny (model P w) callerA (.call (.ref fa) ⟨[.ref a],[]⟩) (fun r s'=>r=.ok (.ret (.bool true))∧OldK s₁.heap s'.heap∧s'.os=s₁.os∧AllBare s'.gens) s₁:=by
   intro H hO hS hok hA hK;have base_of:∀ {b:Addr} {o:Obj},s₁.heap.get? b=some o→H b=none→(hidT s₁.heap H).get? b=some o:=fun e n=>hidT_get e n;have noA:∀ {b:Addr} {o:Obj} {es:Array DictEntry} {ep:Nat},s₁.heap.get? b=some o→o.data=.dict es ep→H b=none:=fun {b o es ep} e d=>by
     cases q:H b with
     | none=>rfl
     | some u=>
       have e':b=a:=hA b (by rw[q];simp);subst e';rw[ha] at e;cases e;have d':Data.seq vs.toArray _=Data.dict es ep:=d;cases d'
   have nsK:∀ {b:Addr} {m:Str→Option Value},s₁.heap.Ns b m→(hidT s₁.heap H).Ns b m:=fun {b m} ⟨o,es,ep,e,d,r⟩=>⟨o,es,ep,base_of e (noA e d),d,r⟩
   have hKb:K.In (hidT s₁.heap H):=fun b o e=>base_of (KX b o e) (by
     cases q:H b with
     | none=>rfl
     | some u=>
       have e':b=a:=hA b (by rw[q];simp);subst e';rw[hK (by rw[q];simp)] at e;cases e)
   have hM:Mod K mg (hidT s₁.heap H):=⟨hKb,nsK hns,⟨mb,nsK hb,hbb⟩,let ⟨mc,h1,h2⟩:=hlim;⟨mc,nsK h1,h2⟩⟩
   have e0:Env0 P w K mg (hidT s₁.heap H) callerA [] s₁ H:=⟨rfl,hM,fun b o e=>of_hidT e,Nat.le_of_eq (c4c _ _),trivial,fun b hb=>absurd (show b∈([]:List Addr) from hb) (by simp),hok,.of_eq hg⟩
   refine codeAny_mono ((F _ hKb (nsK hns)).run callerA [] s₁ H ⟨[.ref a],[]⟩ [.ref a] [.ref a] _ _ hr e0 (hbind s₁ (.ref a)) (.cons rfl .nil) (hsp H hO hS)) fun r s' h=>?_;cases r with
   | error e=>exact (hCX H e s' h).elim
   | ok fl=>
     cases fl with
     | next=>exact False.elim h
     | brk=>exact False.elim h
     | cont=>exact False.elim h
     | ret u=>
       obtain⟨v,H',os,bare,un,hok',r',q⟩:=h;have q':v=.bl true:=q;subst q';obtain rfl:u=Value.bool true:=r';refine⟨rfl,OldK.of_keep fun b o e=>?_,os,bare⟩;cases q:H b with
       | none=>exact un.keep b o e q (by intro z;exact absurd (show b∈([]:List Addr) from z) (by simp)) (by simp)
       | some u=>
         rcases hO b with z | ⟨ob,xs,z⟩
         · rw[q] at z;cases z
         · have z2:=un.frzs b ob _ z;obtain⟨e1,_⟩:=hok b _ z;obtain⟨e2,_⟩:=hok' b _ z2;rw[e] at e1;cases e1;exact e2
 cases hk:K.lookup a with
 | some o=>
   have e:=KX a o hk;rw[ha] at e;cases e;refine core (fun _=>none) (fun _=>.inl rfl) (.inr ⟨_,vs.toArray,_,hk,rfl,rfl,rfl,by rw[c6c,lenV];exact hl,by simpa using rv⟩) (fun b u z=>by have z':(none:Option HO)=some u:=z;cases z') (fun b z=>absurd rfl z) fun z=>absurd rfl z
 | none=>
   refine core (fun b=>if b=a then some (.frz { cls:=.type "list",data:=.seq vs.toArray } (.lst (ns.map V.int))) else none) (fun b=>?_) (.inl (.inr ⟨{ cls:=.type "list",data:=.seq vs.toArray },if_pos rfl⟩)) (fun b u z=>?_) (fun b z=>?_) fun _=>hk
   · by_cases hb:b=a
     · exact .inr ⟨_,_,if_pos hb⟩
     · exact .inl (if_neg hb)
   · by_cases hb:b=a
     · have z':=(if_pos hb).symm.trans z;cases z';subst hb;exact⟨ha,by rw[c5l];exact hl,vs,_,rv,ha⟩
     · have z':=(if_neg hb).symm.trans z;cases z'
   · by_cases hb:b=a
     · exact hb
     · exact absurd (if_neg hb) z
theorem walk_of{l:PySem.W.OpenLaw}{n k:Nat}{q:Program}{loose:List Str}{XP:(Str→Option Value)→Heap→Prop}{YP:World→Heap→Prop}{d:DefRec}{K:Params→c5k}{CX:World→CXT}{sp:World→Sp}{x:Str}(hn:l.most=some n)(hn2:n≤sizeLine)(hdf:d.params.defaults=[])(hr:Room k callerA)(hY:∀ (w:World) (h:Heap),YP w h→(K w.params).In h)(F:∀ (w:World) (mg:Str→Option Value) (fa:Addr) (h:Heap),(K w.params).In h→h.Ns mainGlobals mg→mg d.name=some (.ref fa)→
     ∃ fd:FuncData,(∀ (s:Shared) (u:Value),BindsTo s fd ⟨[u],[]⟩ [(x,u)])∧
       ∀ base:Heap,(K w.params).In base→base.Ns mainGlobals mg→FnOk l.prog w (K w.params) mg base (CX w) k fa fd [x] (sp w))(hsp:∀ (w:World) (H:Hp) (a:Addr) (ns:List Int),ns.length≤n→Only H→SqL (K w.params) H a (ns.map V.int)→sp w [.ref a] H (fun v _=>v=.bl true) fun _ _ _=>False)(hCX:∀ (w:World) (H:Hp) (s:Shared) (e:Value) (s':Shared),CX w [] H s (fun _ _ _=>False) e s'→False) :
   PySem.W.WalkO q loose XP YP l.row.toRowW d [] (fun f vs=>PySem.call f vs):=by
 refine Att.b7h hn hdf fun w s₀ s₁ mg mb fa o pm cd doc a vs ns G Y ho hd hcd hmg hobj hints hlen hg=>?_;have KX:=hY w _ Y;obtain⟨fd,hb,hF⟩:=F w mg fa _ KX G.T.g hmg;exact law_call KX G.T.g G.T.b G.T.builtins G.T.nolimit hg hobj hints (c7w hlen hn2) hr hF hb (fun H hO hS=>hsp w H a ns hlen hO hS) fun H e s'=>hCX w H s₁ e s'
noncomputable def c3y(s:Stmt)(j:Nat):Stmt:=match s with
 | .ClassDef _ _ _ body _ _ _ _ _ _ _=>body.getD j (.Pass ⟨0,0,0,0⟩)
 | _=>.Pass ⟨0,0,0,0⟩
noncomputable def a1a(s:Stmt):Arguments:=match s with
 | .FunctionDef _ a _ _ _ _ _ _ _ _=>a
 | _=>{ posonlyargs:=[],args:=[],vararg:=none,kwonlyargs:=[],kw_defaults:=[],kwarg:=none,defaults:=[] }
noncomputable def a0x(s:Stmt):List Stmt:=match s with
 | .FunctionDef _ _ b _ _ _ _ _ _ _=>b
 | _=>[]
noncomputable def a0f(s:Stmt):Scope:=match s with
 | .FunctionDef _ _ _ _ _ _ sc _ _ _=>sc
 | _=>{ kind:=.function,names:=[],isGenerator:=false,isCoroutine:=false }
abbrev CX0:CXT:=fun _ _ _ _ _ _=>False
abbrev E0:XK:=fun _ _ _=>False
theorem a1k{X:Cx}:a6c CX0 X E0:=fun _ _ _ _ _ _ _ h=>h.elim
structure Fun(K:c5k)(x qual:Str)(st:Stmt)(f:Addr)(fd:FuncData):Prop where
 ex:∃ (oc:Value) (od:Option Addr) (kV doc pm:Value) (an:Option Addr) (cdv ct:Value) (osl:Array (Option Value)),
   fd=c5z x qual (a1a st) (a0x st) (a0f st) .none kV doc pm an cdv ct∧K.lookup f=some ⟨oc,od,.func fd,osl⟩∧c5x K cdv qual=true
 kp:c5w K (.ref f)=true
section
variable {P:Program} {w:World} {K:c5k} {mg:Str→Option Value} {base:Heap}
theorem Fun.ok{x qual:Str}{st:Stmt}{f:Addr}{fd:FuncData}{N ps:List Str}{k:Nat}{sp:Sp}(F:Fun K x qual st f fd)(S:a1d N ps (a0f st))(len:∀ vs H Q E,sp vs H Q E→vs.length=ps.length)(hbody:∀ (cdv:Value) (A:Around) (outer:List Env) (s:Shared) (H:Hp) (vs:List V) (Q:VK) (E:XK),Room k (A.deeper (envOfC qual (a0f st) s.heap.objs.size f cdv))→sp vs H Q E→
     ∃ t,PSs (cxOf CX0 P w K mg base N qual (a0f st) f cdv A outer s H E).nox (a0x st) t∧t { nx:=fun _ H'=>Q .non H',rt:=Q } (b0i N vs) H):FnOk P w K mg base CX0 (k+1) f fd ps sp:=by
 obtain⟨oc,od,kV,doc,pm,an,cdv,ct,osl,rfl,lk,hcd⟩:=F.ex;refine fn_of lk hcd S len fun A outer s H vs Q E hr hsp=>?_;obtain⟨t,h,q⟩:=hbody cdv A outer s H vs Q E hr hsp;exact⟨t,h.nox,q⟩
theorem Fun.binds{x qual:Str}{st:Stmt}{f:Addr}{fd:FuncData}{ps:List Str}(F:Fun K x qual st f fd)(h:∀ (kV doc pm:Value) (an:Option Addr) (cdv ct:Value) (us:List Value),us.length=ps.length→bindArgs (c5z x qual (a1a st) (a0x st) (a0f st) .none kV doc pm an cdv ct) ⟨us,[]⟩=pure (ps.zip us)):a9t K fd ps []:=by
 obtain⟨oc,od,kV,doc,pm,an,cdv,ct,osl,rfl,lk,hcd⟩:=F.ex;exact .all (h kV doc pm an cdv ct)
theorem fun_mk{x qual:Str}{st:Stmt}{f:Addr}{oc:Value}{od an:Option Addr}{osl:Array (Option Value)}{kV doc pm cdv ct:Value}(l:K.lookup f=some ⟨oc,od,.func (c5z x qual (a1a st) (a0x st) (a0f st) .none kV doc pm an cdv ct),osl⟩)(c:c5x K cdv qual=true)(k:c5w K (.ref f)=true):Fun K x qual st f (c5z x qual (a1a st) (a0x st) (a0f st) .none kV doc pm an cdv ct):=⟨⟨oc,od,kV,doc,pm,an,cdv,ct,osl,rfl,l,c⟩,k⟩
end
theorem c1v{n:Nat}(h:n≤1000):n<sizeLine:=Nat.lt_of_le_of_lt h (by decide)
section
variable {X:Cx}
theorem pv(i:Nat){x:Str}{pos:Pos}(hN:X.N[i]?=some x:=by rfl)(hv:Vis X.env.scope x:=by first | exact Or.inl rfl | exact Or.inr (Or.inl rfl) | exact Or.inr (Or.inr rfl))(hd:(x == ("__debug__" : Str))=false:=by decide)(hcd:(x == ("__classdict__" : Str))=false:=by decide):PE X (.Name x pos) (tVar i):=pe_var hN hv hd hcd
end
theorem iteF{A B:Prop}(h:B):if false=true then A else B:=by
 rw[if_neg c6s];exact h
theorem iteT{A B:Prop}(h:A):if true=true then A else B:=by
 rw[if_pos rfl];exact h
theorem iteNS{c A B:Prop}[Decidable c](hc:c)(h:B):if (!decide c)=true then A else B:=by
 rw[decide_eq_true hc];exact iteF h
noncomputable def Same(H H':Hp):Prop:=∀ b o,H b=some o→H' b=some o
theorem Same.refl(H:Hp):Same H H:=fun _ _ h=>h
theorem Same.trans{H H1 H2:Hp}(a:Same H H1)(b:Same H1 H2):Same H H2:=fun c o h=>b c o (a c o h)
theorem Same.free{H H':Hp}(e:Same H H'){l:Addr}(h:H' l=Option.none):H l=Option.none:=by
 cases q:H l with
 | none=>rfl
 | some o=>
   rw[e l o q] at h;cases h
theorem Same.seq{K:c5k}{H H':Hp}{a:Addr}{xs:List V}(e:Same H H')(h:SqL K H a xs):SqL K H' a xs:=by
 rcases h with (h | ⟨o,h⟩) | h
 · exact .inl (.inl (e _ _ h))
 · exact .inl (.inr ⟨o,e _ _ h⟩)
 · exact .inr h
end L2
namespace Cv
structure Sz(n:Nat)(x:Int):Prop where
 lt:x.natAbs<2^n
theorem Sz.mono{n m:Nat}{x:Int}(h:Sz n x)(hm:n≤m):Sz m x:=⟨c7b h.lt (Nat.pow_le_pow_right (by decide) hm)⟩
theorem Sz.le{n:Nat}{x y:Int}(h:Sz n x)(hy:y.natAbs≤x.natAbs):Sz n y:=⟨Nat.lt_of_le_of_lt hy h.lt⟩
theorem Sz.mul{n m:Nat}{x y:Int}(h:Sz n x)(k:Sz m y):Sz (n+m) (x*y):=by
 refine⟨?_⟩;rw[d0q,Nat.pow_add];exact Nat.mul_lt_mul'' h.lt k.lt
theorem Sz.add{n m:Nat}{x y:Int}(h:Sz n x)(k:Sz m y):Sz (max n m+1) (x+y):=by
 refine⟨?_⟩;have h1:=(h.mono (Nat.le_max_left n m)).lt;have h2:=(k.mono (Nat.le_max_right n m)).lt;have h3:=Int.natAbs_add_le x y;rw[Nat.pow_succ];omega
theorem Sz.neg{n:Nat}{x:Int}(h:Sz n x):Sz n (-x):=⟨by rw[Int.natAbs_neg];exact h.lt⟩
theorem Sz.sub{n m:Nat}{x y:Int}(h:Sz n x)(k:Sz m y):Sz (max n m+1) (x - y):=by
 rw[Int.sub_eq_add_neg];exact h.add k.neg
theorem Sz.one:Sz 1 1:=⟨by decide⟩
theorem Sz.zero:Sz 0 0:=⟨by decide⟩
structure Bd(n:Nat)(q:Rat):Prop where
 num:Sz n q.num
 den:Sz n (q.den:Int)
theorem Bd.mono{n m:Nat}{q:Rat}(h:Bd n q)(hm:n≤m):Bd m q:=⟨h.num.mono hm,h.den.mono hm⟩
theorem num_le(a b:Int)(hb:b≠0):(c5r a b).num.natAbs≤a.natAbs∧(c5r a b).den≤b.natAbs:=by
 refine⟨?_,?_⟩
 · rw[Rat.num_divInt];have h2:(b.sign*a).natAbs=a.natAbs:=by
     rw[d0q,Int.natAbs_sign_of_ne_zero hb,Nat.one_mul]
   have hd:(b.gcd a:Int)∣b.sign*a:=Int.dvd_mul_of_dvd_right (Int.gcd_dvd_right ..);rw[← h2];have:=Int.natAbs_ediv_of_dvd hd;rw[this];exact Nat.div_le_self _ _
 · rw[Rat.den_divInt,if_neg hb];exact Nat.div_le_self _ _
theorem Bd.of{n m:Nat}{a b:Int}(ha:Sz n a)(hb:Sz m b)(h0:b≠0):Bd (max n m) (c5r a b):=
 ⟨(ha.mono (Nat.le_max_left n m)).le (num_le a b h0).1,(hb.mono (Nat.le_max_right n m)).le (by rw[Int.natAbs_natCast];exact (num_le a b h0).2)⟩
theorem a9i(q:Rat):(q.den:Int)≠0:=by have:=q.den_pos;omega
theorem add_eq(a b:Rat):c5r (a.num*b.den+b.num*a.den) ((a.den:Int)*b.den)=a+b:=by
 have:=Rat.divInt_add_divInt a.num b.num (a9i a) (a9i b);rw[c8x,c8x] at this;exact this.symm
theorem sub_eq(a b:Rat):c5r (a.num*b.den - b.num*a.den) ((a.den:Int)*b.den)=a - b:=by
 have:=Rat.divInt_sub_divInt a.num b.num (a9i a) (a9i b);rw[c8x,c8x] at this;exact this.symm
theorem mul_eq(a b:Rat):c5r (a.num*b.num) ((a.den:Int)*b.den)=a*b:=by
 have:=Rat.divInt_mul_divInt a.num b.num (d₁:=a.den) (d₂:=b.den);rw[c8x,c8x] at this;exact this.symm
theorem a9a(a b:Rat):(a.den:Int)*b.den≠0:=Int.mul_ne_zero (a9i a) (a9i b)
theorem Bd.add{n m:Nat}{a b:Rat}(h:Bd n a)(k:Bd m b):Bd (n+m+1) (a+b):=by
 rw[← add_eq];exact (Bd.of ((h.num.mul k.den).add (k.num.mul h.den)) (h.den.mul k.den) (a9a a b)).mono (by omega)
theorem Bd.sub{n m:Nat}{a b:Rat}(h:Bd n a)(k:Bd m b):Bd (n+m+1) (a - b):=by
 rw[← sub_eq];exact (Bd.of ((h.num.mul k.den).sub (k.num.mul h.den)) (h.den.mul k.den) (a9a a b)).mono (by omega)
theorem Bd.mul{n m:Nat}{a b:Rat}(h:Bd n a)(k:Bd m b):Bd (n+m) (a*b):=by
 rw[← mul_eq];exact (Bd.of (h.num.mul k.num) (h.den.mul k.den) (a9a a b)).mono (by omega)
theorem b0l(t b:Int)(hb:0<b):t.fdiv (c6o t b)=(c5r t b).num∧b.fdiv (c6o t b)=((c5r t b).den:Int):=by
 rw[Rat.num_divInt,Rat.den_divInt,if_neg (by omega),Int.sign_eq_one_of_pos hb,d1b,Int.gcd_comm b t];refine⟨c7f _ (Int.natCast_nonneg _),?_⟩;rw[c7f _ (Int.natCast_nonneg _),Int.natCast_ediv,Int.natAbs_of_nonneg (c9n hb)]
theorem c1y(t b:Int)(hb:b<0):t.fdiv (-(c6o t b:Int))=(c5r t b).num∧b.fdiv (-(c6o t b:Int))=((c5r t b).den:Int):=by
 have h:=b0l (-t) (-b) (by omega);rw[Rat.neg_divInt_neg,Int.neg_gcd,Int.gcd_neg] at h;rw[← Int.neg_fdiv_neg,Int.neg_neg,← Int.neg_fdiv_neg b,Int.neg_neg];exact h
theorem b9c(a b:Int):c6o b (a.fmod b)=c6o a b:=by
 rw[Int.fmod_def,Int.sub_eq_add_neg,← Int.mul_neg,Int.gcd_add_mul_left_right,Int.gcd_comm]
theorem fmod_lt(a b:Int)(hb:b≠0):(a.fmod b).natAbs<b.natAbs:=by
 rw[Int.fmod_eq_emod];have h1:=d1c a hb;have h2:=Int.emod_lt a hb;by_cases h:0≤b∨b∣a
 · rw[if_pos h];omega
 · rw[if_neg h];have h3:a % b≠0:=fun z=>h (.inr (Int.dvd_of_emod_eq_zero z));omega
theorem gcd_zero(a:Int):(if a<0 then -a else a)=(c6o a 0:Int):=by
 rw[Int.gcd_zero];split<;>omega
theorem b9d(t b:Int)(hb:b≠0):(c6o t b:Int)≠0:=by
 have:=Int.gcd_pos_of_ne_zero_right t hb;omega
theorem gcd_red(q:Rat):c6o (if q.num<0 then -q.num else q.num) (q.den:Int)=1:=by
 have:=q.reduced;unfold Nat.Coprime at this;have e:(if q.num<0 then -q.num else q.num).natAbs=q.num.natAbs:=by split<;>omega
 show Nat.gcd _ _=1;rw[e];exact this
theorem b1k(a b:Int):c5r a b=(a:Rat) / (b:Rat):=c9e a b
theorem a3q(q:Rat):(q.num:Rat)=q*((q.den:Int):Rat):=by
 have h:=c8x q;rw[c9e] at h;have hd:((q.den:Int):Rat)≠0:=by
   intro z;exact a9i q (by exact_mod_cast z)
 conv=>rhs;rw[← h]
 grind
theorem b7e(q:Rat):((q.den:Int):Rat)≠0:=by
 intro z;exact a9i q (by exact_mod_cast z)
theorem b5p{q:Rat}{t b:Int}(hb:b≠0)(h:q*(b:Rat)=(t:Rat)):q=c5r t b:=by
 rw[c9e];have hb':(b:Rat)≠0:=by
   intro z;exact hb (by exact_mod_cast z)
 grind
end Cv
namespace Cv
open PySem PySem.Spec PyProof.Rows L2
section
variable {X:Cx}
noncomputable def CMulB(i j:Int):Prop:=∃ n m,Sz n i∧Sz m j∧n+m≤100000000
noncomputable def CDivB(_i j:Int):Prop:=j≠0∧Sz 9000 j
theorem a4l:OpR X (binaryOp .FloorDiv) (rI CDivB fun i j=>.int (i.fdiv j)):=opI fun i j _ _ _ _ _ hc q=>by
 obtain⟨h0,h1⟩:=hc;refine floordiv_int h0 q (.inl (PyProof.noPylong_of_log2 ?_));have hp:j.natAbs≠0:=by omega
 exact (Nat.log2_lt hp).mpr h1.lt
theorem a7l{x:V}{us:List Value}(r:Vals [x] us):∃ u,us=[u]∧RelV x u:=by
 cases r with
 | cons p q=>cases q;exact⟨_,rfl,p⟩
theorem a9w{x y:V}{us:List Value}(r:Vals [x,y] us):∃ u v,us=[u,v]∧RelV x u∧RelV y v:=by
 cases r with
 | cons p q=>
   obtain⟨v,rfl,p'⟩:=a7l q;exact⟨_,_,rfl,p,p'⟩
theorem call_isi:a6x X (.builtin "isinstance") (fun xs H Q=>∃ x T t b,xs=[x,.ty T]∧TyOf X.K H x t∧c8q X.K t (.type T)=some b∧Q (.bl b) H):=by
 intro pins s σ H xs us Q I r h;obtain⟨x,T,t,b,rfl,ty,e,q⟩:=h;obtain⟨u,v,rfl,ru,rv⟩:=a9w r;cases rv;exact c3u I ru ty e fun tk=>⟨.bl b,H,I.tok tk,rfl,q⟩
mutual
noncomputable def Dn(K:c5k)(H:Hp):d0o→V→Prop
 | .none,v=>v=.non
 | .bool b,v=>v=.bl b
 | .int i,v=>v=.int i
 | .str x,v=>v=.str x
 | .bytes _,_=>False
 | .tuple ds,v=>∃ a xs,v=.ref a∧SqT K H a xs∧a9s K H ds xs
 | .list ds,v=>∃ a xs,v=.ref a∧SqL K H a xs∧a9s K H ds xs
noncomputable def a9s(K:c5k)(H:Hp):List d0o→List V→Prop
 | [],xs=>xs=[]
 | d::ds,xs=>∃ y ys,xs=y::ys∧Dn K H d y∧a9s K H ds ys
end
mutual
theorem b3x{pins:List (Addr×Obj)}{σ:L2.St}{H:Hp}{s:Shared}(I:Inv X pins σ H s):∀ (n:Nat) (d:d0o) (v:V) (u:Value),Dn X.K H d v→RelV v u→c7m n d=true→∃ as,Reads s.heap u (d0c d) as
 | n,.none,v,u,h,r,_=>by
   cases (show v=.non from by simpa [Dn] using h);cases r;rw[d0c];exact⟨_,Reads.none⟩
 | n,.bool b,v,u,h,r,_=>by
   cases (show v=.bl b from by simpa [Dn] using h);cases r;rw[d0c];exact⟨_,Reads.bool b⟩
 | n,.int i,v,u,h,r,_=>by
   cases (show v=.int i from by simpa [Dn] using h);obtain⟨t,rfl⟩:=r;rw[d0c];exact⟨_,Reads.int i t⟩
 | n,.str x,v,u,h,r,_=>by
   cases (show v=.str x from by simpa [Dn] using h);obtain⟨t,rfl⟩:=r;rw[d0c];exact⟨_,Reads.str x t⟩
 | n,.bytes b,v,u,h,r,_=>by simp[Dn] at h
 | 0,.tuple ds,v,u,h,r,hk=>by simp[c7m] at hk
 | 0,.list ds,v,u,h,r,hk=>by simp[c7m] at hk
 | n+1,.tuple ds,v,u,h,r,hk=>by
   rw[Dn] at h;obtain⟨a,xs,rfl,hs,hd⟩:=h;cases r;obtain⟨its,rv,⟨o,ho,hc,m,hdt⟩,hz⟩:=I.tuple hs;obtain⟨as,q⟩:=a7k I n ds xs its hd rv (by simpa [c7m] using hk);rw[d0c];exact⟨as,reads_tuple_at ho hc hdt (by simpa using q)⟩
 | n+1,.list ds,v,u,h,r,hk=>by
   rw[Dn] at h;obtain⟨a,xs,rfl,hs,hd⟩:=h;cases r;obtain⟨its,rv,pl,hz⟩:=I.list hs;obtain⟨o,ho,hc,m,hdt⟩:=pl.isList;obtain⟨as,q⟩:=a7k I n ds xs its hd rv (by simpa [c7m] using hk);rw[d0c];exact⟨_,reads_list_at ho hc hdt (by simpa using q)⟩
theorem a7k{pins:List (Addr×Obj)}{σ:L2.St}{H:Hp}{s:Shared}(I:Inv X pins σ H s):∀ (n:Nat) (ds:List d0o) (xs:List V) (us:List Value),a9s X.K H ds xs→Vals xs us→(∀ d∈ds,c7m n d=true)→∃ as,ReadsAll s.heap us (PySem.W.kqdPs ds) as
 | n,[],xs,us,h,r,_=>by
   cases (show xs=[] from by simpa [a9s] using h);cases r;rw[PySem.W.kqdPs];exact⟨_,ReadsAll.nil⟩
 | n,d::ds,xs,us,h,r,hk=>by
   rw[a9s] at h;obtain⟨y,ys,rfl,h1,h2⟩:=h;cases r with
   | cons p q=>
     obtain⟨as,r1⟩:=b3x I n d y _ h1 p (hk d (.head _));obtain⟨bs,r2⟩:=a7k I n ds ys _ h2 q fun e he=>hk e (.tail _ he);rw[PySem.W.kqdPs];exact⟨_,ReadsAll.cons r1 r2⟩
end
theorem b4t{d:d0o}(h:c7m 8 d=true):SeqAt.shaped (d0c d)=true:=by
 have la:=PySem.W.kqd_lay 8 d h;unfold SeqAt.shaped;rw[la.1,Bool.true_and];exact decide_eq_true (c7w la.2 (by decide))
noncomputable def rEqD(K:c5k):R2:=fun x y H Q=>∃ d e,Dn K H d x∧Dn K H e y∧c7m 8 d=true∧c7m 8 e=true∧∀ b:Bool,(b=true↔d=e)→Q (.bl b) H
theorem op_eqD(hu:X.A.units+64<cLine):OpR X (compareOp .Eq) (rEqD X.K):=by
 intro pins s σ H x y v u Q I rx ry h;obtain⟨d,e,hd,he,k1,k2,q⟩:=h;obtain⟨as,r1⟩:=b3x I 8 d x v hd rx k1;obtain⟨bs,r2⟩:=b3x I 8 e y u he ry k2;exact eq_dataH r1 r2 (b4t k1) (b4t k2) hu ⟨.bl _,H,I,rfl,q _ (PySem.W.kqd_eqv 8 d e 8 k1 k2)⟩
end
noncomputable def ShV(H:Hp)(v:V)(q:Rat):Prop:=∃ a,v=.ref a∧H a=some (.tup [.int q.num,.int (q.den:Int)])
theorem ShV.same{H H':Hp}{v:V}{q:Rat}(h:ShV H v q)(e:Same H H'):ShV H' v q:=by
 obtain⟨a,rfl,h⟩:=h;exact⟨a,rfl,e _ _ h⟩
noncomputable def b7f(q:Rat):d0o:=.tuple [.int q.num,.int (q.den:Int)]
theorem b3y(q:Rat)(n:Nat):c7m (n+1) (b7f q)=true:=by
 cases n<;>simp[b7f,c7m]
theorem ShV.dn{K:c5k}{H:Hp}{v:V}{q:Rat}(h:ShV H v q):Dn K H (b7f q) v:=by
 obtain⟨a,rfl,h⟩:=h;unfold b7f;simp only[Dn,a9s];exact⟨a,_,rfl,SqT.of h,_,_,rfl,rfl,_,_,rfl,rfl,rfl⟩
theorem Same.new{H:Hp}{p:Addr}{o:HO}(h:H p=none):Same H (upd H p o):=fun b u e=>by
 rw[a0m (a0t e h)];exact e
theorem SqT.same{K:c5k}{H H':Hp}{a:Addr}{xs:List V}(e:Same H H')(h:SqT K H a xs):SqT K H' a xs:=by
 rcases h with (h | ⟨o,h⟩) | h
 · exact .inl (.inl (e _ _ h))
 · exact .inl (.inr ⟨o,e _ _ h⟩)
 · exact .inr h
end Cv
namespace Cv
open PySem PySem.Spec PyProof.Rows L2
structure a0q(K:c5k)(mg:Str→Option Value)(x:Str)(st:Stmt)(ps:List Str):Prop where
 ex:∃ (f:Addr) (fd:FuncData),Fun K x x st f fd∧mg x=some (.ref f)∧a9t K fd ps []
structure a1b(P:Program)(w:World)(K:c5k)(mg:Str→Option Value)(base:Heap)(CX:CXT)(k:Nat)(x:Str)(ps:List Str)(sp:Sp):Prop where
 ex:∃ (f:Addr) (fd:FuncData),FnOk P w K mg base CX k f fd ps sp∧mg x=some (.ref f)∧c5w K (.ref f)=true∧a9t K fd ps []∧
   ∃ (oc:Value) (od:Option Addr) (osl:Array (Option Value)),K.lookup f=some ⟨oc,od,.func fd,osl⟩
structure Blt(mg:Str→Option Value):Prop where
 len:mg "len" = none
 abs:mg "abs" = none
 range:mg "range" = none
 max:mg "max" = none
 min:mg "min" = none
 any:mg "any" = none
 all:mg "all" = none
 sum:mg "sum" = none
 isinstance:mg "isinstance" = none
 int:mg "int" = none
 bool:mg "bool" = none
 tuple:mg "tuple" = none
 list:mg "list" = none
 str:mg "str" = none
 ValueError:mg "ValueError" = none
 zip:mg "zip" = none
 reversed:mg "reversed" = none
 enumerate:mg "enumerate" = none
 sorted:mg "sorted" = none
 dict:mg "dict" = none
section
variable {P:Program} {w:World} {K:c5k} {mg:Str→Option Value} {base:Heap}
theorem a0q.mk'{x:Str}{st:Stmt}{ps:List Str}{f:Addr}{oc:Value}{od an:Option Addr}{osl:Array (Option Value)}{kV doc pm cdv ct:Value}(hm:mg x=some (.ref f))(l:K.lookup f=some ⟨oc,od,.func (c5z x x (a1a st) (a0x st) (a0f st) .none kV doc pm an cdv ct),osl⟩)(c:c5x K cdv x=true)(k:c5w K (.ref f)=true)(h:∀ (kV doc pm:Value) (an:Option Addr) (cdv ct:Value) (us:List Value),us.length=ps.length→bindArgs (c5z x x (a1a st) (a0x st) (a0f st) .none kV doc pm an cdv ct) ⟨us,[]⟩=pure (ps.zip us)):a0q K mg x st ps:=by
 have F:=fun_mk (st:=st) l c k;exact⟨_,_,F,hm,F.binds h⟩
theorem def_ok{x:Str}{st:Stmt}{N ps:List Str}{k:Nat}{sp:Sp}(F:a0q K mg x st ps)(S:a1d N ps (a0f st))(len:∀ vs H Q E,sp vs H Q E→vs.length=ps.length)(hbody:∀ (f:Addr) (cdv:Value) (A:Around) (outer:List Env) (s:Shared) (H:Hp) (vs:List V) (Q:VK) (E:XK),Room k (A.deeper (envOfC x (a0f st) s.heap.objs.size f cdv))→sp vs H Q E→
     ∃ t,PSs (cxOf CX0 P w K mg base N x (a0f st) f cdv A outer s H E).nox (a0x st) t∧t { nx:=fun _ H'=>Q .non H',rt:=Q } (b0i N vs) H):a1b P w K mg base CX0 (k+1) x ps sp:=by
 obtain⟨f,fd,F,hm,hb⟩:=F.ex;exact⟨f,fd,F.ok S len fun cdv A outer s H vs Q E hr h=>hbody f cdv A outer s H vs Q E hr h,hm,F.kp,hb,let ⟨oc,od,_,_,_,_,_,_,osl,_,l,_⟩:=F.ex;⟨oc,od,osl,l⟩⟩
end
section
variable {X:Cx} {CX:CXT} {k j:Nat} {ps:List Str} {sp:Sp} {E:XK} {x:Str} {p pos:Pos} {e:Expr} {es:List Expr} {t:TA}
noncomputable def tFn(sp:Sp)(E:XK)(t:TA):TE:=fun σ H Q=>t σ H fun vs H1=>sp vs H1 Q E
theorem pe_fn(D:a1b X.prog X.w X.K X.mg X.base CX k x ps sp)(hr:Room j X.A)(hx:a6c CX X E)(ha:PA X (e::es) t)(hk:k≤j:=by decide)(hg:Gl X x:=by rfl)(hdb:(x == ("__debug__" : Str))=false:=by decide)(he:starEach (e::es) X.env=(false,eval e X.env)::starEach es X.env:=by rfl)(hpl:(backTo pos (starEach es X.env)).any (·.1)=false:=by rfl) :
   PE X (.Call (.Name x p) (e::es) [] pos) (tFn sp E t):=by
 obtain⟨f,fd,F,hm,kp,hb,_⟩:=D.ex;intro pins s σ H Q I h;have q:=pe_call (X:=X) (p:=p) (pos:=pos) F (hr.mono hk) hg hm kp hb .nil hx ha hdb he hpl;refine q pins s σ H Q I ?_;unfold tCall;have e:(fun (vs:List V) (H1:Hp)=>sp (vs++[]) H1 Q E)=fun vs H1=>sp vs H1 Q E:=by
   funext vs H1;rw[c8z]
 rw[e];exact h
end
section
variable {X:Cx}
noncomputable def c5i(i j:Int):Prop:=CMul i j∨CMulB i j
theorem a0u:OpR X (binaryOp .Mult) (rI c5i fun i j=>.int (i*j)):=opI fun i j _ _ _ _ _ hc q=>by
 rcases hc with hc | ⟨n,m,h1,h2,h3⟩
 · exact mul_int q hc.ok
 · exact mul_int q (IntMulOk.of_le (PySem.intBits_le_iff.mpr h1.lt) (PySem.intBits_le_iff.mpr h2.lt) (by omega))
end
theorem mulL{i j:Int}(h1:-(2^64)<i)(h2:i<2^64):c5i i j:=.inl (.inl ⟨h1,h2⟩)
theorem mulR{i j:Int}(h1:-(2^64)<j)(h2:j<2^64):c5i i j:=.inl (.inr ⟨h1,h2⟩)
theorem mulB{n m:Nat}{i j:Int}(h1:Sz n i)(h2:Sz m j)(h:n+m≤100000000:=by decide):c5i i j:=.inr ⟨n,m,h1,h2,h⟩
noncomputable def spGcd:Sp:=fun vs H Q _=>∃ a b:Int,vs=[.int a,.int b]∧Q (.int (c6o a b)) H
noncomputable def b6n:Sp:=fun vs H Q _=>∃ t b:Int,vs=[.int t,.int b]∧b≠0∧Sz 9000 b∧∀ v H',Same H H'→ShV H' v (c5r t b)→Q v H'
noncomputable def c1r(K:c5k):Sp:=fun vs H Q _=>∃ (a:Addr) (ns:List Int) (k:Int),vs=[.ref a,.int k]∧SqL K H a (ns.map V.int)∧0≤k∧∀ z,Q (.int z) H
noncomputable def b7w:Sp:=fun vs H Q _=>∃ c p:Int,vs=[.int c,.int p]∧∀ (l:Addr) (xs:List Int) (H':Hp),Same H H'→H' l=some (.lst (xs.map V.int))→xs.length=24→(∀ x∈xs,0≤x)→Q (.ref l) H'
noncomputable def c1k:Sp:=fun vs H Q _=>∃ i:Int,vs=[.int i]∧Q (.bl true) H
noncomputable def b7x:Sp:=fun vs H Q _=>∃ a b:Int,vs=[.int a,.int b]∧0≤a∧0≤b∧Q (.int (c6o a b)) H
noncomputable def a9y:Sp:=fun vs H Q _=>∃ t b:Int,vs=[.int t,.int b]∧0<b∧Sz 9000 b∧∀ v H',Same H H'→ShV H' v (c5r t b)→Q v H'
noncomputable def b0k:Sp:=fun vs H Q _=>∃ x q,vs=[x]∧ShV H x q∧Q (.bl true) H
noncomputable def spLaw(K:c5k):Sp:=fun vs H Q _=>∃ (a:Addr) (ns:List Int),vs=[.ref a]∧SqL K H a (ns.map V.int)∧ns.length≤63∧∀ H',Q (.bl true) H'
theorem a6k{c:Prop}[Decidable c]{A B:Prop}(h1:c→A)(h2:¬ c→B):if decide c=true then A else B:=by
 by_cases h:c
 · rw[if_pos (decide_eq_true h)];exact h1 h
 · rw[if_neg (by simp[h])];exact h2 h
theorem ifT{b:Bool}{A B:Prop}(h:b=true)(k:A):if b=true then A else B:=by rw[if_pos h];exact k
theorem ifF{b:Bool}{A B:Prop}(h:b=false)(k:B):if b=true then A else B:=by rw[if_neg (by rw[h];decide)];exact k
theorem ifB{b:Bool}{A B:Prop}(h1:b=true→A)(h2:b=false→B):if b=true then A else B:=by
 cases b
 · exact ifF rfl (h2 rfl)
 · exact ifT rfl (h1 rfl)
theorem a1b.law{P:Program}{w:World}{K:c5k}{mg:Str→Option Value}{base:Heap}{CX:CXT}{k:Nat}{x:Str}{ps:List Str}{sp:Sp}{f:Addr}{fd:FuncData}{oc:Value}{od:Option Addr}{osl:Array (Option Value)}(D:a1b P w K mg base CX k x ps sp)(l:K.lookup f=some ⟨oc,od,.func fd,osl⟩)(hm:mg x=some (.ref f)):FnOk P w K mg base CX k f fd ps sp:=by
 obtain⟨f',fd',FO,hm',_,_,oc',od',osl',l'⟩:=D.ex;have e:=hm.symm.trans hm';cases e;have e2:=l.symm.trans l';have e3:Data.func fd=Data.func fd':=congrArg (fun (o:Obj)=>o.data) (c6e.inj e2);cases e3;exact FO
theorem walk{l:PySem.W.OpenLaw}{k:Nat}{CX:CXT}{sp:c5k→Sp}{q:Program}{loose:List Str}{XP:(Str→Option Value)→Heap→Prop}{YP:World→Heap→Prop}{d:DefRec}{K:Params→c5k}{x:Str}(hn:l.most=some 63)(hdf:d.params.defaults=[])(hr:Room k callerA)(hY:∀ (w:World) (h:Heap),YP w h→(K w.params).In h)(F:∀ (w:World) (mg:Str→Option Value) (fa:Addr) (h:Heap),(K w.params).In h→h.Ns mainGlobals mg→mg d.name=some (.ref fa)→
     ∃ fd:FuncData,(∀ (s:Shared) (u:Value),BindsTo s fd ⟨[u],[]⟩ [(x,u)])∧∀ (P:Program) (base:Heap),(K w.params).In base→base.Ns mainGlobals mg→FnOk P w (K w.params) mg base CX k fa fd [x] (sp (K w.params)))(hsp:∀ (K:c5k) (H:Hp) (a:Addr) (ns:List Int),ns.length≤63→Only H→SqL K H a (ns.map V.int)→sp K [.ref a] H (fun v _=>v=.bl true) fun _ _ _=>False)(hCX:∀ (H:Hp) (s:Shared) (e:Value) (s':Shared),CX [] H s (fun _ _ _=>False) e s'→False) :
   PySem.W.WalkO q loose XP YP l.row.toRowW d [] (fun f vs=>PySem.call f vs):=
 L2.walk_of (n:=63) (k:=k) (x:=x) (CX:=fun _=>CX) (sp:=fun w=>sp (K w.params)) hn (by decide) hdf hr hY
   (fun w mg fa h a b c=>let ⟨fd,h1,h2⟩:=F w mg fa h a b c;⟨fd,h1,fun base=>h2 l.prog base⟩) (fun w H a ns=>hsp (K w.params) H a ns) fun _ H s e s'=>hCX H s e s'
theorem pl{j:Int}(h:0<j:=by decide):0<j:=h
theorem at_map(xs:List Int)(k:Nat)(h:k<xs.length):atI (xs.map V.int) (k:Int)=some (V.int (xs.getD k 0)):=by
 refine b7i ?_;rw[c5t,c5j h];simp[c6j,c5j h]
theorem c5b(xs:List Int)(k:Int)(h0:0≤k)(h:k<(xs.length:Int)):atI (xs.map V.int) k=some (V.int (xs.getD k.toNat 0)):=by
 have e:k=((k.toNat:Nat):Int):=by omega
 have q:=at_map xs k.toNat (by omega);rw[← e] at q;exact q
theorem getD_nn{xs:List Int}(h:∀ x∈xs,0≤x)(k:Nat):0≤xs.getD k 0:=by
 rw[c6j];cases e:xs[k]? with
 | none=>simp
 | some v=>exact h v (c5p e)
theorem cut_one(xs:List Int)(h:1≤xs.length):cutV (xs.map V.int) (some 1) none=(xs.drop 1).map V.int:=by
 unfold cutV;have e:HT.sIx (xs.map V.int).length 0 (some 1)=1:=by
   have:=HT.b6t (xs.map V.int).length 0 1;rw[c5l] at this;rw[c5l];exact this.trans (by omega)
 rw[e,HT.b3l,← List.map_drop];refine c6x ?_;rw[c5l,c6n,c5l];omega
theorem b9l{α:Type}(xs:List α)(i:Int)(h0:0≤i)(h1:i<(xs.length:Int)):∃ v,atI xs i=some v∧v∈xs:=by
 have e:i=((i.toNat:Nat):Int):=by omega
 have hl:i.toNat<xs.length:=by omega
 refine⟨xs[i.toNat],?_,c6z hl⟩;have q:=b7i (xs:=xs) (j:=i.toNat) (v:=xs[i.toNat]) (c5j hl);rw[← e] at q;exact q
theorem p30:(10:Int)^(30:Int).toNat=1000000000000000000000000000000:=by decide
theorem pos30:(0:Int)<(10:Int)^(30:Int).toNat:=by rw[p30];decide
theorem sz_of{n:Nat}{x:Int}{b:Nat}(h1:x.natAbs≤b)(h2:b<2^n):Sz n x:=⟨Nat.lt_of_le_of_lt h1 h2⟩
theorem gcd_abs(t b:Int):c6o (if t<0 then -t else t) b=c6o t b:=by
 split
 · rw[Int.neg_gcd]
 · rfl
theorem emod_gcd(a b:Int)(hb:0<b):c6o b (a % b)=c6o a b:=by
 have:=b9c a b;rw[Int.fmod_eq_emod_of_nonneg a (by omega)] at this;exact this
theorem Sz.million{b:Int}(h0:1≤b)(h1:b≤1000000):Sz 20 b:=sz_of (b:=1000000) (by omega) (by decide)
theorem b9g(q:Rat):(1:Int)≤(q.den:Int):=by have:=q.den_pos;omega
theorem c0p{a b:Int}(h:a≠b):(!decide (V.int a=V.int b))=true:=by simp[h]
theorem c3q(K:c5k):c8q K (.type "int") (.type "int")=some true:=rfl
theorem c3r(K:c5k):c8q K (.type "int") (.type "bool")=some false:=rfl
theorem c3p(K:c5k):c8q K (.type "tuple") (.type "tuple")=some true:=rfl
theorem kit_bb(K:c5k):c8q K (.type "bool") (.type "bool")=some true:=rfl
theorem kit_ll(K:c5k):c8q K (.type "list") (.type "list")=some true:=rfl
abbrev mroV:List Value:=[.type "ValueError",.type "Exception",.type "BaseException",.type "object"]
structure XCls(K:c5k)(mg:Str→Option Value)(x:Str)(C:Addr):Prop where
 bound:mg x=some (.ref C)
 obj:∃ nm q N bs bm hdct sn sub ab col dd k0 k1 k2 k3 k5,K.lookup C=some (excClassObj nm q C N bs bm hdct sn sub ab col dd k0 k1 k2 k3 k5 "ValueError.__new__")∧
   PySem.W.nsOkIn K N=true∧c5s K N "__init__" = some none∧PySem.W.tailIn K mroV bm=true
abbrev a0n(X:Cx)(scope:Scope)(cl:List (Str×Addr))(Nc:List Str)(C:Addr)(s0:Shared)(H0:Hp)(fp:List Addr):Cx where
 prog:=X.prog
 w:=X.w
 K:=X.K
 mg:=X.mg
 base:=X.base
 A:=X.A
 N:=Nc
 s₀:=s0
 H₀:=H0
 env:=compEnvC scope cl C X.env
 outer:=X.stack
 stack:=X.stack
 ex:=fp
 fn:=fun _=>false
 calm:=X.calm
 pn:=[]
 xe:=fun _ _=>False
noncomputable def capd(σ:L2.St)(ix:List Nat):L2.St:=ix.map fun j=>(σ[j]?).getD none
theorem a9b{env:Env}:∀ (names:List (Str×NameKind)) (acc:List (Str×Addr)),(∀ y∈names,y.2=.free→∃ c,env.cells.lookup y.1=some c)→
   ∃ cl,(forIn names acc fun (x:Str×NameKind) (r:List (Str×Addr))=>if (x.2 == NameKind.free)=true then (do let c ← cellOf env x.1;pure (ForInStep.yield ((x.1,c)::r))) else pure (ForInStep.yield r):Sem (List (Str×Addr)))=pure cl∧
     ((∀ y c,acc.lookup y=some c→env.cells.lookup y=some c)→∀ y c,cl.lookup y=some c→env.cells.lookup y=some c)∧
     (∀ y,(∃ c,acc.lookup y=some c)→∃ c,cl.lookup y=some c)∧∀ y∈names,y.2=.free→∃ c,cl.lookup y.1=some c
 | [],acc,_=>⟨acc,by simp,fun h=>h,fun _ h=>h,fun _ h=>nomatch h⟩
 | (n,k)::r,acc,h=>by
   rw[List.forIn_cons];by_cases hk:k=.free
   · subst hk;obtain⟨c,hc⟩:=h (n,.free) (.head _) rfl;obtain⟨cl,e,h1,h2,h3⟩:=a9b (env:=env) r ((n,c)::acc) fun y hy=>h y (.tail _ hy);refine⟨cl,?_,fun ha=>h1 fun y d hd=>?_,fun y hy=>h2 y ?_,fun y hy hf=>?_⟩
     · have ec:cellOf env n=pure c:=by
         unfold cellOf;have hc':env.cells.lookup n=some c:=hc;rw[hc']
       simp only[ec];exact e
     · rw[c7v] at hd;by_cases hy:y == n
       · rw[hy] at hd;cases hd;rw[eq_of_beq hy];exact hc
       · rw[Bool.not_eq_true] at hy;rw[hy] at hd;exact ha y d hd
     · rw[c7v];by_cases hyn:y == n
       · rw[hyn];exact⟨_,rfl⟩
       · rw[Bool.not_eq_true] at hyn;rw[hyn];exact hy
     · rcases c6f.mp hy with rfl | hy
       · exact h2 n ⟨c,by rw[c7v];simp⟩
       · exact h3 y hy hf
   · obtain⟨cl,e,h1,h2,h3⟩:=a9b (env:=env) r acc fun y hy=>h y (.tail _ hy);refine⟨cl,?_,h1,h2,fun y hy hf=>?_⟩
     · have hk':(k == NameKind.free)=false:=by
         cases k<;>first | rfl | exact absurd rfl hk
       simp only[hk'];exact e
     · rcases c6f.mp hy with rfl | hy
       · exact absurd hf hk
       · exact h3 y hy hf
theorem c0t{scope:Scope}{env:Env}(h:∀ y∈scope.names,y.2=.free→∃ c,env.cells.lookup y.1=some c) :
   ∃ cl,closureFor scope env=pure cl∧(∀ y c,cl.lookup y=some c→env.cells.lookup y=some c)∧∀ y∈scope.names,y.2=.free→∃ c,cl.lookup y.1=some c:=by
 obtain⟨cl,e,h1,_,h3⟩:=a9b (env:=env) scope.names [] h;refine⟨cl,?_,h1 (fun _ _ z=>nomatch z),h3⟩;unfold closureFor;have:=congrArg (fun (m:Sem (List (Str×Addr)))=>m >>= fun r=>pure r) e;first
   | exact e
   | simpa using e
   | (simp only[bind_pure] at this ⊢;exact this)
theorem a5k{env:Env}:∀ {names:List (Str×NameKind)} {y:Str} {k:NameKind},(∀ z∈names,z.2≠.cell)→
   (names.map fun (n,k)=>if (k == NameKind.free && env.scope.kind == .function && env.kindOf n == some .cell) then (n,NameKind.cell) else (n,k)).lookup y=some k→(k=.cell∨k=.free)→(y,NameKind.free)∈names
 | [],_,_,_,h,_=>by simp at h
 | (n,q)::r,y,k,hc,h,hk=>by
   rw[c8m] at h;by_cases hy:y == n
   · have e:y=n:=eq_of_beq hy;subst e;by_cases ht:(q == NameKind.free && env.scope.kind == .function && env.kindOf y == some .cell)=true
     · have:q=.free:=by
         simp only[c8k] at ht;exact eq_of_beq ht.1.1
       rw[this];exact .head _
     · simp only[ht] at h;rw[c7v] at h;simp at h;subst h;rcases hk with rfl | rfl
       · exact absurd rfl (hc _ (.head _))
       · exact .head _
   · rw[Bool.not_eq_true] at hy;refine .tail _ (a5k (env:=env) (fun z hz=>hc z (.tail _ hz)) ?_ hk);by_cases ht:(q == NameKind.free && env.scope.kind == .function && env.kindOf n == some .cell)=true
     · simp only[ht] at h;rw[c7v] at h;have h':=h
       (simp[hy] at h';simpa using h')
     · simp only[ht] at h;rw[c7v] at h;have h':=h
       (simp[hy] at h';simpa using h')
section
variable {prog:Program} {w:World} {A:Around} {R:Result→Shared→Prop} {s:Shared}
theorem b2h{elt target iter:Expr}{scope:Scope}{pos:Pos}{it acc:Value}{env:Env}(I:Nat→Shared→Prop)(turn:∀ n s,I n s→wpAny (model prog w) A (pyNext it) (fun r s₁=>match r with
     | none=>R (.ok .next) s₁
     | some v=>wpAny (model prog w) A (letOwnedTupleGo target it v) (fun _ s₁'=>wpAny (model prog w) A (assign target env v) (fun _ s₂=>wpAny (model prog w) A (eval elt env) (fun x s₃=>
         wpAny (model prog w) A (call (.builtin "list.append") [acc,x]) (fun _ s₄=>∃ m,m<n∧I m s₄) (notedBy (model prog w) A env fun e s'=>R (.error e) s') s₃)
         (notedBy (model prog w) A env fun e s'=>R (.error e) s') s₂) (notedBy (model prog w) A env fun e s'=>R (.error e) s') s₁') (notedBy (model prog w) A env fun e s'=>R (.error e) s') s₁) (notedBy (model prog w) A env fun e s'=>R (.error e) s') s)(n:Nat)(h:I n s) :
   codeAny (model prog w) A (.compLoop (.ListComp elt [⟨target,iter,[],0⟩] scope pos) 0 it acc env) R s:=by
 refine codeAny_loop rfl I (fun n s hI=>?_) n h;show wpAny _ _ ((compTurn (.ListComp elt [⟨target,iter,[],0⟩] scope pos) 0 it acc env).onRaise (fun x=>do noteFrame x env;theTreesLotGoes x)) _ _ s;refine wpAny_noted ?_;rw[compTurn_list1];refine wpAny_bind (wpAny_standAt (wpAny_bind (wpAny_mono (turn n s hI) (fun r s₁ h₁=>?_) fun _ _ h'=>h')));cases r with
 | none=>exact wpAny_pure h₁
 | some v=>
   refine wpAny_bind (wpAny_mono h₁ (fun _ s₁' h₁'=>?_) fun _ _ h'=>h');exact wpAny_bind (wpAny_mono h₁' (fun _ s₂ h₂=>wpAny_bind (wpAny_bind (wpAny_mono h₂ (fun x s₃ h₃=>wpAny_bind (wpAny_mono h₃
     (fun _ s₄ h₄=>wpAny_pure (wpAny_pure ⟨rfl,h₄⟩)) fun _ _ h'=>h')) fun _ _ h'=>h'))) fun _ _ h'=>h')
end
noncomputable def a4o(k:Nat)(J:It)(H1:Hp)(g:TG)(te:TE)(cs:L2.St)(Q:VK):Prop:=∀ D,H1 D=none→∃ W:Nat→Nat→List V→Hp→Prop,(∃ m,W 0 m [] (upd H1 D (.lst [])))∧
 ∀ i m ys H2,W i m ys H2→(J.stop i H2∧Q (.ref D) H2)∨(J.go i H2∧∀ x H',J.yld i H2 x H'→∀ own:L2.St,own.length=k→g x (own++cs) H' fun σ2 H4=>(∃ own':L2.St,own'.length=k∧σ2=own'++cs)∧
   te σ2 H4 fun v H3=>H3 D=some (.lst ys)∧ys.length<sizeLine∧∃ m',m' < m∧W (i+1) m' (ys++[v]) (upd H3 D (.lst (ys++[v]))))
noncomputable def a7o(k:Nat)(wi:TI)(g:TG)(te:TE)(ix:List Nat):TE:=fun σ H Q=>wi σ H fun J H1=>a4o k J H1 g te (capd σ ix) Q
section
variable {X:Cx}
theorem b4a{tg elt iter:Expr}{ifs:List Expr}{rest:List Comprehension}{os:List Str}{pos ipos:Pos}{scope:Scope}{wi:TI}{G:It→Hp→Addr→Prop}{caps:List (Nat×Str)}{pins:List (Addr×Obj)}{s:Shared}{σ:L2.St}{H:Hp}{Q:VK}{use:Option (Value→Sem Unit)}{R:Value→Shared→Prop}(hi:PI X tg iter wi)(hfree:∀ y∈scope.names,y.2=.free→X.env.kindOf y.1=some .cell)(hcap:∀ p∈caps,X.N[p.1]?=some p.2∧X.env.kindOf p.2=some .cell∧((relabel scope X.env).names.lookup p.2=some .cell∨(relabel scope X.env).names.lookup p.2=some .free))(hkind:scope.kind=.function)(hcell:∀ y∈scope.names,y.2≠.cell)(hnames:∀ y∈scope.names,y.2=.local→scope.names.lookup y.1=some .local)(hc:X.calm=true)(hfs:∀ v,foldedSetIterable iter X.env v=pure v)(hfin:∀ D C H5 s6 m6,Inv X pins σ H5 s6→s6.heap.Ns C m6→FpOk X pins H5 C→Q (.ref D) H5→compPost (model X.prog X.w) X.A X.xe use R (.ref D) C (.ok .next) s6)(I:Inv X pins σ H s)(h:wi σ H fun J H1=>∀ D,H1 D=none→G J H1 D)(hloop:∀ cl C s3 fp it tn J H1 D s4,G J H1 D→Turn X.prog X.w X.K tg J fp it tn→Inv (a0n X scope cl (os++caps.map (·.2)) C s3 (upd H1 D (.lst [])) fp) [] (c5q os.length none++capd σ (caps.map (·.1))) (upd H1 D (.lst [])) s4→tn 0 s4.heap→(∀ b∈fp,(upd H1 D (.lst [])) b=none)→
     (∀ H',(∀ b∈fp,H' b=none)→∀ b∈fp,FpOk (a0n X scope cl (os++caps.map (·.2)) C s3 (upd H1 D (.lst [])) fp) [] H' b)→(∀ σ' H5 s6,Inv (a0n X scope cl (os++caps.map (·.2)) C s3 (upd H1 D (.lst [])) fp) [] σ' H5 s6→Q (.ref D) H5→compPost (model X.prog X.w) X.A X.xe use R (.ref D) C (.ok .next) s6)→
     codeAny (model X.prog X.w) X.A (.compLoop (.ListComp elt (⟨tg,iter,ifs,0⟩ :: rest) scope pos) 0 (.ref it) (.ref D) (compEnvC scope cl C X.env)) (compPost (model X.prog X.w) X.A X.xe use R (.ref D) C) s4) :
   wpAny (model X.prog X.w) X.A (comprehension (.ListComp elt (⟨tg,iter,ifs,0⟩ :: rest) scope pos) scope X.env ipos (newList []) false (eval iter X.env) use) R X.xe s:=by
 obtain⟨cl,hclos,hcl,hin⟩:=c0t (scope:=scope) (env:=X.env) fun y hy hf=>I.ok.has y.1 (.inl (hfree y hy hf));have hhas:∀ y,((relabel scope X.env).names.lookup y=some .cell∨(relabel scope X.env).names.lookup y=some .free)→∃ c,cl.lookup y=some c:=fun y hy=>by
   rcases hy with hy | hy
   · exact hin (y,.free) (a5k (env:=X.env) hcell hy (.inl rfl)) rfl
   · exact hin (y,.free) (a5k (env:=X.env) hcell hy (.inr rfl)) rfl
 refine wpAny_comprehension_free (use:=use) rfl hfs hclos hkind hnames ?_;refine thn (hi pins s σ H _ I h) fun v s1 h1=>thn h1 fun itv s2 h2=>?_;obtain⟨it,fp,tn,J,H1,rfl,I2,T,st2,f2,rd⟩:=h2;refine wpAny_newObj_type ?_ (by show 0≤sizeLine;decide);have hD:H1 s2.heap.objs.size=none:=I2.hok.fresh (c5v _);have hG:=rd s2.heap.objs.size hD;generalize eD:s2.heap.objs.size=D at hD hG;have I3:Inv X pins σ (upd H1 D (.lst [])) { s2 with heap:=s2.heap.push { cls:=.type "list",data:=.seq ([]:List Value).toArray } }:=by
   subst eD;exact I2.laid (t':=s2.toks) (fun b u e=>Heap.get?_push_of_some _ e) (c5v _) ⟨c7c _,[],0,.nil,Heap.get?_push_size _ rfl⟩
 generalize e3:({ s2 with heap:=s2.heap.push { cls:=.type "list",data:=.seq ([]:List Value).toArray } }:Shared)=s3 at I3;have hs3:s3.heap.objs.size=D+1:=by rw[← e3,← eD];simp
 have k23:∀ b o,s2.heap.get? b=some o→s3.heap.get? b=some o:=fun b o e=>by rw[← e3];exact Heap.get?_push_of_some _ e
 refine wpAny_newFunctionEnv hcell (by intro y hy;simp at hy) (fun h4 hn4 hs4=>?_) hkind;have k34:∀ b o,s3.heap.get? b=some o→h4.get? b=some o:=fun b o e=>(hs4.2 b (c6l (Heap.lt_size e))).trans (Heap.get?_push_of_some _ e);generalize eC:s3.heap.objs.size=C at hn4 hs4;have hfpC:∀ b∈fp,b≠C:=fun b hb z=>by
   obtain⟨o,e,_⟩:=T.obj 0 _ st2 b hb;have h1:=Heap.lt_size e;rw[z,← eC,hs3,eD] at h1;exact absurd h1 (Nat.not_lt.mpr (Nat.le_succ D))
 have hfps:∀ b∈fp,b∉frs X.stack:=fun b hb z=>by
   rcases c6f.mp (I2.stkSub b z) with q | q
   · exact (f2 b hb).2.1 q
   · exact (f2 b hb).2.2.1 q
 have hfpD:∀ b∈fp,b≠D:=fun b hb z=>by
   obtain⟨o,e,_⟩:=T.obj 0 _ st2 b hb;have h1:=Heap.lt_size e;rw[z,eD] at h1;exact d0g _ h1
 have okc:(a0n X scope cl (os++caps.map (·.2)) C s3 (upd H1 D (.lst [])) fp).Ok:=by
   refine⟨I3.ok.mod,hkind,I3.ok.glob,I3.ok.blt,Nat.le_of_eq eC,fun y z c h1 h2=>I3.ok.inj y z c (hcl y c h1) (hcl z c h2),fun y hy=>hhas y hy,fun y c hf=>absurd hf c6s,I3.ok.hd,I3.ok.frames,.inl rfl,
     fun b hb=>⟨hfpC b hb,fun y c e=>(f2 b hb).2.2.2.2.1 y c (hcl y c e)⟩,I3.bs,c7w I3.ok.bsz I3.sz,fun b o e hb=>?_,fun b hb=>hfps b hb,I3.stack,I3.stkFree⟩
   rcases (f2 b hb).2.2.2.1 with z | z
   · exact I3.ok.noex b o e z
   · exact d0g _ (c7b (Heap.lt_size (I3.ok.bs b o e).1) z)
 have capS:(capd σ (caps.map (·.1))).length=caps.length:=by unfold capd;rw[c5l,c5l]
 have Ic:Inv (a0n X scope cl (os++caps.map (·.2)) C s3 (upd H1 D (.lst [])) fp) [] (c5q os.length none++capd σ (caps.map (·.1))) (upd H1 D (.lst [])) { s3 with heap:=h4,toks:=s3.toks+([]:List (Str×Value)).length }:=by
   refine⟨okc,rfl,I3.bare,Un.kept k34,⟨_,hn4,fun i y v e1 e2 e3'=>?_⟩,fun y c e=>?_,I3.hok.fresh (Nat.le_of_eq eC),fun y c e=>I3.freeC y c (hcl y c e),fun p hp=>absurd hp (by simp),I3.hok.kept k34,?_⟩
   · by_cases hik:i<os.length
     · rw[c5y (by rw[c7i];exact hik),List.getElem?_replicate] at e2;split at e2<;>cases e2
     · have e1':(caps.map (·.2))[i - os.length]?=some y:=by
         have z:(os++caps.map (·.2))[i]?=some y:=e1;rw[c6d (by omega)] at z;exact z
       have e2':(capd σ (caps.map (·.1)))[i - os.length]?=some (some v):=by
         rw[c6d (by rw[c7i];omega),c7i] at e2;exact e2
       generalize i - os.length=i at e1' e2';rw[c5t] at e1';unfold capd at e2';rw[c5t,c5t] at e2';cases q:caps[i]? with
       | none=>rw[q] at e1';cases e1'
       | some p=>
         rw[q] at e1' e2';have ey:p.2=y:=c6e.inj e1';have ev:(σ[p.1]?).getD none=some v:=c6e.inj e2';have es:σ[p.1]?=some (some v):=by
           cases z:σ[p.1]? with
           | none=>rw[z] at ev;cases ev
           | some w'=>rw[z] at ev;exact congrArg some ev
         obtain⟨hN,hk,hv⟩:=hcap p (c5p q);obtain⟨m,_,hl⟩:=I3.loc;obtain⟨u,r,lk⟩:=hl p.1 p.2 v hN es (.inr (.inl hk));rw[ey] at hk hv lk;refine⟨u,r,.inr ⟨hv,?_⟩⟩;obtain⟨c,hc'⟩:=hhas y hv;rcases lk with⟨z,_⟩ | ⟨_,c2,z,ic⟩
         · rw[hk] at z;cases z
         · have ec:=(hcl y c hc').symm.trans z;cases ec;obtain⟨o,ho,hd⟩:=ic;exact⟨c,hc',o,k34 _ _ ho,hd⟩
   · obtain⟨v,o,ho,hd⟩:=I3.cell y c (hcl y c e);exact⟨v,o,k34 _ _ ho,hd⟩
   · show (c5q os.length (none:Option V)++capd σ (caps.map fun p=>p.1)).length=(os++caps.map fun p=>p.2).length;rw[c5n,c5n,c7i,capS,c5l]
 have fpc:∀ H',(∀ b∈fp,H' b=none)→∀ b∈fp,FpOk (a0n X scope cl (os++caps.map (·.2)) C s3 (upd H1 D (.lst [])) fp) [] H' b:=fun H' hn b hb=>
   ⟨hn b hb,hfpC b hb,hfps b hb,.inl hb,fun y c e=>(f2 b hb).2.2.2.2.1 y c (hcl y c e),fun p hp=>absurd hp (by simp)⟩
 have st4:tn 0 h4:=T.keep _ _ _ (T.keep _ _ _ st2 fun b _ o e=>k23 b o e) fun b _ o e=>k34 b o e;have fp0:∀ b∈fp,(upd H1 D (.lst [])) b=none:=fun b hb=>by rw[a0m (hfpD b hb)];exact (f2 b hb).1
 have fin:∀ σ' H5 s6,Inv (a0n X scope cl (os++caps.map (·.2)) C s3 (upd H1 D (.lst [])) fp) [] σ' H5 s6→Q (.ref D) H5→compPost (model X.prog X.w) X.A X.xe use R (.ref D) C (.ok .next) s6:=fun σ' H5 s6 I6 qn=>by
   obtain⟨m6,hn6,_⟩:=I6.loc;have hs':Heap.SameBut C s6.heap s6.heap:=⟨rfl,fun _ _=>rfl⟩
   generalize eh':s6.heap=h' at hs';have hs':Heap.SameBut C s6.heap h':=by rw[eh'];exact hs'
   have neC:∀ b o,s3.heap.get? b=some o→b≠C:=fun b o e=>c6l (eC ▸ Heap.lt_size e);have ns:∀ b o,s2.heap.get? b=some o→b≠D:=fun b o e=>c6l (eD ▸ Heap.lt_size e);have B:=I6.base;have uu:Un (frs X.stack) fp H1 H5 s2.heap h':=by
     refine⟨fun b o e nn hb hf=>?_,fun b o e nn hb hf=>?_,fun b o e nn hf=>?_,fun b o e hf=>?_,fun b xs e=>?_,fun b o u' e=>?_,fun b ps e=>?_⟩
     · exact (hs'.2 b (neC b o (k23 b o e))).trans (B.keep b o (k23 b o e) (by show (upd H1 D _) b=none;rw[a0m (ns b o e)];exact nn) hb hf)
     · obtain⟨sl,z⟩:=B.slot b o (k23 b o e) (by show (upd H1 D _) b=none;rw[a0m (ns b o e)];exact nn) hb hf;exact⟨sl,(hs'.2 b (neC b o (k23 b o e))).trans z⟩
     · exact B.free b o (k23 b o e) (by show (upd H1 D _) b=none;rw[a0m (ns b o e)];exact nn) hf
     · obtain⟨o',z⟩:=B.there b o (k23 b o e) hf;exact⟨o',(hs'.2 b (neC b o (k23 b o e))).trans z⟩
     · exact B.tups b xs (by show (upd H1 D _) b=_;rw[a0m (a0t e hD)];exact e)
     · exact B.frzs b o u' (by show (upd H1 D _) b=_;rw[a0m (a0t e hD)];exact e)
     · exact B.tbls b ps (by show (upd H1 D _) b=_;rw[a0m (a0t e hD)];exact e)
   have hok':HOk X.prog X.w H5 h':=fun b o e=>by
     refine (I6.hok b o e).stay (fun c' u' hc' z=>(hs'.2 c' fun zz=>?_).trans z) (fun _ z=>z) fun _ _ z=>z;have fr:H5 C=none:=I6.free;rcases hc' with hc' | hc'
     · rw[← zz,hc',e] at fr;cases fr
     · rw[← zz,hc'] at fr;cases fr
   have ho6:s6.os=s2.os:=I6.os.trans (by show s3.os=s2.os;rw[← e3]);subst eh';have hC2:s2.heap.objs.size≤C:=by rw[← eC,hs3,eD];exact Nat.le_succ D
   exact hfin D C H5 s6 m6 (I2.call' (s':=s6) (ch:=fp) ho6 uu hok' I6.bare (fun b hb=>⟨(f2 b hb).2.2.2.1,(f2 b hb).2.1,(f2 b hb).2.2.2.2.1,(f2 b hb).2.2.2.2.2⟩)) hn6 (I2.fpOk hC2 I6.free) qn
 have loop:=hloop cl C s3 fp it tn J H1 D _ hG T Ic st4 fp0 fpc fin;exact codeAny_compStart_list loop (T.self _ 0 _ _ _ st4 loop)
theorem b5v{tg elt iter:Expr}{os:List Str}{pos ipos:Pos}{scope:Scope}{wi:TI}{g:TG}{te:TE}{caps:List (Nat×Str)}{pins:List (Addr×Obj)}{s:Shared}{σ:L2.St}{H:Hp}{Q:VK}{use:Option (Value→Sem Unit)}{R:Value→Shared→Prop}(hi:PI X tg iter wi)(hg:∀ cl C s0 H0 fp,PG (a0n X scope cl (os++caps.map (·.2)) C s0 H0 fp) tg g)(he:∀ cl C s0 H0 fp,PE (a0n X scope cl (os++caps.map (·.2)) C s0 H0 fp) elt te)(hfree:∀ y∈scope.names,y.2=.free→X.env.kindOf y.1=some .cell)(hcap:∀ p∈caps,X.N[p.1]?=some p.2∧X.env.kindOf p.2=some .cell∧((relabel scope X.env).names.lookup p.2=some .cell∨(relabel scope X.env).names.lookup p.2=some .free))(hkind:scope.kind=.function)(hcell:∀ y∈scope.names,y.2≠.cell)(hnames:∀ y∈scope.names,y.2=.local→scope.names.lookup y.1=some .local)(hc:X.calm=true)(hfs:∀ v,foldedSetIterable iter X.env v=pure v)(hfin:∀ D C H5 s6 m6,Inv X pins σ H5 s6→s6.heap.Ns C m6→FpOk X pins H5 C→Q (.ref D) H5→compPost (model X.prog X.w) X.A X.xe use R (.ref D) C (.ok .next) s6)(I:Inv X pins σ H s)(h:a7o os.length wi g te (caps.map (·.1)) σ H Q) :
   wpAny (model X.prog X.w) X.A (comprehension (.ListComp elt [⟨tg,iter,[],0⟩] scope pos) scope X.env ipos (newList []) false (eval iter X.env) use) R X.xe s:=by
 refine b4a (os:=os) (caps:=caps) hi hfree hcap hkind hcell hnames hc hfs hfin I h (fun cl C s3 fp it tn J H1 D s4 ⟨W,⟨m0,w0⟩,turn⟩ T Ic st4 fp0 fpc fin=>?_);refine b2h (fun n s'=>∃ i ys own H',own.length=os.length∧Inv (a0n X scope cl (os++caps.map (·.2)) C s3 (upd H1 D (.lst [])) fp) [] (own++capd σ (caps.map (·.1))) H' s'∧tn i s'.heap∧(∀ b∈fp,H' b=none)∧W i n ys H') ?_ m0 ⟨0,[],c5q os.length none,_,c7i,Ic,st4,fp0,w0⟩;rintro n s5 ⟨i,ys,own,H5,ho5,I5,st5,fr5,w5⟩;rcases turn i n ys H5 w5 with⟨stop,qn⟩ | ⟨go,step⟩
 · refine thn (T.done (a0n X scope cl (os++caps.map (·.2)) C s3 (upd H1 D (.lst [])) fp) rfl rfl rfl hc i [] s5 _ H5 _ I5 (fpc H5 fr5) st5 stop) fun r s6 ⟨hr,I6⟩=>?_;subst hr;exact fin _ _ _ I6 qn
 · refine thn (T.item (a0n X scope cl (os++caps.map (·.2)) C s3 (upd H1 D (.lst [])) fp) rfl rfl rfl hc i [] s5 _ H5 _ I5 (fpc H5 fr5) st5 go) fun r s6 ⟨u,hr,h6⟩=>?_;subst hr;refine (thn h6 fun _ s7 ⟨y,H7,I7,r7,y7,st7,fr7⟩=>?_);have I7':=I7.pinned (fpc H7 fr7) (T.obj _ _ st7);refine wpAny_mono (hg cl C s3 _ fp _ s7 _ H7 y u _ I7' r7 (step y H7 y7 own ho5)) (fun _ s8 ⟨σ8,H8,I8,⟨own',ho8,e8⟩,q8⟩=>?_) fun _ _ z=>z.elim;subst e8;refine wpAny_mono (he cl C s3 _ fp _ s8 _ H8 _ I8 q8) (fun xv s9 ⟨v9,H9,I9,r9,d9,l9,m9,lt9,w9⟩=>?_) fun _ _ z=>z.elim;refine wpAny_mono (a2l (X:=(a0n X scope cl (os++caps.map (·.2)) C s3 (upd H1 D (.lst [])) fp)) _ s9 _ H9 (.ref D) [v9] (.ref D) [xv] (fun _ H10=>H10=upd H9 D (.lst (ys++[v9]))) I9 rfl (.cons r9 .nil) ⟨D,ys,v9,rfl,rfl,d9,l9,rfl⟩) (fun _ s10 ⟨_,H10,I10,_,e10⟩=>?_) fun _ _ z=>z.elim;subst e10;refine⟨m9,lt9,i+1,ys++[v9],own',_,ho8,I10.unpinned,T.keep _ _ _ st7 fun b hb o e=>(I10.pin (b,o) (c5u _ (c5u _ (a1x hb e)))).1,fun b hb=>?_,w9⟩;obtain⟨o,e,_⟩:=T.obj _ _ st7 b hb;exact (I10.pin (b,o) (c5u _ (c5u _ (a1x hb e)))).2.1
theorem pe_compG{tg elt iter:Expr}{os:List Str}{pos:Pos}{scope:Scope}{wi:TI}{g:TG}{te:TE}{caps:List (Nat×Str)}(hi:PI X tg iter wi)(hg:∀ cl C s0 H0 fp,PG (a0n X scope cl (os++caps.map (·.2)) C s0 H0 fp) tg g)(he:∀ cl C s0 H0 fp,PE (a0n X scope cl (os++caps.map (·.2)) C s0 H0 fp) elt te)(hfree:∀ y∈scope.names,y.2=.free→X.env.kindOf y.1=some .cell)(hcap:∀ p∈caps,X.N[p.1]?=some p.2∧X.env.kindOf p.2=some .cell∧((relabel scope X.env).names.lookup p.2=some .cell∨(relabel scope X.env).names.lookup p.2=some .free))(hkind:scope.kind=.function)(hcell:∀ y∈scope.names,y.2≠.cell)(hnames:∀ y∈scope.names,y.2=.local→scope.names.lookup y.1=some .local)(hc:X.calm=true)(hfs:∀ v,foldedSetIterable iter X.env v=pure v) :
   PE X (.ListComp elt [⟨tg,iter,[],0⟩] scope pos) (a7o os.length wi g te (caps.map (·.1))):=by
 intro pins s σ H Q I h;rw[eval_ListComp];refine b5v (Q:=Q) (use:=none) (R:=EP X pins σ Q) hi hg he hfree hcap hkind hcell hnames hc hfs (fun D C H5 s6 m6 I6 n6 f6 q6=>?_) I h;refine⟨m6,n6,fun h' hs'=>⟨.ref D,H5,?_,rfl,q6⟩⟩;exact I6.turned (t':=s6.toks) (fun b o hb e=>(hs'.2 b hb).trans e) f6.1 f6.2.1 f6.2.2.2.1 f6.2.2.2.2.1 f6.2.2.2.2.2
theorem ps_compG{tg elt iter:Expr}{os:List Str}{i:Nat}{y:Str}{py pos spos:Pos}{scope:Scope}{wi:TI}{g:TG}{te:TE}{caps:List (Nat×Str)}(hN:X.N.Nodup)(hy:X.N[i]?=some y)(hl:X.env.kindOf y=some .local)(hi:PI X tg iter wi)(hg:∀ cl C s0 H0 fp,PG (a0n X scope cl (os++caps.map (·.2)) C s0 H0 fp) tg g)(he:∀ cl C s0 H0 fp,PE (a0n X scope cl (os++caps.map (·.2)) C s0 H0 fp) elt te)(hfree:∀ y∈scope.names,y.2=.free→X.env.kindOf y.1=some .cell)(hcap:∀ p∈caps,X.N[p.1]?=some p.2∧X.env.kindOf p.2=some .cell∧((relabel scope X.env).names.lookup p.2=some .cell∨(relabel scope X.env).names.lookup p.2=some .free))(hkind:scope.kind=.function)(hcell:∀ y∈scope.names,y.2≠.cell)(hnames:∀ y∈scope.names,y.2=.local→scope.names.lookup y.1=some .local)(hc:X.calm=true)(hfs:∀ v,foldedSetIterable iter X.env v=pure v)(hsw:swapsWith (.ListComp elt [⟨tg,iter,[],0⟩] scope pos) (some (.Name y py)) spos.line X.env=pure true) :
   PS X (.Assign [.Name y py] (.ListComp elt [⟨tg,iter,[],0⟩] scope pos) spos) (tAsg (a7o os.length wi g te (caps.map (·.1))) (a3u i)):=by
 intro pins s σ H D I h;rw[exec_Assign_Name_used _ _ _ _ hsw];refine wpAny_bind (wpAny_standAt (wpAny_bind ?_));show wpAny _ X.A (do let _ ← comprehension (.ListComp elt [⟨tg,iter,[],0⟩] scope pos) scope X.env _ (newList []) false (eval iter X.env) (some (assign (.Name y py) X.env))) _ _ s;refine wpAny_bind (wpAny_mono (b5v (Q:=fun x H1=>a3u i x σ H1 D.nx) (use:=some (assign (.Name y py) X.env)) (R:=fun _ s'=>SP X pins D .next s') hi hg he hfree hcap hkind hcell hnames hc hfs (fun D' C H5 s6 m6 I6 n6 f6 q6=>?_) I h) (fun _ s' hq=>wpAny_pure (wpAny_pure hq)) fun _ _ e=>e);show wpAny _ X.A (assign (.Name y py) X.env (.ref D')) _ _ s6;obtain⟨oC,es,ep,hoC,rC⟩:=n6;have dC:∀ v,oC.data≠.cell v:=fun v z=>by
   first
     | (rw[rC.2.1] at z;cases z)
     | (obtain⟨_,hd,_⟩:=rC;rw[hd] at z;cases z)
     | (obtain⟨hd,_⟩:=rC;rw[hd] at z;cases z)
 have Ip:Inv X (pins++[(C,oC)]) σ H5 s6:=I6.pins_of fun p hp=>(c6q.mp hp).elim (fun z=>I6.pin p (c5u _ z)) fun z=>by
   have e:p=(C,oC):=by simpa using z
   subst e;exact⟨hoC,f6.1,f6.2.1,f6.2.2.1,dC⟩
 refine wpAny_assign_Name (a5c Ip hN hy (.inl hl) (v:=.ref D') rfl (fun s7 I7=>?_) (.inr hl));have h7:=(I7.pin (C,oC) (c5u _ (c5u _ (by simp)))).1;refine⟨m6,⟨oC,es,ep,h7,rC⟩,fun h' hs'=>⟨_,H5,?_,q6⟩⟩;have I8:=I7.unpinned;exact I8.turned (t':=s7.toks) (fun b o hb e=>(hs'.2 b hb).trans e) f6.1 f6.2.1 f6.2.2.2.1 f6.2.2.2.2.1 f6.2.2.2.2.2
end
noncomputable def a5i(N:List Str)(sc scope:Scope)(caps:List (Nat×Str)):Bool:=
 decide (scope.kind=.function) && scope.names.all (fun y=>decide (y.2≠.cell) && (!decide (y.2=.free) || decide (sc.names.lookup y.1=some .cell)) && (!decide (y.2=.local) || decide (scope.names.lookup y.1=some .local))) &&
   caps.all fun p=>decide (N[p.1]?=some p.2) && decide (sc.names.lookup p.2=some .cell) && decide (scope.names.lookup p.2=some .free)
theorem a4h{env:Env}:∀ {names:List (Str×NameKind)} {y:Str},names.lookup y=some .free→
   (names.map fun (n,k)=>if (k == NameKind.free && env.scope.kind == .function && env.kindOf n == some .cell) then (n,NameKind.cell) else (n,k)).lookup y=some .cell∨
   (names.map fun (n,k)=>if (k == NameKind.free && env.scope.kind == .function && env.kindOf n == some .cell) then (n,NameKind.cell) else (n,k)).lookup y=some .free
 | [],_,h=>by simp at h
 | (n,q)::r,y,h=>by
   rw[c7v] at h;rw[c8m];by_cases hy:y == n
   · rw[hy] at h;cases h;by_cases ht:(NameKind.free == NameKind.free && env.scope.kind == .function && env.kindOf n == some .cell)=true
     · left;simp only[ht];rw[c7v];simp[eq_of_beq hy]
     · right;simp only[ht];rw[c7v];simp[eq_of_beq hy]
   · rw[Bool.not_eq_true] at hy;rw[hy] at h;have ih:=a4h (env:=env) h;by_cases ht:(q == NameKind.free && env.scope.kind == .function && env.kindOf n == some .cell)=true
     · simp only[ht];rw[c7v];simpa [hy] using ih
     · simp only[ht];rw[c7v];simpa [hy] using ih
section
variable {X:Cx}
theorem b8m{tg elt iter:Expr}{os:List Str}{pos:Pos}{scope:Scope}{wi:TI}{g:TG}{te:TE}{caps:List (Nat×Str)}(N:List Str)(sc:Scope)(hi:PI X tg iter wi)(hg:∀ cl C s0 H0 fp,PG (a0n X scope cl (os++caps.map (·.2)) C s0 H0 fp) tg g)(he:∀ cl C s0 H0 fp,PE (a0n X scope cl (os++caps.map (·.2)) C s0 H0 fp) elt te)(ok:a5i N sc scope caps=true)(hN:X.N=N:=by rfl)(hsc:X.env.scope=sc:=by rfl)(hc:X.calm=true:=by rfl)(hfs:∀ v,foldedSetIterable iter X.env v=pure v:=by intro _;rfl) :
   PE X (.ListComp elt [⟨tg,iter,[],0⟩] scope pos) (a7o os.length wi g te (caps.map (·.1))):=by
 subst hN hsc;unfold a5i at ok;simp only[c8k,List.all_eq_true,decide_eq_true_eq,Bool.or_eq_true,Bool.not_eq_true',decide_eq_false_iff_not] at ok;obtain⟨⟨h1,h2⟩,h3⟩:=ok;refine pe_compG hi hg he (fun y hy hf=>?_) (fun p hp=>?_) h1 (fun y hy=>(h2 y hy).1.1) (fun y hy hl=>?_) hc hfs
 · rcases (h2 y hy).1.2 with z | z
   · exact absurd hf z
   · exact z
 · obtain⟨⟨a,b⟩,c⟩:=h3 p hp;exact⟨a,b,a4h c⟩
 · rcases (h2 y hy).2 with z | z
   · exact absurd hl z
   · exact z
theorem ps_compS{tg elt iter:Expr}{os:List Str}{i:Nat}{y:Str}{py pos spos:Pos}{scope:Scope}{wi:TI}{g:TG}{te:TE}{caps:List (Nat×Str)}(N:List Str)(sc:Scope)(hNd:X.N.Nodup)(hy:X.N[i]?=some y)(hl:X.env.kindOf y=some .local)(hi:PI X tg iter wi)(hg:∀ cl C s0 H0 fp,PG (a0n X scope cl (os++caps.map (·.2)) C s0 H0 fp) tg g)(he:∀ cl C s0 H0 fp,PE (a0n X scope cl (os++caps.map (·.2)) C s0 H0 fp) elt te)(ok:a5i N sc scope caps=true)(hN:X.N=N:=by rfl)(hsc:X.env.scope=sc:=by rfl)(hc:X.calm=true:=by rfl)(hfs:∀ v,foldedSetIterable iter X.env v=pure v:=by intro _;rfl)(hsw:swapsWith (.ListComp elt [⟨tg,iter,[],0⟩] scope pos) (some (.Name y py)) spos.line X.env=pure true:=by rfl) :
   PS X (.Assign [.Name y py] (.ListComp elt [⟨tg,iter,[],0⟩] scope pos) spos) (tAsg (a7o os.length wi g te (caps.map (·.1))) (a3u i)):=by
 subst hN hsc;unfold a5i at ok;simp only[c8k,List.all_eq_true,decide_eq_true_eq,Bool.or_eq_true,Bool.not_eq_true',decide_eq_false_iff_not] at ok;obtain⟨⟨h1,h2⟩,h3⟩:=ok;refine ps_compG hNd hy hl hi hg he (fun y hy hf=>?_) (fun p hp=>?_) h1 (fun y hy=>(h2 y hy).1.1) (fun y hy hl=>?_) hc hfs hsw
 · rcases (h2 y hy).1.2 with z | z
   · exact absurd hf z
   · exact z
 · obtain⟨⟨a,b⟩,c⟩:=h3 p hp;exact⟨a,b,a4h c⟩
 · rcases (h2 y hy).2 with z | z
   · exact absurd hl z
   · exact z
end
noncomputable def Tup(H H':Hp):Prop:=∀ b xs,H b=some (.tup xs)→H' b=some (.tup xs)
theorem _root_.L2.Same.tup{H H':Hp}(h:Same H H'):Tup H H':=fun b xs e=>h b _ e
theorem Tup.trans{H H1 H2:Hp}(a:Tup H H1)(b:Tup H1 H2):Tup H H2:=fun c xs e=>b c xs (a c xs e)
theorem Tup.lst{H:Hp}{D:Addr}{ys:List V}{o:HO}(h:H D=some (.lst ys)):Tup H (upd H D o):=fun b xs e=>by
 rw[a0m (fun z=>by rw[z,h] at e;cases e)];exact e
theorem ShV.tup{H H':Hp}{v:V}{q:Rat}(h:ShV H v q)(e:Tup H H'):ShV H' v q:=by
 obtain⟨a,rfl,h⟩:=h;exact⟨a,rfl,e _ _ h⟩
noncomputable def a9j(J:It)(H1:Hp)(n:Nat)(f:Nat→V):Prop:=∀ H2,Same H1 H2→∀ i,(i<n→J.go i H2∧∀ x H',J.yld i H2 x H'→H'=H2∧x=f i)∧(i=n→J.stop i H2)
noncomputable def a8i(K:c5k)(J:It)(H1:Hp)(n:Nat)(f g:Nat→V):Prop:=∀ H2,Same H1 H2→∀ i,(i<n→J.go i H2∧∀ x H',J.yld i H2 x H'→Same H2 H'∧∃ a,x=.ref a∧SqT K H' a [f i,g i])∧(i=n→J.stop i H2)
theorem a5z(lo:Int)(n:Nat)(H1:Hp):a9j (Itr lo n) H1 n fun i=>.int (lo+i):=fun H2 _ i=>
 ⟨fun hi=>⟨hi,fun x H' y=>⟨y.1,y.2⟩⟩,fun e=>by subst e;exact c5v _⟩
theorem a3c{K:c5k}{a:Addr}{xs:List V}{H1:Hp}(h:SqL K H1 a xs):a9j (Itl K a) H1 xs.length fun i=>(xs[i]?).getD .non:=fun H2 s i=>
 ⟨fun hi=>⟨⟨xs,xs[i],s.seq h,by simp[hi]⟩,fun x H' y=>⟨y.1,by show x=(xs[i]?).getD .non;rw[y.2 xs (s.seq h)];rfl⟩⟩,fun e=>by subst e;exact⟨xs,s.seq h,c5v _⟩⟩
theorem a0o{n:Nat}(h:n≤100000):n<sizeLine:=Nat.lt_of_le_of_lt h (by rw[sizeLine_eq];decide)
section
variable {K:c5k} {J:It} {H1:Hp} {te:TE} {cs:L2.St} {Q:VK} {n:Nat}
theorem b5w{f:Nat→V}(hJ:a9j J H1 n f)(hn:n≤100000)(R:Nat→V→Hp→Prop)(hR:∀ i v H H',Tup H H'→R i v H→R i v H')(he:∀ i H2 (k:VK),i<n→Same H1 H2→(∀ v H3,Same H2 H3→R i v H3→k v H3)→te (some (f i)::cs) H2 k)(hq:∀ D ys H2,H1 D=none→Same H1 H2→H2 D=some (.lst ys)→ys.length=n→(∀ i v,ys[i]?=some v→R i v H2)→Q (.ref D) H2) :
   a4o 1 J H1 (a3u 0) te cs Q:=by
 intro D hD;refine⟨fun i m ys H2=>m=n - i∧i≤n∧ys.length=i∧Same H1 H2∧H2 D=some (.lst ys)∧∀ j v,ys[j]?=some v→R j v H2,⟨n,by simp,c7c _,rfl,Same.new hD,a0d,fun j v e=>by simp at e⟩,?_⟩;rintro i m ys H2 ⟨rfl,hi,hl,s2,d2,r2⟩;by_cases hlt:i<n
 · refine .inr ⟨((hJ H2 s2 i).1 hlt).1,fun x H' y own ho=>?_⟩;obtain⟨rfl,rfl⟩:=((hJ H2 s2 i).1 hlt).2 x H' y;cases own with
   | nil=>cases ho
   | cons o1 r=>
     cases r with
     | cons _ _=>cases ho
     | nil=>
       refine⟨⟨[some (f i)],rfl,rfl⟩,he i _ _ hlt s2 fun v H3 s3 r3=>⟨s3 _ _ d2,a0o (by omega),n - (i+1),by omega,rfl,hlt,by rw[c5n,hl];rfl,fun b o e=>?_,a0d,fun j w e=>?_⟩⟩
       · rw[a0m (a0t e hD)];exact s3 _ _ (s2 _ _ e)
       · have t3:Tup H3 (upd H3 D (.lst (ys++[v]))):=Tup.lst (s3 _ _ d2);by_cases hj:j<ys.length
         · rw[c5y hj] at e;exact hR _ _ _ _ (s3.tup.trans t3) (r2 j w e)
         · rw[c6d (by omega)] at e;have hj0:j - ys.length=0:=by
             cases q:j - ys.length with
             | zero=>rfl
             | succ k=>rw[q] at e;simp at e
           rw[hj0] at e;have e':v=w:=by simpa using e
           have hji:j=i:=by omega
           rw[← e',hji];exact hR _ _ _ _ t3 r3
 · have e:i=n:=by omega
   subst e;exact .inl ⟨(hJ H2 s2 i).2 rfl,hq D ys H2 hD s2 d2 hl r2⟩
theorem comp2{f g:Nat→V}(hJ:a8i K J H1 n f g)(hn:n≤100000)(R:Nat→V→Hp→Prop)(hR:∀ i v H H',Tup H H'→R i v H→R i v H')(he:∀ i H2 (k:VK),i<n→Same H1 H2→(∀ v H3,Same H2 H3→R i v H3→k v H3)→te (some (f i)::some (g i)::cs) H2 k)(hq:∀ D ys H2,H1 D=none→Same H1 H2→H2 D=some (.lst ys)→ys.length=n→(∀ i v,ys[i]?=some v→R i v H2)→Q (.ref D) H2) :
   a4o 2 J H1 (gTup K 2 (a5s (a3u 0) (a5s (a3u 1) gNil))) te cs Q:=by
 intro D hD;refine⟨fun i m ys H2=>m=n - i∧i≤n∧ys.length=i∧Same H1 H2∧H2 D=some (.lst ys)∧∀ j v,ys[j]?=some v→R j v H2,⟨n,by simp,c7c _,rfl,Same.new hD,a0d,fun j v e=>by simp at e⟩,?_⟩;rintro i m ys H2 ⟨rfl,hi,hl,s2,d2,r2⟩;by_cases hlt:i<n
 · refine .inr ⟨((hJ H2 s2 i).1 hlt).1,fun x H' y own ho=>?_⟩;obtain⟨s2',a,rfl,ht⟩:=((hJ H2 s2 i).1 hlt).2 x H' y;cases own with
   | nil=>cases ho
   | cons o1 r=>
     cases r with
     | nil=>cases ho
     | cons o2 r=>
       cases r with
       | cons _ _=>cases ho
       | nil=>
         refine⟨a,_,rfl,ht,rfl,_,_,rfl,_,_,rfl,rfl,⟨[some (f i),some (g i)],rfl,rfl⟩,he i _ _ hlt (s2.trans s2') fun v H3 s3 r3=>⟨s3 _ _ (s2' _ _ d2),a0o (by omega),n - (i+1),by omega,rfl,hlt,by rw[c5n,hl];rfl,fun b o e=>?_,a0d,fun j w e=>?_⟩⟩
         · rw[a0m (a0t e hD)];exact s3 _ _ (s2' _ _ (s2 _ _ e))
         · have t3:Tup H3 (upd H3 D (.lst (ys++[v]))):=Tup.lst (s3 _ _ (s2' _ _ d2));by_cases hj:j<ys.length
           · rw[c5y hj] at e;exact hR _ _ _ _ ((s2'.trans s3).tup.trans t3) (r2 j w e)
           · rw[c6d (by omega)] at e;have hj0:j - ys.length=0:=by
               cases q:j - ys.length with
               | zero=>rfl
               | succ k=>rw[q] at e;simp at e
             rw[hj0] at e;have e':v=w:=by simpa using e
             have hji:j=i:=by omega
             rw[← e',hji];exact hR _ _ _ _ t3 r3
 · have e:i=n:=by omega
   subst e;exact .inl ⟨(hJ H2 s2 i).2 rfl,hq D ys H2 hD s2 d2 hl r2⟩
end
section
variable {X:Cx}
theorem a0v(K:c5k)(h:X.K=K:=by rfl):IxR X (rIxL K):=by subst h;exact ix_list
theorem a0l(K:c5k)(h:X.K=K:=by rfl):IxR X (rIxT K):=by subst h;exact ix_tup
theorem a5d(K:c5k)(h:X.K=K:=by rfl):SlR X (rSlL K):=by subst h;exact sl_list
theorem b6p(K:c5k)(h:X.K=K:=by rfl):SlR X (rSlT K):=by subst h;exact sl_tup
theorem b0v(K:c5k)(hu:X.A.units+64<cLine)(h:X.K=K:=by rfl):OpR X (compareOp .Eq) (rEqD K):=by subst h;exact op_eqD hu
theorem a1p(K:c5k)(h:X.K=K:=by rfl):a6x X (.builtin "len") (fun xs H Q=>∃ p ys,xs=[.ref p]∧(SqL K H p ys∨SqT K H p ys)∧Q (.int ys.length) H):=by subst h;exact b5y
theorem a6m(K:c5k)(h:X.K=K:=by rfl):a6x X (.builtin "isinstance") (fun xs H Q=>∃ x T t b,xs=[x,.ty T]∧TyOf K H x t∧c8q K t (.type T)=some b∧Q (.bl b) H):=by subst h;exact call_isi
theorem a4m(K:c5k)(h:X.K=K:=by rfl):OpR X (binaryOp .Add) (rCatT K):=by subst h;exact op_catT
theorem pg_tupK(K:c5k){es:List Expr}{k:Nat}{t:TGs}{n:Nat}{pos:Pos}(hc:X.calm=true)(h:PGs X es t)(hK:X.K=K:=by rfl)(hn:(assignEach es X.env).length=n:=by rfl)(hst:(assignEach es X.env).findIdx? (·.1)=none:=by rfl):PG X (.Tuple es k pos) (gTup K n t):=by subst hK;exact pg_tup hc h hn hst
noncomputable def tBack(K:c5k)(te:TE)(ts:TO):TE:=fun σ H Q=>te σ H fun x H1=>ts σ H1 fun o H2=>o=some (-1)∧∃ (a:Addr) (xs:List V),x=.ref a∧SqL K H2 a xs∧∀ l,H2 l=none→Q (.ref l) (upd H2 l (.lst xs.reverse))
theorem b6u(K:c5k){e:Expr}{st:Expr}{te:TE}{ts:TO}{p2 pos:Pos}(he:PE X e te)(hs:PO X (some st) ts)(hK:X.K=K:=by rfl):PE X (.Subscript e (.Slice none none (some st) p2) pos) (tBack K te ts):=by
 subst hK;intro pins s σ H Q I h;refine Subscript_ (thn (he pins s σ H _ I h) fun v s1 ⟨x,H1,I1,r1,q1⟩=>?_);refine wpAny_Slice ?_;rw[evalPart_none];refine wpAny_pure ?_;refine wpAny_pure ?_;refine thn (hs pins s1 σ H1 _ I1 q1) fun vs s3 ⟨o,H3,I3,pu,q3⟩=>?_;obtain⟨rfl,a,xs,rfl,hq,q⟩:=q3;cases r1;have I4:Inv X pins σ H3 { s3 with heap:=s3.heap.push { cls:=.type "slice",data:=.fields #[.none,.none,vs] } }:=I3.kept (t':=s3.toks) fun b ob q=>Heap.get?_push_of_some _ q;obtain⟨its,r,ht,hz⟩:=I4.list hq;have hlen:=r.length;have hg:wpAny (model X.prog X.w) X.A (getItem (.ref a) (.ref s3.heap.objs.size)) (EP X pins σ Q) X.xe { s3 with heap:=s3.heap.push { cls:=.type "slice",data:=.fields #[.none,.none,vs] } }:=by
   refine wpAny_getItem_list_slice ht.isList (Heap.IsSliceOf.new ..) .none .none pu (by decide) ?_ (by rw[c6c]<;>omega);rw[PySem.W.krv_pick];refine⟨.ref _,_,I4.laid (t':=s3.toks) (o:=.lst xs.reverse) (fun b ob q=>Heap.get?_push_of_some _ q) (c5v _) ?_,rfl,q _ (I4.hok.fresh (c5v _))⟩;exact⟨by rw[c7k];exact hz,_,0,r.reverse,Heap.get?_push_size _ rfl⟩
 show wpAny (model X.prog X.w) X.A (subscriptTail e (.Slice none none (some st) p2) (.ref a) (.ref s3.heap.objs.size)) (EP X pins σ Q) X.xe { s3 with heap:=s3.heap.push { cls:=.type "slice",data:=.fields #[.none,.none,vs] } };exact tail_any (ops:=[.ref a,.ref s3.heap.objs.size]) ht.isList.typeIs slot_list_getitem.lookup hg (by with_unfolding_all rfl)
end
section
variable {X:Cx} {pins:List (Addr×Obj)} {σ:L2.St} {H:Hp} {s:Shared} {h':Heap}
theorem b4m{t':Nat}{ch:List Addr}{a:Addr}{o:HO}(I:Inv X pins σ H s)(hf:∀ b∈ch,FpOk X pins H b)(k:∀ b o,b∉ch→s.heap.get? b=some o→h'.get? b=some o)(ha:s.heap.objs.size≤a)(new:a5b X.prog X.w (upd H a o) h' a o):Inv X pins σ (upd H a o) { s with heap:=h',toks:=t' }:=by
 have hna:H a=none:=I.hok.fresh ha;have nit:∀ b u,H b=some u→b∉ch:=fun b u e z=>by rw[(hf b z).1] at e;cases e
 have up:∀ b u,H b=some u→upd H a o b=some u:=fun b u e=>by rw[a0m (a0t e hna)];exact e
 refine I.step (g':=s.gens) (d':=s.drawn) (ch:=ch) (fun b hb=>⟨(hf b hb).2.2.2.1,(hf b hb).2.1,(hf b hb).2.2.2.2.1,(hf b hb).2.2.2.2.2⟩) (fun b o _ _ hc e _=>k b o hc e) (fun b o _ _ hc e _=>⟨o.slots,k b o hc e⟩) (fun b o _ e n=>?_)
   (fun b o hc e=>⟨o,k b o hc e⟩) (fun _ _ e=>up _ _ e) (fun _ _ _ e=>up _ _ e) (fun b ps e=>⟨#[],by rw[up _ _ e];simp⟩) (fun m hm=>?_) (fun b u e=>?_) I.bare
 · rw[a0m (fun z=>by rw[z] at e;exact absurd (Heap.lt_size e) (Nat.not_lt.mpr ha))];exact n
 · obtain⟨o,es,ep,ho,r⟩:=hm;exact⟨o,es,ep,k _ o (fun z=>(hf _ z).2.1 rfl) ho,r⟩
 · by_cases hb:b=a
   · subst hb;rw[a0d] at e;cases e;exact new
   · rw[a0m hb] at e;refine (I.hok b u e).stay (fun c v hc q=>k c v ?_ q) (fun _ q=>up _ _ q) fun _ _ q=>up _ _ q;rcases hc with z | z
     · rw[z];exact nit b u e
     · exact nit c _ z
theorem c1d{t':Nat}{ch:List Addr}(I:Inv X pins σ H s)(hf:∀ b∈ch,FpOk X pins H b)(k:∀ b o,b∉ch→s.heap.get? b=some o→h'.get? b=some o):Inv X pins σ H { s with heap:=h',toks:=t' }:=by
 have nit:∀ b u,H b=some u→b∉ch:=fun b u e z=>by rw[(hf b z).1] at e;cases e
 refine I.step (g':=s.gens) (d':=s.drawn) (ch:=ch) (fun b hb=>⟨(hf b hb).2.2.2.1,(hf b hb).2.1,(hf b hb).2.2.2.2.1,(hf b hb).2.2.2.2.2⟩) (fun b o _ _ hc e _=>k b o hc e) (fun b o _ _ hc e _=>⟨o.slots,k b o hc e⟩) (fun _ _ _ _ n=>n)
   (fun b o hc e=>⟨o,k b o hc e⟩) (fun _ _ e=>e) (fun _ _ _ e=>e) (fun b ps e=>⟨#[],by rw[e];simp⟩) (fun m hm=>?_) (fun b u e=>?_) I.bare
 · obtain⟨o,es,ep,ho,r⟩:=hm;exact⟨o,es,ep,k _ o (fun z=>(hf _ z).2.1 rfl) ho,r⟩
 · refine (I.hok b u e).stay (fun c v hc q=>k c v ?_ q) (fun _ q=>q) fun _ _ q=>q;rcases hc with z | z
   · rw[z];exact nit b u e
   · exact nit c _ z
end
noncomputable def Itz(K:c5k)(l1 l2:Addr):It:=
 ⟨fun i H=>∃ xs ys x y,SqL K H l1 xs∧SqL K H l2 ys∧xs[i]?=some x∧ys[i]?=some y,
  fun i H v H'=>∃ T a b,v=.ref T∧H T=none∧H'=upd H T (.tup [a,b])∧(∀ xs,SqL K H l1 xs→xs[i]?=some a)∧∀ ys,SqL K H l2 ys→ys[i]?=some b,
  fun i H=>∃ xs ys,SqL K H l1 xs∧SqL K H l2 ys∧(xs[i]?=none∨ys[i]?=none)⟩
theorem turn_zip{P:Program}{w:World}{K:c5k}{elts:List Expr}{k0:Nat}{pos:Pos}{z TI TO i1 i2 l1 l2:Addr}(D:ZipApart z TI TO i1 i2 l1 l2):Turn P w K (.Tuple elts k0 pos) (Itz K l1 l2) [z,TI,TO,i1,i2] z
   (fun i h=>IsZip h z TI TO .none∧IsPair h TI (.ref i1) (.ref i2)∧(∃ a b,IsPair h TO a b)∧h.IsListIter i1 l1 i∧h.IsListIter i2 l2 i) where
 mem:=by simp
 obj:=fun i h st b hb=>by
   obtain⟨hz,hTI,⟨a,b',hTO⟩,⟨o1,e1,c1,d1⟩,⟨o2,e2,c2,d2⟩⟩:=st;simp only[c6f,c6r,or_false] at hb;rcases hb with rfl | rfl | rfl | rfl | rfl
   · exact⟨_,hz,fun v q=>by have q':Data.fields _=Data.cell v:=q;cases q'⟩
   · exact⟨_,hTI,fun v q=>by have q':Data.seq _ _=Data.cell v:=q;cases q'⟩
   · exact⟨_,hTO,fun v q=>by have q':Data.seq _ _=Data.cell v:=q;cases q'⟩
   · exact⟨_,e1,fun v q=>by rw[d1] at q;cases q⟩
   · exact⟨_,e2,fun v q=>by rw[d2] at q;cases q⟩
 keep:=fun i h h' st k=>by
   obtain⟨hz,hTI,⟨a,b,hTO⟩,h1,h2⟩:=st;exact⟨k z (by simp) _ hz,k TI (by simp) _ hTI,⟨a,b,k TO (by simp) _ hTO⟩,h1.at fun o e=>k i1 (by simp) o e,h2.at fun o e=>k i2 (by simp) o e⟩
 item:=by
   intro X hP hw hK hc i pins s σ H E I hf st hg;subst hP hw hK;obtain⟨xs,ys,x,y,hq1,hq2,hx,hy⟩:=hg;obtain⟨hz,hTI,⟨a,b,hTO⟩,h1,h2⟩:=st;obtain⟨its1,rv1,p1,hz1⟩:=I.list hq1;obtain⟨its2,rv2,p2,hz2⟩:=I.list hq2;obtain⟨u1,hu1,ru1⟩:=rv1.get hx;obtain⟨u2,hu2,ru2⟩:=rv2.get hy;refine wpAny_pyNext_zip_item D hz hTI hTO h1 h2 p1.isList p2.isList (x:=u1) (y:=u2) (by simpa using hu1) (by simpa using hu2) fun h' a1 a2 a3 a4 a5 a6 a7=>?_;refine⟨_,rfl,wpAny_letOwnedTupleGo_zip a1 fun h'' b1 b2=>?_⟩;have hT:H s.heap.objs.size=none:=I.hok.fresh (c5v _);have neT:∀ {c o},s.heap.get? c=some o→c≠s.heap.objs.size:=fun e=>c6l (Heap.lt_size e);have kk:∀ b o,b∉[z,TI,TO,i1,i2]→s.heap.get? b=some o→h''.get? b=some o:=fun b o hb e=>by
     simp only[c6f,c6r,or_false,not_or] at hb;exact b2.extBut b o hb.1 (a7 b o hb.1 hb.2.2.1 hb.2.2.2.1 hb.2.2.2.2 e)
   have tT:h''.get? s.heap.objs.size=some { cls:=.type "tuple",data:=.seq #[u1,u2] }:=b2.extBut _ _ (Ne.symm (neT hz)) a5;have I1:=b4m (t':=s.toks) (a:=s.heap.objs.size) (o:=.tup [x,y]) (h':=h'') I hf kk (c5v _) ⟨by show 2≤sizeLine;decide,[u1,u2],.cons ru1 (.cons ru2 .nil),⟨_,tT,rfl,_,rfl⟩⟩;refine⟨.ref s.heap.objs.size,_,I1,rfl,⟨s.heap.objs.size,x,y,rfl,hT,rfl,fun xs' hx'=>by rw[I.list_inj hx' hq1];exact hx,fun ys' hy'=>by rw[I.list_inj hy' hq2];exact hy⟩,?_,fun c hc=>?_⟩
   · exact⟨b1,b2.extBut _ _ D.TIz (a7 _ _ D.TIz D.TITO D.TIi1 D.TIi2 hTI),⟨_,_,b2.extBut _ _ D.TOz a2⟩,a3.extBut b2.extBut D.i1z,a4.extBut b2.extBut D.i2z⟩
   · have e0:=(hf c hc).1;rw[a0m ?_]
     · exact e0
     · intro q;obtain⟨o1,e1,_⟩:=h1;obtain⟨o2,e2,_⟩:=h2;simp only[c6f,c6r,or_false] at hc;rcases hc with rfl | rfl | rfl | rfl | rfl
       · exact neT hz q
       · exact neT hTI q
       · exact neT hTO q
       · exact neT e1 q
       · exact neT e2 q
 done:=by
   intro X hP hw hK hc i pins s σ H E I hf st hg;subst hP hw hK;obtain⟨xs,ys,hq1,hq2,hend⟩:=hg;obtain⟨hz,hTI,⟨a,b,hTO⟩,h1,h2⟩:=st;obtain⟨its1,rv1,p1,hz1⟩:=I.list hq1;obtain⟨its2,rv2,p2,hz2⟩:=I.list hq2;refine wpAny_pyNext_zip_end (I.ok.hd hc) D hz hTI hTO h1 h2 p1.isList p2.isList (hend.imp (fun e=>by simpa using rv1.none_of e) fun e=>by simpa using rv2.none_of e) fun h' kk=>⟨rfl,c1d (t':=s.toks) I hf fun b o hb e=>?_⟩
   simp only[c6f,c6r,or_false,not_or] at hb;exact kk b o hb.1 hb.2.2.1 hb.2.2.2.1 hb.2.2.2.2 e
 self:=fun _ _ _ _ _ st h=>wpAny_pyIter_zip st.1 h
section
variable {X:Cx}
noncomputable def iZip(K:c5k)(ta:TA):TI:=fun σ H R=>ta σ H fun vs H1=>∃ l1 l2,vs=[.ref l1,.ref l2]∧(∃ xs,SqL K H1 l1 xs)∧(∃ ys,SqL K H1 l2 ys)∧R (Itz K l1 l2) H1
theorem pi_zip{a b:Expr}{ta:TA}{p pos ppos:Pos}{elts:List Expr}{k0:Nat}(hg:Gl X "zip")(hm:X.mg "zip" = none)(ha:PA X [a,b] ta)(he:starEach [a,b] X.env=(false,eval a X.env)::starEach [b] X.env:=by rfl)(hpl:(backTo pos (starEach [b] X.env)).any (·.1)=false:=by rfl):PI X (.Tuple elts k0 ppos) (.Call (.Name "zip" p) [a,b] [] pos) (iZip X.K ta):=by
 intro pins s σ H R I h;refine wpAny_Call_Name_kw (a9g I hg hm boot_zip ?_ (by decide) (by decide));refine c8b (thn (ha pos pins s σ H _ I h) fun us s1 ⟨vs,H1,I1,r1,q1⟩=>?_) he hpl;obtain⟨l1,l2,rfl,⟨xs,hq1⟩,⟨ys,hq2⟩,q⟩:=q1;obtain⟨u1,u2,rfl,e1,e2⟩:=a9w r1;cases e1;cases e2;obtain⟨its1,rv1,p1,hz1⟩:=I1.list hq1;obtain⟨its2,rv2,p2,hz2⟩:=I1.list hq2;have a1:l1<s1.heap.objs.size:=by obtain⟨_,e,_⟩:=p1.isList;exact Heap.lt_size e
 have a2:l2<s1.heap.objs.size:=by obtain⟨_,e,_⟩:=p2.isList;exact Heap.lt_size e
 refine call_zip_2 p1.isList p2.isList fun h' hz hTI hTO hi1 hi2 _ hk=>?_;refine wpAny_pyIter_zip hz ?_;refine⟨_,[s1.heap.objs.size+4,s1.heap.objs.size+2,s1.heap.objs.size+3,s1.heap.objs.size,s1.heap.objs.size+1],_,_,H1,rfl,I1.kept (t':=s1.toks) hk,turn_zip (zipApart_new a1 a2),⟨hz,hTI,⟨_,_,hTO⟩,hi1,hi2⟩,fun c hc=>?_,q⟩;have hge:s1.heap.objs.size≤c:=by
   simp only[c6f,c6r,or_false] at hc;rcases hc with rfl | rfl | rfl | rfl | rfl<;>omega
 exact I1.fpOk hge (I1.hok.fresh hge)
theorem a7v{K:c5k}{l1 l2:Addr}{xs ys:List V}{H1:Hp}(h1:SqL K H1 l1 xs)(h2:SqL K H1 l2 ys):a8i K (Itz K l1 l2) H1 (min xs.length ys.length) (fun i=>(xs[i]?).getD .non) (fun i=>(ys[i]?).getD .non):=fun H2 s i=>by
 refine⟨fun hi=>⟨⟨xs,ys,xs[i]'(by omega (config:={})),ys[i]'(by omega (config:={})),s.seq h1,s.seq h2,by simp[show i<xs.length by omega],by simp[show i<ys.length by omega]⟩,fun x H' y=>?_⟩,fun e=>⟨xs,ys,s.seq h1,s.seq h2,?_⟩⟩
 · obtain⟨T,a,b,rfl,hT,rfl,e1,e2⟩:=y;refine⟨Same.new hT,T,rfl,?_⟩;show SqT K _ T [(xs[i]?).getD .non,(ys[i]?).getD .non];rw[e1 xs (s.seq h1),e2 ys (s.seq h2)];exact SqT.of a0d
 · rcases Nat.le_total xs.length ys.length with h | h
   · exact .inl (c6m (by omega))
   · exact .inr (c6m (by omega))
end
section
set_option autoImplicit true
@[irreducible] def PEi(X:Cx)(e:Expr)(t:TE):Prop:=PE X e t
@[irreducible] def PAi(X:Cx)(e:List Expr)(t:TA):Prop:=PA X e t
@[irreducible] def PTi(X:Cx)(e:Expr)(t:TT):Prop:=PT X e t
@[irreducible] def PWi(X:Cx)(e:Expr)(t:TT):Prop:=PW X e t
@[irreducible] def PSi(X:Cx)(e:Stmt)(t:TS):Prop:=PS X e t
@[irreducible] def PSsi(X:Cx)(e:List Stmt)(t:TS):Prop:=PSs X e t
@[irreducible] def PGi(X:Cx)(e:Expr)(t:TG):Prop:=PG X e t
@[irreducible] def PGsi(X:Cx)(e:List Expr)(t:TGs):Prop:=PGs X e t
@[irreducible] def PIi(X:Cx)(tg e:Expr)(t:TI):Prop:=PI X tg e t
@[irreducible] def POi(X:Cx)(e:Option Expr)(t:TO):Prop:=PO X e t
theorem pvI(i:Nat){x:Str}{pos:Pos}(hN:X.N[i]?=some x:=by rfl)(hv:Vis X.env.scope x:=by first | exact Or.inl rfl | exact Or.inr (Or.inl rfl) | exact Or.inr (Or.inr rfl))(hd:(x == ("__debug__" : Str))=false:=by decide)(hcd:(x == ("__classdict__" : Str))=false:=by decide):PEi X (.Name x pos) (tVar i):=by with_unfolding_all exact pv (i:=i) (hN:=hN) (hv:=hv) (hd:=hd) (hcd:=hcd)
theorem a0b{i j pos}:PEi X (.Constant (.int i) j pos) (tC (.int i)):=by with_unfolding_all exact pe_int
theorem a7z{b j pos}:PEi X (.Constant (.bool b) j pos) (tC (.bl b)):=by with_unfolding_all exact pe_bl
theorem a7h{j pos}:PEi X (.Constant .none j pos) (tC .non):=by with_unfolding_all exact pe_non
theorem a4z{x j pos}:PEi X (.Constant (.str x) j pos) (tC (.str x)):=by with_unfolding_all exact pe_str
theorem b8l{x:Str}{v:V}{u:Value}{pos:Pos}(hg:Gl X x)(hm:X.mg x=some u)(r:RelV v u)(hd:(x == ("__debug__" : Str))=false:=by decide):PEi X (.Name x pos) (tC v):=by with_unfolding_all exact pe_glob (hg:=hg) (hm:=hm) (r:=r) (hd:=hd)
theorem a7y{x:Str}{v:V}{u:Value}{pos:Pos}(hg:Gl X x)(hm:X.mg x=none)(hv:bootBuiltins x=some u)(r:RelV v u)(hn:x ≠ "__name__":=by decide)(hd:(x == ("__debug__" : Str))=false:=by decide):PEi X (.Name x pos) (tC v):=by with_unfolding_all exact pe_bltn (hg:=hg) (hm:=hm) (hv:=hv) (r:=r) (hn:=hn) (hd:=hd)
theorem a0j{op:Operator}{r:R2}(ho:OpR X (binaryOp op) r)(ha:PEi X a ta)(hb:PEi X b tb):PEi X (.BinOp a op b pos) (tOp r ta tb):=by with_unfolding_all exact pe_op (ho:=ho) (ha:=ha) (hb:=hb)
theorem a7x{op:UnaryOp}{r:V→Hp→VK→Prop}(ho:UnR X (unaryOp op) r)(ha:PEi X a ta):PEi X (.UnaryOp op a pos) (tUn r ta):=by with_unfolding_all exact pe_un (ho:=ho) (ha:=ha)
theorem pe_cmpRI{op:CmpOp}{r:R2}(ho:OpR X (compareOp op) r)(ha:PEi X a ta)(hb:PEi X b tb)(hm:behindInMarks op b=false):PEi X (.Compare a [op] [b] pos) (tOp r ta tb):=by with_unfolding_all exact pe_cmpR (ho:=ho) (ha:=ha) (hb:=hb) (hm:=hm)
theorem pe_andI{rest:List Expr}(ha:PEi X a ta)(hb:PEi X (.BoolOp .And (b::rest) pos) tb):PEi X (.BoolOp .And (a::b::rest) pos) (tAndV ta tb):=by with_unfolding_all exact pe_and (ha:=ha) (hb:=hb)
theorem pe_oneI{op}{t:TE}(h:PEi X a t):PEi X (.BoolOp op [a] pos) t:=by with_unfolding_all exact pe_one (h:=h)
theorem pe_notI(ha:PEi X a ta):PEi X (.UnaryOp .Not a pos) (tNotV ta):=by with_unfolding_all exact pe_not (ha:=ha)
theorem c2i{c:Expr}(hc:PTi X c tA)(ha:PEi X a ta)(hb:PEi X b tb):PEi X (.IfExp c a b pos) (tIf tA ta tb):=by with_unfolding_all exact pe_ifExp (hc:=hc) (ha:=ha) (hb:=hb)
theorem a0s(D:a1b X.prog X.w X.K X.mg X.base CX k x ps sp)(hr:Room j X.A)(hx:a6c CX X E)(ha:PAi X (e::es) t)(hk:k≤j:=by decide)(hg:Gl X x:=by rfl)(hdb:(x == ("__debug__" : Str))=false:=by decide)(he:starEach (e::es) X.env=(false,eval e X.env)::starEach es X.env:=by rfl)(hpl:(backTo pos (starEach es X.env)).any (·.1)=false:=by rfl):PEi X (.Call (.Name x p) (e::es) [] pos) (tFn sp E t):=by with_unfolding_all exact pe_fn (D:=D) (hr:=hr) (hx:=hx) (ha:=ha) (hk:=hk) (hg:=hg) (hdb:=hdb) (he:=he) (hpl:=hpl)
theorem a0w{id:String}(hc:a6x X (.builtin id) r)(hg:Gl X x)(hm:X.mg x=none)(hv:bootBuiltins x=some (.builtin id))(ha:PAi X (e::es) t)(hn:x ≠ "__name__":=by decide)(hdb:(x == ("__debug__" : Str))=false:=by decide)(he:starEach (e::es) X.env=(false,eval e X.env)::starEach es X.env:=by rfl)(hpl:(backTo pos (starEach es X.env)).any (·.1)=false:=by rfl):PEi X (.Call (.Name x p) (e::es) [] pos) (tCB r t):=by with_unfolding_all exact pe_callB (hc:=hc) (hg:=hg) (hm:=hm) (hv:=hv) (ha:=ha) (hn:=hn) (hdb:=hdb) (he:=he) (hpl:=hpl)
theorem a5q(hc:a6x X (.type T) r)(hg:Gl X x)(hm:X.mg x=none)(hv:bootBuiltins x=some (.type T))(ha:PAi X (e::es) t)(hn:x ≠ "__name__":=by decide)(hdb:(x == ("__debug__" : Str))=false:=by decide)(he:starEach (e::es) X.env=(false,eval e X.env)::starEach es X.env:=by rfl)(hpl:(backTo pos (starEach es X.env)).any (·.1)=false:=by rfl):PEi X (.Call (.Name x p) (e::es) [] pos) (tCB r t):=by with_unfolding_all exact c2o (hc:=hc) (hg:=hg) (hm:=hm) (hv:=hv) (ha:=ha) (hn:=hn) (hdb:=hdb) (he:=he) (hpl:=hpl)
theorem a5a{id:String}(pa:PlainAttrs T)(slot:Slot T name id)(hty:typeOf (.builtin id)=pure (.type "method_descriptor"))(hm:MtR X id r)(ho:PEi X o to)(ha:PAi X (e::es) t)(hbase:attributeBase o name X.env (eval o X.env)=eval o X.env:=by rfl)(hfew:((backTo cpos (starEach (e::es) X.env)).all (fun x=>!x.1) && (backToKw cpos (keywordEach [] X.env)).all (fun x=>x.1.isSome)
 && decide ((e::es).length+([]:List Keyword).length+(if ([]:List Keyword).isEmpty then 0 else 1)<30))=true:=by rfl)(hline:(apos.endLine == cpos.line)=true:=by rfl)(hs:starEach (e::es) X.env=(false,eval e X.env)::starEach es X.env:=by rfl)(hplain:(backTo cpos (starEach es X.env)).any (·.1)=false:=by rfl):PEi X (.Call (.Attribute o name apos) (e::es) [] cpos) (tBM X.K T r to t):=by with_unfolding_all exact pe_bm (pa:=pa) (slot:=slot) (hty:=hty) (hm:=hm) (ho:=ho) (ha:=ha) (hbase:=hbase) (hfew:=hfew) (hline:=hline) (hs:=hs) (hplain:=hplain)
theorem a0k{r:R2}(hr:IxR X r)(ha:PEi X a ta)(hb:PEi X b tb)(hs:c5f b):PEi X (.Subscript a b pos) (tOp r ta tb):=by with_unfolding_all exact pe_ix (hr:=hr) (ha:=ha) (hb:=hb) (hs:=hs)
theorem a3j{lo hi:Option Expr}{r:V→Option Int→Option Int→Hp→VK→Prop}(hr:SlR X r)(he:PEi X e te)(hl:POi X lo tl)(hu:POi X hi th):PEi X (.Subscript e (.Slice lo hi none p2) pos) (tSl r te tl th):=by with_unfolding_all exact pe_slice (hr:=hr) (he:=he) (hl:=hl) (hu:=hu)
theorem a0y{x1}(h:PAi X es t):PEi X (.Tuple es x1 pos) (tTup t):=by with_unfolding_all exact pe_tup (h:=h)
theorem a1q(h:PAi X es t):PEi X (.List es pos) (tLst t):=by with_unfolding_all exact pe_lst (h:=h)
theorem a2k{tg elt iter:Expr}{os:List Str}{pos:Pos}{scope:Scope}{wi:TI}{g:TG}{te:TE}{caps:List (Nat×Str)}(N:List Str)(sc:Scope)(hi:PIi X tg iter wi)(hg:∀ cl C s0 H0 fp,PGi (a0n X scope cl (os++caps.map (·.2)) C s0 H0 fp) tg g)(he:∀ cl C s0 H0 fp,PEi (a0n X scope cl (os++caps.map (·.2)) C s0 H0 fp) elt te)(ok:a5i N sc scope caps=true)(hN:X.N=N:=by rfl)(hsc:X.env.scope=sc:=by rfl)(hc:X.calm=true:=by rfl)(hfs:∀ v,foldedSetIterable iter X.env v=pure v:=by intro _;rfl):PEi X (.ListComp elt [⟨tg,iter,[],0⟩] scope pos) (a7o os.length wi g te (caps.map (·.1))):=by with_unfolding_all exact b8m (N:=N) (sc:=sc) (hi:=hi) (hg:=hg) (he:=he) (ok:=ok) (hN:=hN) (hsc:=hsc) (hc:=hc) (hfs:=hfs)
theorem a6i(K:c5k){e:Expr}{st:Expr}{te:TE}{ts:TO}{p2 pos:Pos}(he:PEi X e te)(hs:POi X (some st) ts)(hK:X.K=K:=by rfl):PEi X (.Subscript e (.Slice none none (some st) p2) pos) (tBack K te ts):=by with_unfolding_all exact b6u (K:=K) (he:=he) (hs:=hs) (hK:=hK)
theorem a0c   : PAi X [] tNil:=by with_unfolding_all exact pa_nil
theorem a0a(ha:PEi X e te)(hr:PAi X es t)(hs:starEach (e::es) X.env=(false,eval e X.env)::starEach es X.env:=by rfl):PAi X (e::es) (tCons te t):=by with_unfolding_all exact pa_cons (ha:=ha) (hr:=hr) (hs:=hs)
theorem a1c{op:CmpOp}{r:R2}(ho:OpR X (compareOp op) r)(ha:PEi X a ta)(hb:PEi X b tb)(hm:behindInMarks op b=false):PTi X (.Compare a [op] [b] pos) (tTest (tOp r ta tb)):=by with_unfolding_all exact pt_cmpR (ho:=ho) (ha:=ha) (hb:=hb) (hm:=hm)
theorem a7f(ha:PTi X a tA):PTi X (.UnaryOp .Not a pos) (tNot tA):=by with_unfolding_all exact pt_not (ha:=ha)
theorem a5x{e:Expr}{t:TE}(h:PEi X e t)(he:∀ whole,isTrue e X.env whole=(do let v ← whole;standAt e.pos;holding [v] (truthy v)):=by intro _;rfl):PTi X e (tB t):=by with_unfolding_all exact pt_val (h:=h) (he:=he)
theorem a8j{X:Cx}{e:Expr}{t:TT}(h:PWi X e t):PTi X e t:=by with_unfolding_all exact L2.PW.pt (h:=h)
theorem b0a(ha:PTi X a tA):PWi X (.BoolOp .And [a] pos) tA:=by with_unfolding_all exact pw_and1 (ha:=ha)
theorem b0t(ha:PTi X a tA):PWi X (.BoolOp .Or [a] pos) tA:=by with_unfolding_all exact pw_or1 (ha:=ha)
theorem a8s{rest:List Expr}(ha:PTi X a tA)(hb:PWi X (.BoolOp .And (b::rest) pos) tB'):PWi X (.BoolOp .And (a::b::rest) pos) (tAnd tA tB'):=by with_unfolding_all exact pw_and (ha:=ha) (hb:=hb)
theorem b2p{rest:List Expr}(ha:PTi X a tA)(hb:PWi X (.BoolOp .Or (b::rest) pos) tB'):PWi X (.BoolOp .Or (a::b::rest) pos) (tOr tA tB'):=by with_unfolding_all exact pw_or (ha:=ha) (hb:=hb)
theorem a1o   : PSsi X [] tNext:=by with_unfolding_all exact pss_nil
theorem a0e{st:Stmt}{rest:List Stmt}(h1:PSi X st t)(h2:PSsi X rest u):PSsi X (st::rest) (tSeq t u):=by with_unfolding_all exact pss_cons (h1:=h1) (h2:=h2)
theorem a0h{st:Stmt}(h1:PSi X st t):PSsi X [st] t:=by with_unfolding_all exact pss_one (h1:=h1)
theorem a3g(he:PEi X e te)(hs:swapsWith e none pos.line X.env=pure false:=by rfl):PSi X (.Expr e pos) (tDrop te):=by with_unfolding_all exact ps_expr (he:=he) (hs:=hs)
theorem a0r(he:PEi X e te):PSi X (.Return (some e) pos) (tRet te):=by with_unfolding_all exact ps_ret (he:=he)
theorem a2h{c:Expr}{a b:List Stmt}{tc:TT}(hc:PTi X c tc)(ha:PSsi X a t)(hb:PSsi X b u):PSi X (.If c a b pos) (tIfS tc t u):=by with_unfolding_all exact ps_if (hc:=hc) (ha:=ha) (hb:=hb)
theorem b4z{st:Stmt}  : PSi X st tNever:=by with_unfolding_all exact ps_never
theorem a2x{tg e:Expr}{te:TE}{g:TG}(he:PEi X e te)(hg:PGi X tg g)(hs:swapsWithSole [tg] e pos.line X.env=pure false:=by rfl)(hw:swappedStores [tg] e X.env=pure none:=by rfl)(h1:(assignEach [tg] X.env).map (·.2)=[assign tg X.env]:=by rfl):PSi X (.Assign [tg] e pos) (tAsg te g):=by with_unfolding_all exact ps_asg (he:=he) (hg:=hg) (hs:=hs) (hw:=hw) (h1:=h1)
theorem a0p{i:Nat}{x:Str}{e:Expr}{te:TE}{pos':Pos}(hN:X.N.Nodup)(hi:X.N[i]?=some x)(hx:Loc X.env.scope x)(he:PEi X e te)(hs:swapsWith e (some (.Name x pos')) pos.line X.env=pure false:=by rfl)(hf:X.fn x=true∨X.env.scope.names.lookup x=some .local:=by first | exact .inl rfl | exact .inr rfl | assumption):PSi X (.Assign [.Name x pos'] e pos) (tAsg te (a3u i)):=by with_unfolding_all exact ps_set (hN:=hN) (hi:=hi) (hx:=hx) (he:=he) (hs:=hs) (hf:=hf)
theorem a6f{i j:Nat}{x y:Str}{a b:Expr}{ta:TA}{px py pt:Pos}{kt k2 pt2}(hc:X.calm=true)(hN:X.N.Nodup)(hi:X.N[i]?=some x)(hj:X.N[j]?=some y)(hij:i≠j)(hx:X.env.scope.names.lookup x=some .local)(hy:X.env.scope.names.lookup y=some .local)(ha:PAi X [a,b] ta)(hw:swappedStores [.Tuple [.Name x px,.Name y py] kt pt] (.Tuple [a,b] k2 pt2) X.env=pure (some [x,y]))(hs:swapsWithSole [.Tuple [.Name x px,.Name y py] kt pt] (.Tuple [a,b] k2 pt2) pos.line X.env=pure false:=by rfl):PSi X (.Assign [.Tuple [.Name x px,.Name y py] kt pt] (.Tuple [a,b] k2 pt2) pos) (tPar i j ta):=by with_unfolding_all exact ps_par (hc:=hc) (hN:=hN) (hi:=hi) (hj:=hj) (hij:=hij) (hx:=hx) (hy:=hy) (ha:=ha) (hw:=hw) (hs:=hs)
theorem a7t{c:Expr}{body:List Stmt}{tc:TT}{tb:TS}(hp:PassesOwn (model X.prog X.w) X.A X.env X.xe)(hc:PTi X c tc)(hb:PSsi X body tb):PSi X (.While c body [] pos) (b7p tc tb):=by with_unfolding_all exact ps_while (hp:=hp) (hc:=hc) (hb:=hb)
theorem a2n{iter:Expr}{body:List Stmt}{wi:TI}{g:TG}{tb:TS}{pos:Pos}(hp:PassesOwn (model X.prog X.w) X.A X.env X.xe)(hc:X.calm=true)(hi:PIi X tg iter wi)(hg:PGi X tg g)(hb:PSsi X body tb)(hs:∀ x,foldedSetIterable iter X.env x=pure x:=by intro _;rfl):PSi X (.For tg iter body [] pos) (tFor wi g tb):=by with_unfolding_all exact ps_for (hp:=hp) (hc:=hc) (hi:=hi) (hg:=hg) (hb:=hb) (hs:=hs)
theorem a7u{tg elt iter:Expr}{os:List Str}{i:Nat}{y:Str}{py pos spos:Pos}{scope:Scope}{wi:TI}{g:TG}{te:TE}{caps:List (Nat×Str)}(N:List Str)(sc:Scope)(hNd:X.N.Nodup)(hy:X.N[i]?=some y)(hl:X.env.kindOf y=some .local)(hi:PIi X tg iter wi)(hg:∀ cl C s0 H0 fp,PGi (a0n X scope cl (os++caps.map (·.2)) C s0 H0 fp) tg g)(he:∀ cl C s0 H0 fp,PEi (a0n X scope cl (os++caps.map (·.2)) C s0 H0 fp) elt te)(ok:a5i N sc scope caps=true)(hN:X.N=N:=by rfl)(hsc:X.env.scope=sc:=by rfl)(hc:X.calm=true:=by rfl)(hfs:∀ v,foldedSetIterable iter X.env v=pure v:=by intro _;rfl)(hsw:swapsWith (.ListComp elt [⟨tg,iter,[],0⟩] scope pos) (some (.Name y py)) spos.line X.env=pure true:=by rfl):PSi X (.Assign [.Name y py] (.ListComp elt [⟨tg,iter,[],0⟩] scope pos) spos) (tAsg (a7o os.length wi g te (caps.map (·.1))) (a3u i)):=by with_unfolding_all exact ps_compS (N:=N) (sc:=sc) (hNd:=hNd) (hy:=hy) (hl:=hl) (hi:=hi) (hg:=hg) (he:=he) (ok:=ok) (hN:=hN) (hsc:=hsc) (hc:=hc) (hfs:=hfs) (hsw:=hsw)
theorem a0g{i:Nat}{x:Str}(hN:X.N.Nodup)(hi:X.N[i]?=some x)(hx:Loc X.env.scope x)(hf:X.fn x=true∨X.env.scope.names.lookup x=some .local:=by first | exact .inl rfl | exact .inr rfl | assumption):PGi X (.Name x pos) (a3u i):=by with_unfolding_all exact pg_name (hN:=hN) (hi:=hi) (hx:=hx) (hf:=hf)
theorem a1e   : PGsi X [] gNil:=by with_unfolding_all exact pgs_nil
theorem a0i{e:Expr}{es:List Expr}{t:TG}{u:TGs}(h1:PGi X e t)(h2:PGsi X es u)(hs:(assignEach (e::es) X.env).map (·.2)=assign e X.env::(assignEach es X.env).map (·.2):=by rfl):PGsi X (e::es) (a5s t u):=by with_unfolding_all exact pgs_cons (h1:=h1) (h2:=h2) (hs:=hs)
theorem a1h(K:c5k){es:List Expr}{k:Nat}{t:TGs}{n:Nat}{pos:Pos}(hc:X.calm=true)(h:PGsi X es t)(hK:X.K=K:=by rfl)(hn:(assignEach es X.env).length=n:=by rfl)(hst:(assignEach es X.env).findIdx? (·.1)=none:=by rfl):PGi X (.Tuple es k pos) (gTup K n t):=by with_unfolding_all exact pg_tupK (K:=K) (hc:=hc) (h:=h) (hK:=hK) (hn:=hn) (hst:=hst)
theorem pg_subI{o i:Expr}{to ti:TE}{t:TSet}(ho:PEi X o to)(hi:PEi X i ti)(hs:PSet X t)(ha:∀ v,assign (.Subscript o i pos) X.env v=(do
 let ov ← holding [v] (eval o X.env);let iv ← holding [v,ov] (eval i X.env)
 standAt pos
 holding [v,ov,iv] (setItem ov iv v)
 release [v,ov,iv] []):=by intro _;rfl):PGi X (.Subscript o i pos) (gSub to ti t):=by with_unfolding_all exact pg_sub (ho:=ho) (hi:=hi) (hs:=hs) (ha:=ha)
theorem pi_listI{l:Expr}{tl:TE}(hl:PEi X l tl):PIi X tg l (iList X.K tl):=by with_unfolding_all exact pi_list (hl:=hl)
theorem pi_tupI{l:Expr}{tl:TE}(hl:PEi X l tl):PIi X tg l (iTup X.K tl):=by with_unfolding_all exact pi_tup (hl:=hl)
theorem a3d{a:Expr}{ta:TA}{p pos:Pos}(hg:Gl X "range")(hm:X.mg "range" = none)(ha:PAi X [a] ta)(hs:starEach [a] X.env=[(false,eval a X.env)]:=by rfl):PIi X tg (.Call (.Name "range" p) [a] [] pos) (iRng1 ta):=by with_unfolding_all exact c2h (hg:=hg) (hm:=hm) (ha:=ha) (hs:=hs)
theorem b2t{a b:Expr}{ta:TA}{p pos:Pos}(hg:Gl X "range")(hm:X.mg "range" = none)(ha:PAi X [a,b] ta)(hs:starEach [a,b] X.env=[(false,eval a X.env),(false,eval b X.env)]:=by rfl)(hs2:starEach [b] X.env=[(false,eval b X.env)]:=by rfl):PIi X tg (.Call (.Name "range" p) [a,b] [] pos) (iRng2 ta):=by with_unfolding_all exact c2g (hg:=hg) (hm:=hm) (ha:=ha) (hs:=hs) (hs2:=hs2)
theorem b3o{a b:Expr}{ta:TA}{p pos ppos:Pos}{elts:List Expr}{k0:Nat}(hg:Gl X "zip")(hm:X.mg "zip" = none)(ha:PAi X [a,b] ta)(he:starEach [a,b] X.env=(false,eval a X.env)::starEach [b] X.env:=by rfl)(hpl:(backTo pos (starEach [b] X.env)).any (·.1)=false:=by rfl):PIi X (.Tuple elts k0 ppos) (.Call (.Name "zip" p) [a,b] [] pos) (iZip X.K ta):=by with_unfolding_all exact pi_zip (hg:=hg) (hm:=hm) (ha:=ha) (he:=he) (hpl:=hpl)
theorem a3v   : POi X none c1f:=by with_unfolding_all exact po_none
theorem a3h(h:PEi X e te):POi X (some e) (tPart te):=by with_unfolding_all exact po_some (h:=h)
theorem a1j{P:Program}{w:World}{K:c5k}{mg:Str→Option Value}{base:Heap}{x:Str}{st:Stmt}{N ps:List Str}{k:Nat}{sp:Sp}(F:a0q K mg x st ps)(S:a1d N ps (a0f st))(len:∀ vs H Q E,sp vs H Q E→vs.length=ps.length)(hbody:∀ (f:Addr) (cdv:Value) (A:Around) (outer:List Env) (s:Shared) (H:Hp) (vs:List V) (Q:VK) (E:XK),Room k (A.deeper (envOfC x (a0f st) s.heap.objs.size f cdv))→sp vs H Q E→
 ∃ t,PSsi (cxOf CX0 P w K mg base N x (a0f st) f cdv A outer s H E).nox (a0x st) t∧t { nx:=fun _ H'=>Q .non H',rt:=Q } (b0i N vs) H):a1b P w K mg base CX0 (k+1) x ps sp:=by with_unfolding_all exact def_ok (F:=F) (S:=S) (len:=len) (hbody:=hbody)
end
theorem st2{l:L2.St}(h:l.length=2):∃ a b,l=[a,b]:=by
 match l,h with
 | [a,b],_=>exact⟨a,b,rfl⟩
theorem st4{l:L2.St}(h:l.length=4):∃ a b c d,l=[a,b,c,d]:=by
 match l,h with
 | [a,b,c,d],_=>exact⟨a,b,c,d,rfl⟩
theorem c3z{c:Bool}{body:TS}{D:Ends}{σ:L2.St}{H:Hp}(S:L2.St→Hp→Prop)(h:∀ σ' H',S σ' H'→D.nx σ' H')(h1:∀ N:L2.St→Hp→Prop,(∀ σ' H',S σ' H'→N σ' H')→c=true→body { D with nx:=N } σ H)(h2:c=false→S σ H):if c=true then body D σ H else tNext D σ H:=by
 cases c with
 | true=>rw[if_pos rfl];exact h1 D.nx h rfl
 | false=>rw[if_neg c6s];exact h σ H (h2 rfl)
theorem uln0{α:Type}{P:List α→Prop}(h:P []):∀ us:List α,us.length=0→P us
 | [],_=>h
theorem ulnS{α:Type}{n:Nat}{P:List α→Prop}(h:∀ a,∀ us:List α,us.length=n→P (a::us)):∀ us:List α,us.length=n+1→P us
 | [],e=>nomatch e
 | a::us,e=>h a us (Nat.succ.inj e)
@[elab_as_elim] theorem uln1{α:Type}{P:List α→Prop}(h:∀ a,P [a])(us:List α)(hl:us.length=1):P us:=(ulnS fun a=>uln0 (h a)) us hl
@[elab_as_elim] theorem uln2{α:Type}{P:List α→Prop}(h:∀ a b,P [a,b])(us:List α)(hl:us.length=2):P us:=(ulnS fun a=>ulnS fun b=>uln0 (h a b)) us hl
@[elab_as_elim] theorem uln3{α:Type}{P:List α→Prop}(h:∀ a b c,P [a,b,c])(us:List α)(hl:us.length=3):P us:=(ulnS fun a=>ulnS fun b=>ulnS fun c=>uln0 (h a b c)) us hl
@[elab_as_elim] theorem uln4{α:Type}{P:List α→Prop}(h:∀ a b c d,P [a,b,c,d])(us:List α)(hl:us.length=4):P us:=(ulnS fun a=>ulnS fun b=>ulnS fun c=>ulnS fun d=>uln0 (h a b c d)) us hl
section
variable {X:Cx}
noncomputable def tTrL(t:TE):TT:=fun σ H Q=>t σ H fun x H1=>∃ (a:Addr) (xs:List V),x=.ref a∧H1 a=some (.lst xs)∧Q (!xs.isEmpty) H1
theorem pt_lst{e:Expr}{t:TE}(h:PE X e t)(he:∀ whole,isTrue e X.env whole=(do let v ← whole;standAt e.pos;holding [v] (truthy v)):=by intro _;rfl):PT X e (tTrL t):=by
 intro pins s σ H Q I hw;refine isTrue_plain (thn (h pins s σ H _ I hw) fun v s1 ⟨x,H1,I1,r1,q1⟩=>?_) (he _);obtain⟨a,xs,rfl,hH,q⟩:=q1;cases r1;obtain⟨z,its,n,r,hl,e⟩:=I1.lstM hH;have hz:sizeLine<2^63:=by rw[sizeLine_eq];decide
 refine wpAny_truthy_list (items:=its.toArray) ⟨_,e,rfl,n,rfl⟩ (by rw[c6c];omega) ?_;have eb:its.toArray.isEmpty=xs.isEmpty:=by
   rw[List.isEmpty_toArray];cases its with
   | nil=>cases xs with
     | nil=>rfl
     | cons _ _=>simp at hl
   | cons _ _=>cases xs with
     | nil=>simp at hl
     | cons _ _=>rfl
 rw[eb];exact⟨H1,I1.tok _,q⟩
theorem pt_lstI{e:Expr}{t:TE}(h:PEi X e t)(he:∀ whole,isTrue e X.env whole=(do let v ← whole;standAt e.pos;holding [v] (truthy v)):=by intro _;rfl):PTi X e (tTrL t):=by with_unfolding_all exact pt_lst (h:=h) (he:=he)
end
section
variable {K:c5k} {J:It} {H1:Hp} {te:TE} {cs:L2.St} {Q:VK} {n:Nat}
theorem comp22{fa ga:Nat→Addr}{x y u v:Nat→V}(hJ:a8i K J H1 n (fun i=>.ref (fa i)) (fun i=>.ref (ga i)))(hf:∀ i,i<n→SqT K H1 (fa i) [x i,y i])(hg:∀ i,i<n→SqT K H1 (ga i) [u i,v i])(hn:n≤100000)(R:Nat→V→Hp→Prop)(hR:∀ i v H H',Tup H H'→R i v H→R i v H')(he:∀ i H2 (k:VK),i<n→Same H1 H2→(∀ v H3,Same H2 H3→R i v H3→k v H3)→te (some (x i)::some (y i)::some (u i)::some (v i)::cs) H2 k)(hq:∀ D ys H2,H1 D=none→Same H1 H2→H2 D=some (.lst ys)→ys.length=n→(∀ i v,ys[i]?=some v→R i v H2)→Q (.ref D) H2) :
   a4o 4 J H1 (gTup K 2 (a5s (gTup K 2 (a5s (a3u 0) (a5s (a3u 1) gNil))) (a5s (gTup K 2 (a5s (a3u 2) (a5s (a3u 3) gNil))) gNil))) te cs Q:=by
 intro D hD;refine⟨fun i m ys H2=>m=n - i∧i≤n∧ys.length=i∧Same H1 H2∧H2 D=some (.lst ys)∧∀ j v,ys[j]?=some v→R j v H2,⟨n,by simp,c7c _,rfl,Same.new hD,a0d,fun j v e=>by simp at e⟩,?_⟩;rintro i m ys H2 ⟨rfl,hi,hl,s2,d2,r2⟩;by_cases hlt:i<n
 · refine .inr ⟨((hJ H2 s2 i).1 hlt).1,fun x' H' y' own ho=>?_⟩;obtain⟨s2',a,rfl,ht⟩:=((hJ H2 s2 i).1 hlt).2 x' H' y';obtain⟨o1,o2,o3,o4,rfl⟩ : ∃ o1 o2 o3 o4,own=[o1,o2,o3,o4]:=by
     match own,ho with
     | [o1,o2,o3,o4],_=>exact⟨o1,o2,o3,o4,rfl⟩
   refine⟨a,_,rfl,ht,rfl,_,_,rfl,fa i,_,rfl,SqT.same (s2.trans s2') (hf i hlt),rfl,_,_,rfl,_,_,rfl,rfl,_,_,rfl,ga i,_,rfl,SqT.same (s2.trans s2') (hg i hlt),rfl,_,_,rfl,_,_,rfl,rfl,rfl,⟨[some (x i),some (y i),some (u i),some (v i)],rfl,rfl⟩,he i _ _ hlt (s2.trans s2') fun v H3 s3 r3=>⟨s3 _ _ (s2' _ _ d2),a0o (by omega),n - (i+1),by omega,rfl,hlt,by rw[c5n,hl];rfl,fun b o e=>?_,a0d,fun j w e=>?_⟩⟩
   · rw[a0m (a0t e hD)];exact s3 _ _ (s2' _ _ (s2 _ _ e))
   · have t3:Tup H3 (upd H3 D (.lst (ys++[v]))):=Tup.lst (s3 _ _ (s2' _ _ d2));by_cases hj:j<ys.length
     · rw[c5y hj] at e;exact hR _ _ _ _ ((s2'.trans s3).tup.trans t3) (r2 j w e)
     · rw[c6d (by omega)] at e;have hj0:j - ys.length=0:=by
         cases q:j - ys.length with
         | zero=>rfl
         | succ k=>rw[q] at e;simp at e
       rw[hj0] at e;have e':v=w:=by simpa using e
       have hji:j=i:=by omega
       rw[← e',hji];exact hR _ _ _ _ t3 r3
 · have e:i=n:=by omega
   subst e;exact .inl ⟨(hJ H2 s2 i).2 rfl,hq D ys H2 hD s2 d2 hl r2⟩
end
theorem b4c(elt t1 i1 t2 i2:Expr)(scope:Scope)(pos:Pos)(it acc:Value)(env:Env) :
 compTurn (.ListComp elt [⟨t1,i1,[],0⟩,⟨t2,i2,[],0⟩] scope pos) 0 it acc env=(standAt i1.pos >>= fun _=>pyNext it >>= fun r=>match r with
   | none=>pure (.done .next)
   | some v=>letOwnedTupleGo t1 it v >>= fun _=>assign t1 env v >>= fun _=>
     eval i2 env >>= fun x=>standAt i2.pos >>= fun _=>foldedSetIterable i2 env x >>= fun x=>holding [x] (pyIter x) >>= fun it2=>
       runOwn (.compStart (.ListComp elt [⟨t1,i1,[],0⟩,⟨t2,i2,[],0⟩] scope pos) 1 it2 acc env) env >>= fun _=>
       again (.compLoop (.ListComp elt [⟨t1,i1,[],0⟩,⟨t2,i2,[],0⟩] scope pos) 0 it acc env)):=by rfl
theorem b4b(elt t1 i1 t2 i2:Expr)(scope:Scope)(pos:Pos)(it acc:Value)(env:Env) :
 compTurn (.ListComp elt [⟨t1,i1,[],0⟩,⟨t2,i2,[],0⟩] scope pos) 1 it acc env=(standAt i2.pos >>= fun _=>pyNext it >>= fun r=>match r with
   | none=>pure (.done .next)
   | some v=>letOwnedTupleGo t2 it v >>= fun _=>assign t2 env v >>= fun _=>
     (eval elt env >>= fun x=>call (.builtin "list.append") [acc,x] >>= fun _=>pure ()) >>= fun _=>
       again (.compLoop (.ListComp elt [⟨t1,i1,[],0⟩,⟨t2,i2,[],0⟩] scope pos) 1 it acc env)):=by rfl
section
variable {prog:Program} {w:World} {A:Around} {R:Result→Shared→Prop} {s:Shared}
theorem b2g{elt t1 i1 t2 i2:Expr}{scope:Scope}{pos:Pos}{it acc:Value}{env:Env}(h0:codeAny (model prog w) A (.compLoop (.ListComp elt [⟨t1,i1,[],0⟩,⟨t2,i2,[],0⟩] scope pos) 1 it acc env) R s)(h:wpAny (model prog w) A (pyIter it) (fun it' s'=>codeAny (model prog w) A (.compLoop (.ListComp elt [⟨t1,i1,[],0⟩,⟨t2,i2,[],0⟩] scope pos) 1 it' acc env) R s')
     (notedBy (model prog w) A env fun x s'=>R (.error x) s') s) :
   codeAny (model prog w) A (.compStart (.ListComp elt [⟨t1,i1,[],0⟩,⟨t2,i2,[],0⟩] scope pos) 1 it acc env) R s:=by
 refine codeAny_of_tree ?_;show wpAny _ _ ((compStart (.ListComp elt [⟨t1,i1,[],0⟩,⟨t2,i2,[],0⟩] scope pos) 1 it acc env).onRaise (fun x=>do noteFrame x env;standAt theWindowsPlace)) _ _ s;refine wpAny_notedAt ?_;unfold compStart;show wpAny _ _ (ask >>= _) _ _ s;refine wpAny_bind (wpAny_askSetting (wpAny_ite ?_));split
 · first
     | exact wpAny_bind (wpAny_pure (wpAny_pure (And.intro rfl h0)))
     | exact wpAny_pure (And.intro rfl h0)
 · first
     | exact wpAny_bind (wpAny_rule (wpAny_bind (wpAny_standAt (wpAny_bind (wpAny_mono h (fun it' s' h'=>wpAny_pure (And.intro rfl h')) fun _ _ x=>x)))))
     | (refine wpAny_bind (wpAny_rule ?_);show wpAny _ _ (standAt i2.pos >>= _) _ _ s;exact wpAny_bind (wpAny_standAt (wpAny_bind (wpAny_mono h (fun it' s' h'=>wpAny_pure (And.intro rfl h')) fun _ _ x=>x))))
theorem b4d{elt t1 i1 t2 i2:Expr}{scope:Scope}{pos:Pos}{it acc:Value}{env:Env}(I:Nat→Shared→Prop)(turn:∀ n s,I n s→wpAny (model prog w) A (pyNext it) (fun r s₁=>match r with
     | none=>R (.ok .next) s₁
     | some v=>wpAny (model prog w) A (letOwnedTupleGo t2 it v) (fun _ s₁'=>wpAny (model prog w) A (assign t2 env v) (fun _ s₂=>wpAny (model prog w) A (eval elt env) (fun x s₃=>
         wpAny (model prog w) A (call (.builtin "list.append") [acc,x]) (fun _ s₄=>∃ m,m<n∧I m s₄) (notedBy (model prog w) A env fun e s'=>R (.error e) s') s₃)
         (notedBy (model prog w) A env fun e s'=>R (.error e) s') s₂) (notedBy (model prog w) A env fun e s'=>R (.error e) s') s₁') (notedBy (model prog w) A env fun e s'=>R (.error e) s') s₁) (notedBy (model prog w) A env fun e s'=>R (.error e) s') s)(n:Nat)(h:I n s) :
   codeAny (model prog w) A (.compLoop (.ListComp elt [⟨t1,i1,[],0⟩,⟨t2,i2,[],0⟩] scope pos) 1 it acc env) R s:=by
 refine codeAny_loop rfl I (fun n s hI=>?_) n h;show wpAny _ _ ((compTurn (.ListComp elt [⟨t1,i1,[],0⟩,⟨t2,i2,[],0⟩] scope pos) 1 it acc env).onRaise (fun x=>do noteFrame x env;theTreesLotGoes x)) _ _ s;refine wpAny_noted ?_;rw[b4b];refine wpAny_bind (wpAny_standAt (wpAny_bind (wpAny_mono (turn n s hI) (fun r s₁ h₁=>?_) fun _ _ h'=>h')));cases r with
 | none=>exact wpAny_pure h₁
 | some v=>
   refine wpAny_bind (wpAny_mono h₁ (fun _ s₁' h₁'=>?_) fun _ _ h'=>h');exact wpAny_bind (wpAny_mono h₁' (fun _ s₂ h₂=>wpAny_bind (wpAny_bind (wpAny_mono h₂ (fun x s₃ h₃=>wpAny_bind (wpAny_mono h₃
     (fun _ s₄ h₄=>wpAny_pure (wpAny_pure ⟨rfl,h₄⟩)) fun _ _ h'=>h')) fun _ _ h'=>h'))) fun _ _ h'=>h')
theorem b4e{elt t1 i1 t2 i2:Expr}{scope:Scope}{pos:Pos}{it acc:Value}{env:Env}(I:Nat→Shared→Prop)(hfs:∀ v,foldedSetIterable i2 env v=pure v)(turn:∀ n s,I n s→wpAny (model prog w) A (pyNext it) (fun r s₁=>match r with
     | none=>R (.ok .next) s₁
     | some v=>wpAny (model prog w) A (letOwnedTupleGo t1 it v) (fun _ s₁'=>wpAny (model prog w) A (assign t1 env v) (fun _ s₂=>wpAny (model prog w) A (eval i2 env) (fun x s₃=>
         wpAny (model prog w) A (pyIter x) (fun it2 s₄=>codeAny (model prog w) A (.compStart (.ListComp elt [⟨t1,i1,[],0⟩,⟨t2,i2,[],0⟩] scope pos) 1 it2 acc env) (fun r s'=>match r with | .ok _=>∃ m,m<n∧I m s' | .error e=>cameBackBy (model prog w) A env (notedBy (model prog w) A env fun e s'=>R (.error e) s') e s') s₄) (notedBy (model prog w) A env fun e s'=>R (.error e) s') s₃)
         (notedBy (model prog w) A env fun e s'=>R (.error e) s') s₂) (notedBy (model prog w) A env fun e s'=>R (.error e) s') s₁') (notedBy (model prog w) A env fun e s'=>R (.error e) s') s₁) (notedBy (model prog w) A env fun e s'=>R (.error e) s') s)(n:Nat)(h:I n s) :
   codeAny (model prog w) A (.compLoop (.ListComp elt [⟨t1,i1,[],0⟩,⟨t2,i2,[],0⟩] scope pos) 0 it acc env) R s:=by
 refine codeAny_loop rfl I (fun n s hI=>?_) n h;show wpAny _ _ ((compTurn (.ListComp elt [⟨t1,i1,[],0⟩,⟨t2,i2,[],0⟩] scope pos) 0 it acc env).onRaise (fun x=>do noteFrame x env;theTreesLotGoes x)) _ _ s;refine wpAny_noted ?_;rw[b4c];refine wpAny_bind (wpAny_standAt (wpAny_bind (wpAny_mono (turn n s hI) (fun r s₁ h₁=>?_) fun _ _ h'=>h')));cases r with
 | none=>exact wpAny_pure h₁
 | some v=>
   refine wpAny_bind (wpAny_mono h₁ (fun _ s₁' h₁'=>?_) fun _ _ h'=>h');refine wpAny_bind (wpAny_mono h₁' (fun _ s₂ h₂=>?_) fun _ _ h'=>h');refine wpAny_bind (wpAny_mono h₂ (fun x s₃ h₃=>?_) fun _ _ h'=>h');refine wpAny_bind (wpAny_standAt (wpAny_bind (wpAny_of_eq (hfs x) (wpAny_bind (wpAny_holding (wpAny_mono h₃ (fun it2 s₄ h₄=>?_) fun _ _ h'=>h'))))));refine wpAny_bind (wpAny_runOwn (codeAny_mono h₄ fun r s' h'=>?_));cases r with
   | ok f=>exact wpAny_pure ⟨rfl,h'⟩
   | error e=>exact h'
end
noncomputable def b6f(k:Nat)(J:It)(H1:Hp)(g:TG)(wi2:TI)(g2:TG)(te:TE)(cs:L2.St)(Q:VK):Prop:=∀ D,H1 D=none→∃ W:Nat→Nat→List V→Hp→Prop,(∃ m,W 0 m [] (upd H1 D (.lst [])))∧
 ∀ i m ys H2,W i m ys H2→(J.stop i H2∧Q (.ref D) H2)∨(J.go i H2∧∀ x H',J.yld i H2 x H'→∀ own:L2.St,own.length=k→g x (own++cs) H' fun σ2 H4=>∃ own1:L2.St,own1.length=k∧σ2=own1++cs∧
   wi2 σ2 H4 fun J2 H5=>∃ W2:Nat→Nat→List V→L2.St→Hp→Prop,(∃ m2,W2 0 m2 ys own1 H5)∧
     ∀ j m2 ys2 own2 H6,W2 j m2 ys2 own2 H6→(J2.stop j H6∧∃ m',m' < m∧W (i+1) m' ys2 H6)∨(J2.go j H6∧∀ x2 H7,J2.yld j H6 x2 H7→own2.length=k→g2 x2 (own2++cs) H7 fun σ2 H4=>∃ own3:L2.St,own3.length=k∧σ2=own3++cs∧
       te σ2 H4 fun v H3=>H3 D=some (.lst ys2)∧ys2.length<sizeLine∧∃ m',m' < m2∧W2 (j+1) m' (ys2++[v]) own3 (upd H3 D (.lst (ys2++[v])))))
noncomputable def b7r(k:Nat)(wi:TI)(g:TG)(wi2:TI)(g2:TG)(te:TE)(ix:List Nat):TE:=fun σ H Q=>wi σ H fun J H1=>b6f k J H1 g wi2 g2 te (capd σ ix) Q
section
variable {X:Cx}
theorem c0s{tg elt iter tg2 iter2:Expr}{os:List Str}{pos ipos:Pos}{scope:Scope}{wi wi2:TI}{g g2:TG}{te:TE}{caps:List (Nat×Str)}{pins:List (Addr×Obj)}{s:Shared}{σ:L2.St}{H:Hp}{Q:VK}{use:Option (Value→Sem Unit)}{R:Value→Shared→Prop}(hi:PI X tg iter wi)(hg:∀ cl C s0 H0 fp,PG (a0n X scope cl (os++caps.map (·.2)) C s0 H0 fp) tg g)(hi2:∀ cl C s0 H0 fp,PI (a0n X scope cl (os++caps.map (·.2)) C s0 H0 fp) tg2 iter2 wi2)(hg2:∀ cl C s0 H0 fp,PG (a0n X scope cl (os++caps.map (·.2)) C s0 H0 fp) tg2 g2)(he:∀ cl C s0 H0 fp,PE (a0n X scope cl (os++caps.map (·.2)) C s0 H0 fp) elt te)(hfree:∀ y∈scope.names,y.2=.free→X.env.kindOf y.1=some .cell)(hcap:∀ p∈caps,X.N[p.1]?=some p.2∧X.env.kindOf p.2=some .cell∧((relabel scope X.env).names.lookup p.2=some .cell∨(relabel scope X.env).names.lookup p.2=some .free))(hkind:scope.kind=.function)(hcell:∀ y∈scope.names,y.2≠.cell)(hnames:∀ y∈scope.names,y.2=.local→scope.names.lookup y.1=some .local)(hc:X.calm=true)(hfs:∀ v,foldedSetIterable iter X.env v=pure v)(hfs2:∀ cl C v,foldedSetIterable iter2 (compEnvC scope cl C X.env) v=pure v)(hfin:∀ D C H5 s6 m6,Inv X pins σ H5 s6→s6.heap.Ns C m6→FpOk X pins H5 C→Q (.ref D) H5→compPost (model X.prog X.w) X.A X.xe use R (.ref D) C (.ok .next) s6)(I:Inv X pins σ H s)(h:b7r os.length wi g wi2 g2 te (caps.map (·.1)) σ H Q) :
   wpAny (model X.prog X.w) X.A (comprehension (.ListComp elt [⟨tg,iter,[],0⟩,⟨tg2,iter2,[],0⟩] scope pos) scope X.env ipos (newList []) false (eval iter X.env) use) R X.xe s:=by
 refine b4a (os:=os) (caps:=caps) hi hfree hcap hkind hcell hnames hc hfs hfin I h (fun cl C s3 fp it tn J H1 D s4 ⟨W,⟨m0,w0⟩,turn⟩ T Ic st4 fp0 fpc fin=>?_);refine b4e (R:=compPost (model X.prog X.w) X.A X.xe use R (.ref D) C) (fun n s'=>∃ i ys own H',own.length=os.length∧Inv (a0n X scope cl (os++caps.map (·.2)) C s3 (upd H1 D (.lst [])) fp) [] (own++capd σ (caps.map (·.1))) H' s'∧tn i s'.heap∧(∀ b∈fp,H' b=none)∧W i n ys H') (hfs2 cl C) ?_ m0 ⟨0,[],c5q os.length none,_,c7i,Ic,st4,fp0,w0⟩;rintro n s5 ⟨i,ys,own,H5,ho5,I5,st5,fr5,w5⟩;rcases turn i n ys H5 w5 with⟨stop,qn⟩ | ⟨go,step⟩
 · refine thn (T.done (a0n X scope cl (os++caps.map (·.2)) C s3 (upd H1 D (.lst [])) fp) rfl rfl rfl hc i [] s5 _ H5 _ I5 (fpc H5 fr5) st5 stop) fun r s6 ⟨hr,I6⟩=>?_;subst hr;exact fin _ _ _ I6 qn
 · refine thn (T.item (a0n X scope cl (os++caps.map (·.2)) C s3 (upd H1 D (.lst [])) fp) rfl rfl rfl hc i [] s5 _ H5 _ I5 (fpc H5 fr5) st5 go) fun r s6 ⟨u,hr,h6⟩=>?_;subst hr;refine (thn h6 fun _ s7 ⟨y,H7,I7,r7,y7,st7,fr7⟩=>?_);have I7':=I7.pinned (fpc H7 fr7) (T.obj _ _ st7);refine wpAny_mono (hg cl C s3 _ fp _ s7 _ H7 y u _ I7' r7 (step y H7 y7 own ho5)) (fun _ s8 ⟨σ8,H8,I8,own1,ho8,e8,q8⟩=>?_) fun _ _ z=>z.elim;subst e8;refine wpAny_mono (hi2 cl C s3 _ fp _ s8 _ H8 _ I8 q8) (fun v2 s9 h9=>?_) fun _ _ z=>z.elim;refine wpAny_mono h9 (fun itv2 s10 h10=>?_) fun _ _ z=>z.elim;obtain⟨it2,fp2,tn2,J2,H10,rfl,I10,T2,st10,f10,W2,⟨m2,w2⟩,turn2⟩:=h10;have stat:∀ {H':Hp},(∀ b∈fp2,H' b=none)→∀ b∈fp2,FpOk (a0n X scope cl (os++caps.map (·.2)) C s3 (upd H1 D (.lst [])) fp) ([]++a5h fp s7.heap) H' b:=fun hn b hb=>⟨hn b hb,(f10 b hb).2⟩
   have loop2:codeAny (model X.prog X.w) X.A (.compLoop (.ListComp elt [⟨tg,iter,[],0⟩,⟨tg2,iter2,[],0⟩] scope pos) 1 (.ref it2) (.ref D) (compEnvC scope cl C X.env)) (fun r s'=>match r with
       | .ok _=>∃ m,m<n∧∃ i ys own H',own.length=os.length∧Inv (a0n X scope cl (os++caps.map (·.2)) C s3 (upd H1 D (.lst [])) fp) [] (own++capd σ (caps.map (·.1))) H' s'∧tn i s'.heap∧(∀ b∈fp,H' b=none)∧W i m ys H'
       | .error e=>cameBackBy (model X.prog X.w) X.A (compEnvC scope cl C X.env) (notedBy (model X.prog X.w) X.A (compEnvC scope cl C X.env) fun e s'=>compPost (model X.prog X.w) X.A X.xe use R (.ref D) C (.error e) s') e s') s10:=by
     refine b4d (R:=fun r s'=>match r with
       | .ok _=>∃ m,m<n∧∃ i ys own H',own.length=os.length∧Inv (a0n X scope cl (os++caps.map (·.2)) C s3 (upd H1 D (.lst [])) fp) [] (own++capd σ (caps.map (·.1))) H' s'∧tn i s'.heap∧(∀ b∈fp,H' b=none)∧W i m ys H'
       | .error e=>cameBackBy (model X.prog X.w) X.A (compEnvC scope cl C X.env) (notedBy (model X.prog X.w) X.A (compEnvC scope cl C X.env) fun e s'=>compPost (model X.prog X.w) X.A X.xe use R (.ref D) C (.error e) s') e s')
       (fun n2 s'=>∃ j ys2 own2 H',own2.length=os.length∧Inv (a0n X scope cl (os++caps.map (·.2)) C s3 (upd H1 D (.lst [])) fp) ([]++a5h fp s7.heap) (own2++capd σ (caps.map (·.1))) H' s'∧tn2 j s'.heap∧(∀ b∈fp2,H' b=none)∧W2 j n2 ys2 own2 H') ?_ m2 ⟨0,ys,own1,H10,ho8,I10,st10,fun b hb=>(f10 b hb).1,w2⟩
     rintro n2 s11 ⟨j,ys2,own2,H11,ho11,I11,st11,fr11,w11⟩;rcases turn2 j n2 ys2 own2 H11 w11 with⟨stop2,m',hm',w'⟩ | ⟨go2,step2⟩
     · refine thn (T2.done (a0n X scope cl (os++caps.map (·.2)) C s3 (upd H1 D (.lst [])) fp) rfl rfl rfl hc j _ s11 _ H11 _ I11 (stat fr11) st11 stop2) fun r s12 ⟨hr,I12⟩=>?_;subst hr;refine⟨m',hm',i+1,ys2,own2,H11,ho11,I12.unpinned,T.keep _ _ _ st7 fun b hb o e=>(I12.pin (b,o) (c5u _ (c5u _ (a1x hb e)))).1,fun b hb=>?_,w'⟩;obtain⟨o,e,_⟩:=T.obj _ _ st7 b hb;exact (I12.pin (b,o) (c5u _ (c5u _ (a1x hb e)))).2.1
     · refine thn (T2.item (a0n X scope cl (os++caps.map (·.2)) C s3 (upd H1 D (.lst [])) fp) rfl rfl rfl hc j _ s11 _ H11 _ I11 (stat fr11) st11 go2) fun r s12 ⟨u2,hr,h12⟩=>?_;subst hr;refine (thn h12 fun _ s13 ⟨y2,H13,I13,r13,y13,st13,fr13⟩=>?_);have I13':=I13.pinned (stat fr13) (T2.obj _ _ st13);refine wpAny_mono (hg2 cl C s3 _ fp _ s13 _ H13 y2 u2 _ I13' r13 (step2 y2 H13 y13 ho11)) (fun _ s14 ⟨σ14,H14,I14,own3,ho14,e14,q14⟩=>?_) fun _ _ z=>z.elim;subst e14;refine wpAny_mono (he cl C s3 _ fp _ s14 _ H14 _ I14 q14) (fun xv s15 ⟨v15,H15,I15,r15,d15,l15,m15,lt15,w15⟩=>?_) fun _ _ z=>z.elim;refine wpAny_mono (a2l (X:=(a0n X scope cl (os++caps.map (·.2)) C s3 (upd H1 D (.lst [])) fp)) _ s15 _ H15 (.ref D) [v15] (.ref D) [xv] (fun _ H10=>H10=upd H15 D (.lst (ys2++[v15]))) I15 rfl (.cons r15 .nil) ⟨D,ys2,v15,rfl,rfl,d15,l15,rfl⟩) (fun _ s16 ⟨_,H16,I16,_,e16⟩=>?_) fun _ _ z=>z.elim;subst e16;refine⟨m15,lt15,j+1,ys2++[v15],own3,_,ho14,I16.unpinned,T2.keep _ _ _ st13 fun b hb o e=>(I16.pin (b,o) (c5u _ (c5u _ (a1x hb e)))).1,fun b hb=>?_,w15⟩;obtain⟨o,e,_⟩:=T2.obj _ _ st13 b hb;exact (I16.pin (b,o) (c5u _ (c5u _ (a1x hb e)))).2.1
   exact b2g loop2 (T2.self _ 0 _ _ _ st10 loop2)
theorem c2n{tg elt iter tg2 iter2:Expr}{os:List Str}{pos:Pos}{scope:Scope}{wi wi2:TI}{g g2:TG}{te:TE}{caps:List (Nat×Str)}(hi:PI X tg iter wi)(hg:∀ cl C s0 H0 fp,PG (a0n X scope cl (os++caps.map (·.2)) C s0 H0 fp) tg g)(hi2:∀ cl C s0 H0 fp,PI (a0n X scope cl (os++caps.map (·.2)) C s0 H0 fp) tg2 iter2 wi2)(hg2:∀ cl C s0 H0 fp,PG (a0n X scope cl (os++caps.map (·.2)) C s0 H0 fp) tg2 g2)(he:∀ cl C s0 H0 fp,PE (a0n X scope cl (os++caps.map (·.2)) C s0 H0 fp) elt te)(hfree:∀ y∈scope.names,y.2=.free→X.env.kindOf y.1=some .cell)(hcap:∀ p∈caps,X.N[p.1]?=some p.2∧X.env.kindOf p.2=some .cell∧((relabel scope X.env).names.lookup p.2=some .cell∨(relabel scope X.env).names.lookup p.2=some .free))(hkind:scope.kind=.function)(hcell:∀ y∈scope.names,y.2≠.cell)(hnames:∀ y∈scope.names,y.2=.local→scope.names.lookup y.1=some .local)(hc:X.calm=true)(hfs:∀ v,foldedSetIterable iter X.env v=pure v)(hfs2:∀ cl C v,foldedSetIterable iter2 (compEnvC scope cl C X.env) v=pure v) :
   PE X (.ListComp elt [⟨tg,iter,[],0⟩,⟨tg2,iter2,[],0⟩] scope pos) (b7r os.length wi g wi2 g2 te (caps.map (·.1))):=by
 intro pins s σ H Q I h;rw[eval_ListComp];refine c0s (Q:=Q) (use:=none) (R:=EP X pins σ Q) hi hg hi2 hg2 he hfree hcap hkind hcell hnames hc hfs hfs2 (fun D C H5 s6 m6 I6 n6 f6 q6=>?_) I h;refine⟨m6,n6,fun h' hs'=>⟨.ref D,H5,?_,rfl,q6⟩⟩;exact I6.turned (t':=s6.toks) (fun b o hb e=>(hs'.2 b hb).trans e) f6.1 f6.2.1 f6.2.2.2.1 f6.2.2.2.2.1 f6.2.2.2.2.2
theorem c2m{tg elt iter tg2 iter2:Expr}{os:List Str}{pos:Pos}{scope:Scope}{wi wi2:TI}{g g2:TG}{te:TE}{caps:List (Nat×Str)}(N:List Str)(sc:Scope)(hi:PI X tg iter wi)(hg:∀ cl C s0 H0 fp,PG (a0n X scope cl (os++caps.map (·.2)) C s0 H0 fp) tg g)(hi2:∀ cl C s0 H0 fp,PI (a0n X scope cl (os++caps.map (·.2)) C s0 H0 fp) tg2 iter2 wi2)(hg2:∀ cl C s0 H0 fp,PG (a0n X scope cl (os++caps.map (·.2)) C s0 H0 fp) tg2 g2)(he:∀ cl C s0 H0 fp,PE (a0n X scope cl (os++caps.map (·.2)) C s0 H0 fp) elt te)(ok:a5i N sc scope caps=true)(hN:X.N=N:=by rfl)(hsc:X.env.scope=sc:=by rfl)(hc:X.calm=true:=by rfl)(hfs:∀ v,foldedSetIterable iter X.env v=pure v:=by intro _;rfl)(hfs2:∀ cl C v,foldedSetIterable iter2 (compEnvC scope cl C X.env) v=pure v:=by intro _ _ _;rfl) :
   PE X (.ListComp elt [⟨tg,iter,[],0⟩,⟨tg2,iter2,[],0⟩] scope pos) (b7r os.length wi g wi2 g2 te (caps.map (·.1))):=by
 subst hN hsc;unfold a5i at ok;simp only[c8k,List.all_eq_true,decide_eq_true_eq,Bool.or_eq_true,Bool.not_eq_true',decide_eq_false_iff_not] at ok;obtain⟨⟨h1,h2⟩,h3⟩:=ok;refine c2n hi hg hi2 hg2 he (fun y hy hf=>?_) (fun p hp=>?_) h1 (fun y hy=>(h2 y hy).1.1) (fun y hy hl=>?_) hc hfs hfs2
 · rcases (h2 y hy).1.2 with z | z
   · exact absurd hf z
   · exact z
 · obtain⟨⟨a,b⟩,c⟩:=h3 p hp;exact⟨a,b,a4h c⟩
 · rcases (h2 y hy).2 with z | z
   · exact absurd hl z
   · exact z
end
structure LsV(H1 H2:Hp)(D:Addr)(ys:List V)(R:Nat→List V→Hp→Prop):Prop where
 get:∀ (i:Nat) (v:V),ys[i]?=some v→∃ (l:Addr) (xs:List V),v=V.ref l∧H1 l=none∧l≠D∧H2 l=some (HO.lst xs)∧R i xs H2
 one:∀ (i j:Nat) (v:V),ys[i]?=some v→ys[j]?=some v→i=j
section
variable {K:c5k} {J:It} {H1:Hp} {te:TE} {cs:L2.St} {Q:VK} {n:Nat}
theorem compL{f:Nat→V}(hJ:a9j J H1 n f)(hn:n≤100000)(R:Nat→List V→Hp→Prop)(hR:∀ i v H H',Tup H H'→R i v H→R i v H')(he:∀ i H2 (k:VK),i<n→Same H1 H2→(∀ l xs H3,Same H2 H3→H2 l=none→H3 l=some (.lst xs)→R i xs H3→k (.ref l) H3)→te (some (f i)::cs) H2 k)(hq:∀ D ys H2,H1 D=none→Same H1 H2→H2 D=some (.lst ys)→ys.length=n→LsV H1 H2 D ys R→Q (.ref D) H2) :
   a4o 1 J H1 (a3u 0) te cs Q:=by
 intro D hD;refine⟨fun i m ys H2=>m=n - i∧i≤n∧ys.length=i∧Same H1 H2∧H2 D=some (.lst ys)∧LsV H1 H2 D ys R,⟨n,by simp,c7c _,rfl,Same.new hD,a0d,⟨fun j v e=>by simp at e,fun i j v e=>by simp at e⟩⟩,?_⟩;rintro i m ys H2 ⟨rfl,hi,hl,s2,d2,r2⟩;by_cases hlt:i<n
 · refine .inr ⟨((hJ H2 s2 i).1 hlt).1,fun x H' y own ho=>?_⟩;obtain⟨rfl,rfl⟩:=((hJ H2 s2 i).1 hlt).2 x H' y;cases own with
   | nil=>cases ho
   | cons o1 r=>
     cases r with
     | cons _ _=>cases ho
     | nil=>
       refine⟨⟨[some (f i)],rfl,rfl⟩,he i _ _ hlt s2 fun l xs H3 s3 hl0 hl3 r3=>⟨s3 _ _ d2,a0o (by omega),n - (i+1),by omega,rfl,hlt,by rw[c5n,hl];rfl,fun b o e=>?_,a0d,?_⟩⟩
       · rw[a0m (a0t e hD)];exact s3 _ _ (s2 _ _ e)
       · have t3:Tup H3 (upd H3 D (.lst (ys++[V.ref l]))):=Tup.lst (s3 _ _ d2);have nD:l≠D:=fun e=>by rw[e,d2] at hl0;cases hl0
         have snocc:∀ j w,(ys++[V.ref l])[j]?=some w→(ys[j]?=some w∧j<i)∨(j=i∧w=V.ref l):=fun j w e=>by
           by_cases hj:j<ys.length
           · rw[c5y hj] at e;exact .inl ⟨e,by omega⟩
           · rw[c6d (by omega)] at e;have hj0:j - ys.length=0:=by
               cases q:j - ys.length with
               | zero=>rfl
               | succ k=>rw[q] at e;simp at e
             rw[hj0] at e;exact .inr ⟨by omega,by simpa using e.symm⟩
         refine⟨fun j w e=>?_,fun j1 j2 w e1 e2=>?_⟩
         · rcases snocc j w e with⟨e,_⟩ | ⟨rfl,rfl⟩
           · obtain⟨l',xs',rfl,a1,a2,a3,a4⟩:=r2.get j w e;exact⟨l',xs',rfl,a1,a2,by rw[a0m a2];exact s3 _ _ a3,hR _ _ _ _ (s3.tup.trans t3) a4⟩
           · exact⟨l,xs,rfl,s2.free hl0,nD,by rw[a0m nD];exact hl3,hR _ _ _ _ t3 r3⟩
         · rcases snocc j1 w e1 with⟨f1,g1⟩ | ⟨rfl,rfl⟩
           · rcases snocc j2 w e2 with⟨f2,g2⟩ | ⟨rfl,rfl⟩
             · exact r2.one j1 j2 w f1 f2
             · obtain⟨l',xs',e',a1,a2,a3,a4⟩:=r2.get j1 _ f1;cases e';rw[a3] at hl0;cases hl0
           · rcases snocc j2 _ e2 with⟨f2,g2⟩ | ⟨rfl,_⟩
             · obtain⟨l',xs',e',a1,a2,a3,a4⟩:=r2.get j2 _ f2;cases e';rw[a3] at hl0;cases hl0
             · rfl
 · have e:i=n:=by omega
   subst e;exact .inl ⟨(hJ H2 s2 i).2 rfl,hq D ys H2 hD s2 d2 hl r2⟩
end
section
variable {X:Cx}
theorem a7w(K:c5k){tg l:Expr}{tl:TE}(hl:PEi X l tl)(hK:X.K=K:=by rfl):PIi X tg l (iTup K tl):=by subst hK;exact pi_tupI hl
theorem a1l(K:c5k){tg l:Expr}{tl:TE}(hl:PEi X l tl)(hK:X.K=K:=by rfl):PIi X tg l (iList K tl):=by subst hK;exact pi_listI hl
theorem b9w{tg elt iter tg2 iter2:Expr}{os:List Str}{pos:Pos}{scope:Scope}{wi wi2:TI}{g g2:TG}{te:TE}{caps:List (Nat×Str)}(N:List Str)(sc:Scope)(hi:PIi X tg iter wi)(hg:∀ cl C s0 H0 fp,PGi (a0n X scope cl (os++caps.map (·.2)) C s0 H0 fp) tg g)(hi2:∀ cl C s0 H0 fp,PIi (a0n X scope cl (os++caps.map (·.2)) C s0 H0 fp) tg2 iter2 wi2)(hg2:∀ cl C s0 H0 fp,PGi (a0n X scope cl (os++caps.map (·.2)) C s0 H0 fp) tg2 g2)(he:∀ cl C s0 H0 fp,PEi (a0n X scope cl (os++caps.map (·.2)) C s0 H0 fp) elt te)(ok:a5i N sc scope caps=true)(hN:X.N=N:=by rfl)(hsc:X.env.scope=sc:=by rfl)(hc:X.calm=true:=by rfl)(hfs:∀ v,foldedSetIterable iter X.env v=pure v:=by intro _;rfl)(hfs2:∀ cl C v,foldedSetIterable iter2 (compEnvC scope cl C X.env) v=pure v:=by intro _ _ _;rfl) :
 PEi X (.ListComp elt [⟨tg,iter,[],0⟩,⟨tg2,iter2,[],0⟩] scope pos) (b7r os.length wi g wi2 g2 te (caps.map (·.1))):=by with_unfolding_all exact c2m (N:=N) (sc:=sc) (hi:=hi) (hg:=hg) (hi2:=hi2) (hg2:=hg2) (he:=he) (ok:=ok) (hN:=hN) (hsc:=hsc) (hc:=hc) (hfs:=hfs) (hfs2:=hfs2)
end
theorem b1p(elt t1 i1 t2 i2 t3 i3:Expr)(scope:Scope)(pos:Pos)(it acc:Value)(env:Env) :
 compTurn (.ListComp elt [⟨t1,i1,[],0⟩,⟨t2,i2,[],0⟩,⟨t3,i3,[],0⟩] scope pos) 0 it acc env=(standAt i1.pos >>= fun _=>pyNext it >>= fun r=>match r with
   | none=>pure (.done .next)
   | some v=>letOwnedTupleGo t1 it v >>= fun _=>assign t1 env v >>= fun _=>
     eval i2 env >>= fun x=>standAt i2.pos >>= fun _=>foldedSetIterable i2 env x >>= fun x=>holding [x] (pyIter x) >>= fun it2=>
       runOwn (.compStart (.ListComp elt [⟨t1,i1,[],0⟩,⟨t2,i2,[],0⟩,⟨t3,i3,[],0⟩] scope pos) 1 it2 acc env) env >>= fun _=>
       again (.compLoop (.ListComp elt [⟨t1,i1,[],0⟩,⟨t2,i2,[],0⟩,⟨t3,i3,[],0⟩] scope pos) 0 it acc env)):=by rfl
theorem b1o(elt t1 i1 t2 i2 t3 i3:Expr)(scope:Scope)(pos:Pos)(it acc:Value)(env:Env) :
 compTurn (.ListComp elt [⟨t1,i1,[],0⟩,⟨t2,i2,[],0⟩,⟨t3,i3,[],0⟩] scope pos) 1 it acc env=(standAt i2.pos >>= fun _=>pyNext it >>= fun r=>match r with
   | none=>pure (.done .next)
   | some v=>letOwnedTupleGo t2 it v >>= fun _=>assign t2 env v >>= fun _=>
     eval i3 env >>= fun x=>standAt i3.pos >>= fun _=>foldedSetIterable i3 env x >>= fun x=>holding [x] (pyIter x) >>= fun it2=>
       runOwn (.compStart (.ListComp elt [⟨t1,i1,[],0⟩,⟨t2,i2,[],0⟩,⟨t3,i3,[],0⟩] scope pos) 2 it2 acc env) env >>= fun _=>
       again (.compLoop (.ListComp elt [⟨t1,i1,[],0⟩,⟨t2,i2,[],0⟩,⟨t3,i3,[],0⟩] scope pos) 1 it acc env)):=by rfl
theorem b1n(elt t1 i1 t2 i2 t3 i3:Expr)(scope:Scope)(pos:Pos)(it acc:Value)(env:Env) :
 compTurn (.ListComp elt [⟨t1,i1,[],0⟩,⟨t2,i2,[],0⟩,⟨t3,i3,[],0⟩] scope pos) 2 it acc env=(standAt i3.pos >>= fun _=>pyNext it >>= fun r=>match r with
   | none=>pure (.done .next)
   | some v=>letOwnedTupleGo t3 it v >>= fun _=>assign t3 env v >>= fun _=>
     (eval elt env >>= fun x=>call (.builtin "list.append") [acc,x] >>= fun _=>pure ()) >>= fun _=>
       again (.compLoop (.ListComp elt [⟨t1,i1,[],0⟩,⟨t2,i2,[],0⟩,⟨t3,i3,[],0⟩] scope pos) 2 it acc env)):=by rfl
section
variable {prog:Program} {w:World} {A:Around} {R:Result→Shared→Prop} {s:Shared}
theorem a9q{elt t1 i1 t2 i2 t3 i3:Expr}{scope:Scope}{pos:Pos}{it acc:Value}{env:Env}(h0:codeAny (model prog w) A (.compLoop (.ListComp elt [⟨t1,i1,[],0⟩,⟨t2,i2,[],0⟩,⟨t3,i3,[],0⟩] scope pos) 1 it acc env) R s)(h:wpAny (model prog w) A (pyIter it) (fun it' s'=>codeAny (model prog w) A (.compLoop (.ListComp elt [⟨t1,i1,[],0⟩,⟨t2,i2,[],0⟩,⟨t3,i3,[],0⟩] scope pos) 1 it' acc env) R s')
     (notedBy (model prog w) A env fun x s'=>R (.error x) s') s) :
   codeAny (model prog w) A (.compStart (.ListComp elt [⟨t1,i1,[],0⟩,⟨t2,i2,[],0⟩,⟨t3,i3,[],0⟩] scope pos) 1 it acc env) R s:=by
 refine codeAny_of_tree ?_;show wpAny _ _ ((compStart (.ListComp elt [⟨t1,i1,[],0⟩,⟨t2,i2,[],0⟩,⟨t3,i3,[],0⟩] scope pos) 1 it acc env).onRaise (fun x=>do noteFrame x env;standAt theWindowsPlace)) _ _ s;refine wpAny_notedAt ?_;unfold compStart;show wpAny _ _ (ask >>= _) _ _ s;refine wpAny_bind (wpAny_askSetting (wpAny_ite ?_));split
 · first
     | exact wpAny_bind (wpAny_pure (wpAny_pure (And.intro rfl h0)))
     | exact wpAny_pure (And.intro rfl h0)
 · first
     | exact wpAny_bind (wpAny_rule (wpAny_bind (wpAny_standAt (wpAny_bind (wpAny_mono h (fun it' s' h'=>wpAny_pure (And.intro rfl h')) fun _ _ x=>x)))))
     | (refine wpAny_bind (wpAny_rule ?_);show wpAny _ _ (standAt i2.pos >>= _) _ _ s;exact wpAny_bind (wpAny_standAt (wpAny_bind (wpAny_mono h (fun it' s' h'=>wpAny_pure (And.intro rfl h')) fun _ _ x=>x))))
theorem a9p{elt t1 i1 t2 i2 t3 i3:Expr}{scope:Scope}{pos:Pos}{it acc:Value}{env:Env}(h0:codeAny (model prog w) A (.compLoop (.ListComp elt [⟨t1,i1,[],0⟩,⟨t2,i2,[],0⟩,⟨t3,i3,[],0⟩] scope pos) 2 it acc env) R s)(h:wpAny (model prog w) A (pyIter it) (fun it' s'=>codeAny (model prog w) A (.compLoop (.ListComp elt [⟨t1,i1,[],0⟩,⟨t2,i2,[],0⟩,⟨t3,i3,[],0⟩] scope pos) 2 it' acc env) R s')
     (notedBy (model prog w) A env fun x s'=>R (.error x) s') s) :
   codeAny (model prog w) A (.compStart (.ListComp elt [⟨t1,i1,[],0⟩,⟨t2,i2,[],0⟩,⟨t3,i3,[],0⟩] scope pos) 2 it acc env) R s:=by
 refine codeAny_of_tree ?_;show wpAny _ _ ((compStart (.ListComp elt [⟨t1,i1,[],0⟩,⟨t2,i2,[],0⟩,⟨t3,i3,[],0⟩] scope pos) 2 it acc env).onRaise (fun x=>do noteFrame x env;standAt theWindowsPlace)) _ _ s;refine wpAny_notedAt ?_;unfold compStart;show wpAny _ _ (ask >>= _) _ _ s;refine wpAny_bind (wpAny_askSetting (wpAny_ite ?_));split
 · first
     | exact wpAny_bind (wpAny_pure (wpAny_pure (And.intro rfl h0)))
     | exact wpAny_pure (And.intro rfl h0)
 · first
     | exact wpAny_bind (wpAny_rule (wpAny_bind (wpAny_standAt (wpAny_bind (wpAny_mono h (fun it' s' h'=>wpAny_pure (And.intro rfl h')) fun _ _ x=>x)))))
     | (refine wpAny_bind (wpAny_rule ?_);show wpAny _ _ (standAt i3.pos >>= _) _ _ s;exact wpAny_bind (wpAny_standAt (wpAny_bind (wpAny_mono h (fun it' s' h'=>wpAny_pure (And.intro rfl h')) fun _ _ x=>x))))
theorem b1q{elt t1 i1 t2 i2 t3 i3:Expr}{scope:Scope}{pos:Pos}{it acc:Value}{env:Env}(I:Nat→Shared→Prop)(turn:∀ n s,I n s→wpAny (model prog w) A (pyNext it) (fun r s₁=>match r with
     | none=>R (.ok .next) s₁
     | some v=>wpAny (model prog w) A (letOwnedTupleGo t3 it v) (fun _ s₁'=>wpAny (model prog w) A (assign t3 env v) (fun _ s₂=>wpAny (model prog w) A (eval elt env) (fun x s₃=>
         wpAny (model prog w) A (call (.builtin "list.append") [acc,x]) (fun _ s₄=>∃ m,m<n∧I m s₄) (notedBy (model prog w) A env fun e s'=>R (.error e) s') s₃)
         (notedBy (model prog w) A env fun e s'=>R (.error e) s') s₂) (notedBy (model prog w) A env fun e s'=>R (.error e) s') s₁') (notedBy (model prog w) A env fun e s'=>R (.error e) s') s₁) (notedBy (model prog w) A env fun e s'=>R (.error e) s') s)(n:Nat)(h:I n s) :
   codeAny (model prog w) A (.compLoop (.ListComp elt [⟨t1,i1,[],0⟩,⟨t2,i2,[],0⟩,⟨t3,i3,[],0⟩] scope pos) 2 it acc env) R s:=by
 refine codeAny_loop rfl I (fun n s hI=>?_) n h;show wpAny _ _ ((compTurn (.ListComp elt [⟨t1,i1,[],0⟩,⟨t2,i2,[],0⟩,⟨t3,i3,[],0⟩] scope pos) 2 it acc env).onRaise (fun x=>do noteFrame x env;theTreesLotGoes x)) _ _ s;refine wpAny_noted ?_;rw[b1n];refine wpAny_bind (wpAny_standAt (wpAny_bind (wpAny_mono (turn n s hI) (fun r s₁ h₁=>?_) fun _ _ h'=>h')));cases r with
 | none=>exact wpAny_pure h₁
 | some v=>
   refine wpAny_bind (wpAny_mono h₁ (fun _ s₁' h₁'=>?_) fun _ _ h'=>h');exact wpAny_bind (wpAny_mono h₁' (fun _ s₂ h₂=>wpAny_bind (wpAny_bind (wpAny_mono h₂ (fun x s₃ h₃=>wpAny_bind (wpAny_mono h₃
     (fun _ s₄ h₄=>wpAny_pure (wpAny_pure ⟨rfl,h₄⟩)) fun _ _ h'=>h')) fun _ _ h'=>h'))) fun _ _ h'=>h')
theorem b1s{elt t1 i1 t2 i2 t3 i3:Expr}{scope:Scope}{pos:Pos}{it acc:Value}{env:Env}(I:Nat→Shared→Prop)(hfs:∀ v,foldedSetIterable i2 env v=pure v)(turn:∀ n s,I n s→wpAny (model prog w) A (pyNext it) (fun r s₁=>match r with
     | none=>R (.ok .next) s₁
     | some v=>wpAny (model prog w) A (letOwnedTupleGo t1 it v) (fun _ s₁'=>wpAny (model prog w) A (assign t1 env v) (fun _ s₂=>wpAny (model prog w) A (eval i2 env) (fun x s₃=>
         wpAny (model prog w) A (pyIter x) (fun it2 s₄=>codeAny (model prog w) A (.compStart (.ListComp elt [⟨t1,i1,[],0⟩,⟨t2,i2,[],0⟩,⟨t3,i3,[],0⟩] scope pos) 1 it2 acc env) (fun r s'=>match r with | .ok _=>∃ m,m<n∧I m s' | .error e=>cameBackBy (model prog w) A env (notedBy (model prog w) A env fun e s'=>R (.error e) s') e s') s₄) (notedBy (model prog w) A env fun e s'=>R (.error e) s') s₃)
         (notedBy (model prog w) A env fun e s'=>R (.error e) s') s₂) (notedBy (model prog w) A env fun e s'=>R (.error e) s') s₁') (notedBy (model prog w) A env fun e s'=>R (.error e) s') s₁) (notedBy (model prog w) A env fun e s'=>R (.error e) s') s)(n:Nat)(h:I n s) :
   codeAny (model prog w) A (.compLoop (.ListComp elt [⟨t1,i1,[],0⟩,⟨t2,i2,[],0⟩,⟨t3,i3,[],0⟩] scope pos) 0 it acc env) R s:=by
 refine codeAny_loop rfl I (fun n s hI=>?_) n h;show wpAny _ _ ((compTurn (.ListComp elt [⟨t1,i1,[],0⟩,⟨t2,i2,[],0⟩,⟨t3,i3,[],0⟩] scope pos) 0 it acc env).onRaise (fun x=>do noteFrame x env;theTreesLotGoes x)) _ _ s;refine wpAny_noted ?_;rw[b1p];refine wpAny_bind (wpAny_standAt (wpAny_bind (wpAny_mono (turn n s hI) (fun r s₁ h₁=>?_) fun _ _ h'=>h')));cases r with
 | none=>exact wpAny_pure h₁
 | some v=>
   refine wpAny_bind (wpAny_mono h₁ (fun _ s₁' h₁'=>?_) fun _ _ h'=>h');refine wpAny_bind (wpAny_mono h₁' (fun _ s₂ h₂=>?_) fun _ _ h'=>h');refine wpAny_bind (wpAny_mono h₂ (fun x s₃ h₃=>?_) fun _ _ h'=>h');refine wpAny_bind (wpAny_standAt (wpAny_bind (wpAny_of_eq (hfs x) (wpAny_bind (wpAny_holding (wpAny_mono h₃ (fun it2 s₄ h₄=>?_) fun _ _ h'=>h'))))));refine wpAny_bind (wpAny_runOwn (codeAny_mono h₄ fun r s' h'=>?_));cases r with
   | ok f=>exact wpAny_pure ⟨rfl,h'⟩
   | error e=>exact h'
theorem b1r{elt t1 i1 t2 i2 t3 i3:Expr}{scope:Scope}{pos:Pos}{it acc:Value}{env:Env}(I:Nat→Shared→Prop)(hfs:∀ v,foldedSetIterable i3 env v=pure v)(turn:∀ n s,I n s→wpAny (model prog w) A (pyNext it) (fun r s₁=>match r with
     | none=>R (.ok .next) s₁
     | some v=>wpAny (model prog w) A (letOwnedTupleGo t2 it v) (fun _ s₁'=>wpAny (model prog w) A (assign t2 env v) (fun _ s₂=>wpAny (model prog w) A (eval i3 env) (fun x s₃=>
         wpAny (model prog w) A (pyIter x) (fun it2 s₄=>codeAny (model prog w) A (.compStart (.ListComp elt [⟨t1,i1,[],0⟩,⟨t2,i2,[],0⟩,⟨t3,i3,[],0⟩] scope pos) 2 it2 acc env) (fun r s'=>match r with | .ok _=>∃ m,m<n∧I m s' | .error e=>cameBackBy (model prog w) A env (notedBy (model prog w) A env fun e s'=>R (.error e) s') e s') s₄) (notedBy (model prog w) A env fun e s'=>R (.error e) s') s₃)
         (notedBy (model prog w) A env fun e s'=>R (.error e) s') s₂) (notedBy (model prog w) A env fun e s'=>R (.error e) s') s₁') (notedBy (model prog w) A env fun e s'=>R (.error e) s') s₁) (notedBy (model prog w) A env fun e s'=>R (.error e) s') s)(n:Nat)(h:I n s) :
   codeAny (model prog w) A (.compLoop (.ListComp elt [⟨t1,i1,[],0⟩,⟨t2,i2,[],0⟩,⟨t3,i3,[],0⟩] scope pos) 1 it acc env) R s:=by
 refine codeAny_loop rfl I (fun n s hI=>?_) n h;show wpAny _ _ ((compTurn (.ListComp elt [⟨t1,i1,[],0⟩,⟨t2,i2,[],0⟩,⟨t3,i3,[],0⟩] scope pos) 1 it acc env).onRaise (fun x=>do noteFrame x env;theTreesLotGoes x)) _ _ s;refine wpAny_noted ?_;rw[b1o];refine wpAny_bind (wpAny_standAt (wpAny_bind (wpAny_mono (turn n s hI) (fun r s₁ h₁=>?_) fun _ _ h'=>h')));cases r with
 | none=>exact wpAny_pure h₁
 | some v=>
   refine wpAny_bind (wpAny_mono h₁ (fun _ s₁' h₁'=>?_) fun _ _ h'=>h');refine wpAny_bind (wpAny_mono h₁' (fun _ s₂ h₂=>?_) fun _ _ h'=>h');refine wpAny_bind (wpAny_mono h₂ (fun x s₃ h₃=>?_) fun _ _ h'=>h');refine wpAny_bind (wpAny_standAt (wpAny_bind (wpAny_of_eq (hfs x) (wpAny_bind (wpAny_holding (wpAny_mono h₃ (fun it2 s₄ h₄=>?_) fun _ _ h'=>h'))))));refine wpAny_bind (wpAny_runOwn (codeAny_mono h₄ fun r s' h'=>?_));cases r with
   | ok f=>exact wpAny_pure ⟨rfl,h'⟩
   | error e=>exact h'
end
noncomputable def b6e(k:Nat)(J:It)(H1:Hp)(g:TG)(wi2:TI)(g2:TG)(wi3:TI)(g3:TG)(te:TE)(cs:L2.St)(Q:VK):Prop:=∀ D,H1 D=none→∃ W:Nat→Nat→List V→Hp→Prop,(∃ m,W 0 m [] (upd H1 D (.lst [])))∧
 ∀ i m ys H2,W i m ys H2→(J.stop i H2∧Q (.ref D) H2)∨(J.go i H2∧∀ x H',J.yld i H2 x H'→∀ own:L2.St,own.length=k→g x (own++cs) H' fun σ2 H4=>∃ own1:L2.St,own1.length=k∧σ2=own1++cs∧
   wi2 σ2 H4 fun J2 H5=>∃ W2:Nat→Nat→List V→L2.St→Hp→Prop,(∃ m2,W2 0 m2 ys own1 H5)∧
     ∀ j m2 ys2 own2 H6,W2 j m2 ys2 own2 H6→(J2.stop j H6∧∃ m',m' < m∧W (i+1) m' ys2 H6)∨(J2.go j H6∧∀ x2 H7,J2.yld j H6 x2 H7→own2.length=k→g2 x2 (own2++cs) H7 fun σ2 H4=>∃ own3:L2.St,own3.length=k∧σ2=own3++cs∧
       wi3 σ2 H4 fun J3 H8=>∃ W3:Nat→Nat→List V→L2.St→Hp→Prop,(∃ m3,W3 0 m3 ys2 own3 H8)∧
         ∀ l m3 ys3 own4 H9,W3 l m3 ys3 own4 H9→(J3.stop l H9∧∃ m',m' < m2∧W2 (j+1) m' ys3 own4 H9)∨(J3.go l H9∧∀ x3 H10,J3.yld l H9 x3 H10→own4.length=k→g3 x3 (own4++cs) H10 fun σ2 H4=>∃ own5:L2.St,own5.length=k∧σ2=own5++cs∧
           te σ2 H4 fun v H3=>H3 D=some (.lst ys3)∧ys3.length<sizeLine∧∃ m',m' < m3∧W3 (l+1) m' (ys3++[v]) own5 (upd H3 D (.lst (ys3++[v]))))))
noncomputable def b7q(k:Nat)(wi:TI)(g:TG)(wi2:TI)(g2:TG)(wi3:TI)(g3:TG)(te:TE)(ix:List Nat):TE:=fun σ H Q=>wi σ H fun J H1=>b6e k J H1 g wi2 g2 wi3 g3 te (capd σ ix) Q
section
variable {X:Cx}
theorem c0r{tg elt iter tg2 iter2 tg3 iter3:Expr}{os:List Str}{pos ipos:Pos}{scope:Scope}{wi wi2 wi3:TI}{g g2 g3:TG}{te:TE}{caps:List (Nat×Str)}{pins:List (Addr×Obj)}{s:Shared}{σ:L2.St}{H:Hp}{Q:VK}{use:Option (Value→Sem Unit)}{R:Value→Shared→Prop}(hi:PI X tg iter wi)(hg:∀ cl C s0 H0 fp,PG (a0n X scope cl (os++caps.map (·.2)) C s0 H0 fp) tg g)(hi2:∀ cl C s0 H0 fp,PI (a0n X scope cl (os++caps.map (·.2)) C s0 H0 fp) tg2 iter2 wi2)(hg2:∀ cl C s0 H0 fp,PG (a0n X scope cl (os++caps.map (·.2)) C s0 H0 fp) tg2 g2)(hi3:∀ cl C s0 H0 fp,PI (a0n X scope cl (os++caps.map (·.2)) C s0 H0 fp) tg3 iter3 wi3)(hg3:∀ cl C s0 H0 fp,PG (a0n X scope cl (os++caps.map (·.2)) C s0 H0 fp) tg3 g3)(he:∀ cl C s0 H0 fp,PE (a0n X scope cl (os++caps.map (·.2)) C s0 H0 fp) elt te)(hfree:∀ y∈scope.names,y.2=.free→X.env.kindOf y.1=some .cell)(hcap:∀ p∈caps,X.N[p.1]?=some p.2∧X.env.kindOf p.2=some .cell∧((relabel scope X.env).names.lookup p.2=some .cell∨(relabel scope X.env).names.lookup p.2=some .free))(hkind:scope.kind=.function)(hcell:∀ y∈scope.names,y.2≠.cell)(hnames:∀ y∈scope.names,y.2=.local→scope.names.lookup y.1=some .local)(hc:X.calm=true)(hfs:∀ v,foldedSetIterable iter X.env v=pure v)(hfs2:∀ cl C v,foldedSetIterable iter2 (compEnvC scope cl C X.env) v=pure v)(hfs3:∀ cl C v,foldedSetIterable iter3 (compEnvC scope cl C X.env) v=pure v)(hfin:∀ D C H5 s6 m6,Inv X pins σ H5 s6→s6.heap.Ns C m6→FpOk X pins H5 C→Q (.ref D) H5→compPost (model X.prog X.w) X.A X.xe use R (.ref D) C (.ok .next) s6)(I:Inv X pins σ H s)(h:b7q os.length wi g wi2 g2 wi3 g3 te (caps.map (·.1)) σ H Q) :
   wpAny (model X.prog X.w) X.A (comprehension (.ListComp elt [⟨tg,iter,[],0⟩,⟨tg2,iter2,[],0⟩,⟨tg3,iter3,[],0⟩] scope pos) scope X.env ipos (newList []) false (eval iter X.env) use) R X.xe s:=by
 refine b4a (os:=os) (caps:=caps) hi hfree hcap hkind hcell hnames hc hfs hfin I h (fun cl C s3 fp it tn J H1 D s4 ⟨W,⟨m0,w0⟩,turn⟩ T Ic st4 fp0 fpc fin=>?_);refine b1s (R:=compPost (model X.prog X.w) X.A X.xe use R (.ref D) C) (fun n s'=>∃ i ys own H',own.length=os.length∧Inv (a0n X scope cl (os++caps.map (·.2)) C s3 (upd H1 D (.lst [])) fp) [] (own++capd σ (caps.map (·.1))) H' s'∧tn i s'.heap∧(∀ b∈fp,H' b=none)∧W i n ys H') (hfs2 cl C) ?_ m0 ⟨0,[],c5q os.length none,_,c7i,Ic,st4,fp0,w0⟩;rintro n s5 ⟨i,ys,own,H5,ho5,I5,st5,fr5,w5⟩;rcases turn i n ys H5 w5 with⟨stop,qn⟩ | ⟨go,step⟩
 · refine thn (T.done (a0n X scope cl (os++caps.map (·.2)) C s3 (upd H1 D (.lst [])) fp) rfl rfl rfl hc i [] s5 _ H5 _ I5 (fpc H5 fr5) st5 stop) fun r s6 ⟨hr,I6⟩=>?_;subst hr;exact fin _ _ _ I6 qn
 · refine thn (T.item (a0n X scope cl (os++caps.map (·.2)) C s3 (upd H1 D (.lst [])) fp) rfl rfl rfl hc i [] s5 _ H5 _ I5 (fpc H5 fr5) st5 go) fun r s6 ⟨u,hr,h6⟩=>?_;subst hr;refine (thn h6 fun _ s7 ⟨y,H7,I7,r7,y7,st7,fr7⟩=>?_);have I7':=I7.pinned (fpc H7 fr7) (T.obj _ _ st7);refine wpAny_mono (hg cl C s3 _ fp _ s7 _ H7 y u _ I7' r7 (step y H7 y7 own ho5)) (fun _ s8 ⟨σ8,H8,I8,own1,ho8,e8,q8⟩=>?_) fun _ _ z=>z.elim;subst e8;refine wpAny_mono (hi2 cl C s3 _ fp _ s8 _ H8 _ I8 q8) (fun v2 s9 h9=>?_) fun _ _ z=>z.elim;refine wpAny_mono h9 (fun itv2 s10 h10=>?_) fun _ _ z=>z.elim;obtain⟨it2,fp2,tn2,J2,H10,rfl,I10,T2,st10,f10,W2,⟨m2,w2⟩,turn2⟩:=h10;have stat:∀ {H':Hp},(∀ b∈fp2,H' b=none)→∀ b∈fp2,FpOk (a0n X scope cl (os++caps.map (·.2)) C s3 (upd H1 D (.lst [])) fp) ([]++a5h fp s7.heap) H' b:=fun hn b hb=>⟨hn b hb,(f10 b hb).2⟩
   have loop2:codeAny (model X.prog X.w) X.A (.compLoop (.ListComp elt [⟨tg,iter,[],0⟩,⟨tg2,iter2,[],0⟩,⟨tg3,iter3,[],0⟩] scope pos) 1 (.ref it2) (.ref D) (compEnvC scope cl C X.env)) (fun r s'=>match r with
       | .ok _=>∃ m,m<n∧∃ i ys own H',own.length=os.length∧Inv (a0n X scope cl (os++caps.map (·.2)) C s3 (upd H1 D (.lst [])) fp) [] (own++capd σ (caps.map (·.1))) H' s'∧tn i s'.heap∧(∀ b∈fp,H' b=none)∧W i m ys H'
       | .error e=>cameBackBy (model X.prog X.w) X.A (compEnvC scope cl C X.env) (notedBy (model X.prog X.w) X.A (compEnvC scope cl C X.env) fun e s'=>compPost (model X.prog X.w) X.A X.xe use R (.ref D) C (.error e) s') e s') s10:=by
     refine b1r (R:=fun r s'=>match r with
       | .ok _=>∃ m,m<n∧∃ i ys own H',own.length=os.length∧Inv (a0n X scope cl (os++caps.map (·.2)) C s3 (upd H1 D (.lst [])) fp) [] (own++capd σ (caps.map (·.1))) H' s'∧tn i s'.heap∧(∀ b∈fp,H' b=none)∧W i m ys H'
       | .error e=>cameBackBy (model X.prog X.w) X.A (compEnvC scope cl C X.env) (notedBy (model X.prog X.w) X.A (compEnvC scope cl C X.env) fun e s'=>compPost (model X.prog X.w) X.A X.xe use R (.ref D) C (.error e) s') e s')
       (fun n2 s'=>∃ j ys2 own2 H',own2.length=os.length∧Inv (a0n X scope cl (os++caps.map (·.2)) C s3 (upd H1 D (.lst [])) fp) ([]++a5h fp s7.heap) (own2++capd σ (caps.map (·.1))) H' s'∧tn2 j s'.heap∧(∀ b∈fp2,H' b=none)∧W2 j n2 ys2 own2 H') (hfs3 cl C) ?_ m2 ⟨0,ys,own1,H10,ho8,I10,st10,fun b hb=>(f10 b hb).1,w2⟩
     rintro n2 s11 ⟨j,ys2,own2,H11,ho11,I11,st11,fr11,w11⟩;rcases turn2 j n2 ys2 own2 H11 w11 with⟨stop2,m',hm',w'⟩ | ⟨go2,step2⟩
     · refine thn (T2.done (a0n X scope cl (os++caps.map (·.2)) C s3 (upd H1 D (.lst [])) fp) rfl rfl rfl hc j _ s11 _ H11 _ I11 (stat fr11) st11 stop2) fun r s12 ⟨hr,I12⟩=>?_;subst hr;refine⟨m',hm',i+1,ys2,own2,H11,ho11,I12.unpinned,T.keep _ _ _ st7 fun b hb o e=>(I12.pin (b,o) (c5u _ (c5u _ (a1x hb e)))).1,fun b hb=>?_,w'⟩;obtain⟨o,e,_⟩:=T.obj _ _ st7 b hb;exact (I12.pin (b,o) (c5u _ (c5u _ (a1x hb e)))).2.1
     · refine thn (T2.item (a0n X scope cl (os++caps.map (·.2)) C s3 (upd H1 D (.lst [])) fp) rfl rfl rfl hc j _ s11 _ H11 _ I11 (stat fr11) st11 go2) fun r s12 ⟨u2,hr,h12⟩=>?_;subst hr;refine (thn h12 fun _ s13 ⟨y2,H13,I13,r13,y13,st13,fr13⟩=>?_);have I13':=I13.pinned (stat fr13) (T2.obj _ _ st13);refine wpAny_mono (hg2 cl C s3 _ fp _ s13 _ H13 y2 u2 _ I13' r13 (step2 y2 H13 y13 ho11)) (fun _ s14 ⟨σ14,H14,I14,own3,ho14,e14,q14⟩=>?_) fun _ _ z=>z.elim;subst e14;refine wpAny_mono (hi3 cl C s3 _ fp _ s14 _ H14 _ I14 q14) (fun v3 s15 h15=>?_) fun _ _ z=>z.elim;refine wpAny_mono h15 (fun itv3 s16 h16=>?_) fun _ _ z=>z.elim;obtain⟨it3,fp3,tn3,J3,H16,rfl,I16,T3,st16,f16,W3,⟨m3,w3⟩,turn3⟩:=h16;have stat3:∀ {H':Hp},(∀ b∈fp3,H' b=none)→∀ b∈fp3,FpOk (a0n X scope cl (os++caps.map (·.2)) C s3 (upd H1 D (.lst [])) fp) ([]++a5h fp s7.heap++a5h fp2 s13.heap) H' b:=fun hn b hb=>⟨hn b hb,(f16 b hb).2⟩
       have loop3:codeAny (model X.prog X.w) X.A (.compLoop (.ListComp elt [⟨tg,iter,[],0⟩,⟨tg2,iter2,[],0⟩,⟨tg3,iter3,[],0⟩] scope pos) 2 (.ref it3) (.ref D) (compEnvC scope cl C X.env)) (fun r s'=>match r with
         | .ok _=>∃ m,m<n2∧∃ j ys2 own2 H',own2.length=os.length∧Inv (a0n X scope cl (os++caps.map (·.2)) C s3 (upd H1 D (.lst [])) fp) ([]++a5h fp s7.heap) (own2++capd σ (caps.map (·.1))) H' s'∧tn2 j s'.heap∧(∀ b∈fp2,H' b=none)∧W2 j m ys2 own2 H'
         | .error e=>cameBackBy (model X.prog X.w) X.A (compEnvC scope cl C X.env) (notedBy (model X.prog X.w) X.A (compEnvC scope cl C X.env) fun e s'=>(fun (r:Result) (s':Shared)=>match r with           | .ok _=>∃ m,m<n∧∃ i ys own H',own.length=os.length∧Inv (a0n X scope cl (os++caps.map (·.2)) C s3 (upd H1 D (.lst [])) fp) [] (own++capd σ (caps.map (·.1))) H' s'∧tn i s'.heap∧(∀ b∈fp,H' b=none)∧W i m ys H'           | .error e=>cameBackBy (model X.prog X.w) X.A (compEnvC scope cl C X.env) (notedBy (model X.prog X.w) X.A (compEnvC scope cl C X.env) fun e s'=>compPost (model X.prog X.w) X.A X.xe use R (.ref D) C (.error e) s') e s') (.error e) s') e s') s16:=by
         refine b1q (R:=fun r s'=>match r with
         | .ok _=>∃ m,m<n2∧∃ j ys2 own2 H',own2.length=os.length∧Inv (a0n X scope cl (os++caps.map (·.2)) C s3 (upd H1 D (.lst [])) fp) ([]++a5h fp s7.heap) (own2++capd σ (caps.map (·.1))) H' s'∧tn2 j s'.heap∧(∀ b∈fp2,H' b=none)∧W2 j m ys2 own2 H'
         | .error e=>cameBackBy (model X.prog X.w) X.A (compEnvC scope cl C X.env) (notedBy (model X.prog X.w) X.A (compEnvC scope cl C X.env) fun e s'=>(fun (r:Result) (s':Shared)=>match r with           | .ok _=>∃ m,m<n∧∃ i ys own H',own.length=os.length∧Inv (a0n X scope cl (os++caps.map (·.2)) C s3 (upd H1 D (.lst [])) fp) [] (own++capd σ (caps.map (·.1))) H' s'∧tn i s'.heap∧(∀ b∈fp,H' b=none)∧W i m ys H'           | .error e=>cameBackBy (model X.prog X.w) X.A (compEnvC scope cl C X.env) (notedBy (model X.prog X.w) X.A (compEnvC scope cl C X.env) fun e s'=>compPost (model X.prog X.w) X.A X.xe use R (.ref D) C (.error e) s') e s') (.error e) s') e s')
           (fun n3 s'=>∃ l ys3 own4 H',own4.length=os.length∧Inv (a0n X scope cl (os++caps.map (·.2)) C s3 (upd H1 D (.lst [])) fp) ([]++a5h fp s7.heap++a5h fp2 s13.heap) (own4++capd σ (caps.map (·.1))) H' s'∧tn3 l s'.heap∧(∀ b∈fp3,H' b=none)∧W3 l n3 ys3 own4 H') ?_ m3 ⟨0,ys2,own3,H16,ho14,I16,st16,fun b hb=>(f16 b hb).1,w3⟩
         rintro n3 s17 ⟨l,ys3,own4,H17,ho17,I17,st17,fr17,w17⟩;rcases turn3 l n3 ys3 own4 H17 w17 with⟨stop3,m',hm',w'⟩ | ⟨go3,step3⟩
         · refine thn (T3.done (a0n X scope cl (os++caps.map (·.2)) C s3 (upd H1 D (.lst [])) fp) rfl rfl rfl hc l _ s17 _ H17 _ I17 (stat3 fr17) st17 stop3) fun r s18 ⟨hr,I18⟩=>?_;subst hr;refine⟨m',hm',j+1,ys3,own4,H17,ho17,I18.unpinned,T2.keep _ _ _ st13 fun b hb o e=>(I18.pin (b,o) (c5u _ (c5u _ (a1x hb e)))).1,fun b hb=>?_,w'⟩;obtain⟨o,e,_⟩:=T2.obj _ _ st13 b hb;exact (I18.pin (b,o) (c5u _ (c5u _ (a1x hb e)))).2.1
         · refine thn (T3.item (a0n X scope cl (os++caps.map (·.2)) C s3 (upd H1 D (.lst [])) fp) rfl rfl rfl hc l _ s17 _ H17 _ I17 (stat3 fr17) st17 go3) fun r s18 ⟨u3,hr,h18⟩=>?_;subst hr;refine (thn h18 fun _ s19 ⟨y3,H19,I19,r19,y19,st19,fr19⟩=>?_);have I19':=I19.pinned (stat3 fr19) (T3.obj _ _ st19);refine wpAny_mono (hg3 cl C s3 _ fp _ s19 _ H19 y3 u3 _ I19' r19 (step3 y3 H19 y19 ho17)) (fun _ s20 ⟨σ20,H20,I20,own5,ho20,e20,q20⟩=>?_) fun _ _ z=>z.elim;subst e20;refine wpAny_mono (he cl C s3 _ fp _ s20 _ H20 _ I20 q20) (fun xv s21 ⟨v21,H21,I21,r21,d21,l21,m21,lt21,w21⟩=>?_) fun _ _ z=>z.elim;refine wpAny_mono (a2l (X:=(a0n X scope cl (os++caps.map (·.2)) C s3 (upd H1 D (.lst [])) fp)) _ s21 _ H21 (.ref D) [v21] (.ref D) [xv] (fun _ H10=>H10=upd H21 D (.lst (ys3++[v21]))) I21 rfl (.cons r21 .nil) ⟨D,ys3,v21,rfl,rfl,d21,l21,rfl⟩) (fun _ s22 ⟨_,H22,I22,_,e22⟩=>?_) fun _ _ z=>z.elim;subst e22;refine⟨m21,lt21,l+1,ys3++[v21],own5,_,ho20,I22.unpinned,T3.keep _ _ _ st19 fun b hb o e=>(I22.pin (b,o) (c5u _ (c5u _ (a1x hb e)))).1,fun b hb=>?_,w21⟩;obtain⟨o,e,_⟩:=T3.obj _ _ st19 b hb;exact (I22.pin (b,o) (c5u _ (c5u _ (a1x hb e)))).2.1
       exact a9p loop3 (T3.self _ 0 _ _ _ st16 loop3)
   exact a9q loop2 (T2.self _ 0 _ _ _ st10 loop2)
theorem c2l{tg elt iter tg2 iter2 tg3 iter3:Expr}{os:List Str}{pos:Pos}{scope:Scope}{wi wi2 wi3:TI}{g g2 g3:TG}{te:TE}{caps:List (Nat×Str)}(hi:PI X tg iter wi)(hg:∀ cl C s0 H0 fp,PG (a0n X scope cl (os++caps.map (·.2)) C s0 H0 fp) tg g)(hi2:∀ cl C s0 H0 fp,PI (a0n X scope cl (os++caps.map (·.2)) C s0 H0 fp) tg2 iter2 wi2)(hg2:∀ cl C s0 H0 fp,PG (a0n X scope cl (os++caps.map (·.2)) C s0 H0 fp) tg2 g2)(hi3:∀ cl C s0 H0 fp,PI (a0n X scope cl (os++caps.map (·.2)) C s0 H0 fp) tg3 iter3 wi3)(hg3:∀ cl C s0 H0 fp,PG (a0n X scope cl (os++caps.map (·.2)) C s0 H0 fp) tg3 g3)(he:∀ cl C s0 H0 fp,PE (a0n X scope cl (os++caps.map (·.2)) C s0 H0 fp) elt te)(hfree:∀ y∈scope.names,y.2=.free→X.env.kindOf y.1=some .cell)(hcap:∀ p∈caps,X.N[p.1]?=some p.2∧X.env.kindOf p.2=some .cell∧((relabel scope X.env).names.lookup p.2=some .cell∨(relabel scope X.env).names.lookup p.2=some .free))(hkind:scope.kind=.function)(hcell:∀ y∈scope.names,y.2≠.cell)(hnames:∀ y∈scope.names,y.2=.local→scope.names.lookup y.1=some .local)(hc:X.calm=true)(hfs:∀ v,foldedSetIterable iter X.env v=pure v)(hfs2:∀ cl C v,foldedSetIterable iter2 (compEnvC scope cl C X.env) v=pure v)(hfs3:∀ cl C v,foldedSetIterable iter3 (compEnvC scope cl C X.env) v=pure v) :
   PE X (.ListComp elt [⟨tg,iter,[],0⟩,⟨tg2,iter2,[],0⟩,⟨tg3,iter3,[],0⟩] scope pos) (b7q os.length wi g wi2 g2 wi3 g3 te (caps.map (·.1))):=by
 intro pins s σ H Q I h;rw[eval_ListComp];refine c0r (Q:=Q) (use:=none) (R:=EP X pins σ Q) hi hg hi2 hg2 hi3 hg3 he hfree hcap hkind hcell hnames hc hfs hfs2 hfs3 (fun D C H5 s6 m6 I6 n6 f6 q6=>?_) I h;refine⟨m6,n6,fun h' hs'=>⟨.ref D,H5,?_,rfl,q6⟩⟩;exact I6.turned (t':=s6.toks) (fun b o hb e=>(hs'.2 b hb).trans e) f6.1 f6.2.1 f6.2.2.2.1 f6.2.2.2.2.1 f6.2.2.2.2.2
theorem c2k{tg elt iter tg2 iter2 tg3 iter3:Expr}{os:List Str}{pos:Pos}{scope:Scope}{wi wi2 wi3:TI}{g g2 g3:TG}{te:TE}{caps:List (Nat×Str)}(N:List Str)(sc:Scope)(hi:PI X tg iter wi)(hg:∀ cl C s0 H0 fp,PG (a0n X scope cl (os++caps.map (·.2)) C s0 H0 fp) tg g)(hi2:∀ cl C s0 H0 fp,PI (a0n X scope cl (os++caps.map (·.2)) C s0 H0 fp) tg2 iter2 wi2)(hg2:∀ cl C s0 H0 fp,PG (a0n X scope cl (os++caps.map (·.2)) C s0 H0 fp) tg2 g2)(hi3:∀ cl C s0 H0 fp,PI (a0n X scope cl (os++caps.map (·.2)) C s0 H0 fp) tg3 iter3 wi3)(hg3:∀ cl C s0 H0 fp,PG (a0n X scope cl (os++caps.map (·.2)) C s0 H0 fp) tg3 g3)(he:∀ cl C s0 H0 fp,PE (a0n X scope cl (os++caps.map (·.2)) C s0 H0 fp) elt te)(ok:a5i N sc scope caps=true)(hN:X.N=N:=by rfl)(hsc:X.env.scope=sc:=by rfl)(hc:X.calm=true:=by rfl)(hfs:∀ v,foldedSetIterable iter X.env v=pure v:=by intro _;rfl)(hfs2:∀ cl C v,foldedSetIterable iter2 (compEnvC scope cl C X.env) v=pure v:=by intro _ _ _;rfl)(hfs3:∀ cl C v,foldedSetIterable iter3 (compEnvC scope cl C X.env) v=pure v:=by intro _ _ _;rfl) :
   PE X (.ListComp elt [⟨tg,iter,[],0⟩,⟨tg2,iter2,[],0⟩,⟨tg3,iter3,[],0⟩] scope pos) (b7q os.length wi g wi2 g2 wi3 g3 te (caps.map (·.1))):=by
 subst hN hsc;unfold a5i at ok;simp only[c8k,List.all_eq_true,decide_eq_true_eq,Bool.or_eq_true,Bool.not_eq_true',decide_eq_false_iff_not] at ok;obtain⟨⟨h1,h2⟩,h3⟩:=ok;refine c2l hi hg hi2 hg2 hi3 hg3 he (fun y hy hf=>?_) (fun p hp=>?_) h1 (fun y hy=>(h2 y hy).1.1) (fun y hy hl=>?_) hc hfs hfs2 hfs3
 · rcases (h2 y hy).1.2 with z | z
   · exact absurd hf z
   · exact z
 · obtain⟨⟨a,b⟩,c⟩:=h3 p hp;exact⟨a,b,a4h c⟩
 · rcases (h2 y hy).2 with z | z
   · exact absurd hl z
   · exact z
end
end Cv
namespace Cv
open PySem PySem.W PyProof.Rows
noncomputable def gal':Bool→Keyed→Array Keyed→Nat→Nat→Nat→StateT SortSt Sem (Option Nat):=sortPriv% PySem.Builtin.gallop
noncomputable def mlo':Array Keyed→Array Keyed→StateT SortSt Sem (Array Keyed):=sortPriv% PySem.Builtin.mergeLo
noncomputable def mhi':Array Keyed→Array Keyed→StateT SortSt Sem (Array Keyed):=sortPriv% PySem.Builtin.mergeHi
structure Asks(M:Model)(A:Around)(E:Value→Shared→Prop)(s:Shared)(κ:SortKind)(It:Keyed→Prop)(lt:Keyed→Keyed→Bool):Prop where
 ask:∀ (x y:Keyed) (st:SortSt) (Q:Option Bool→SortSt→Prop),It x→It y→kindOf st=κ→Q (some (lt x y)) st→wpS M A E s (lt' x y) Q st
 asym:∀ x y,It x→It y→lt x y=true→lt y x=false
 trans:∀ x y z,It x→It y→It z→lt y x=false→lt z y=false→lt z x=false
section
variable {M:Model} {A:Around} {E:Value→Shared→Prop} {s:Shared} {κ:SortKind} {It:Keyed→Prop} {lt:Keyed→Keyed→Bool}
theorem a1r{arr:Array Keyed}{i:Nat}{x:Keyed}{st:SortSt}{Q:Keyed→SortSt→Prop}(h:arr[i]?=some x)(q:Q x st):wpS M A E s (elem' arr i) Q st:=by
 rw[elem'_eq,h];exact wpS_pure q
noncomputable def bey(lt:Keyed→Keyed→Bool)(left:Bool)(key x:Keyed):Bool:=if left then lt x key else !(lt key x)
theorem b0f(C:Asks M A E s κ It lt){left:Bool}{key y:Keyed}{arr:Array Keyed}{i:Nat}{st:SortSt}{Q:Option Bool→SortSt→Prop}(hk:kindOf st=κ)(ik:It key)(hx:arr[i]?=some y)(iy:It y)(q:Q (some (bey lt left key y)) st) :
   wpS M A E s (elem' arr i >>= fun x=>if left=true then lt' x key else (lt' key x >>= fun r=>pure (Option.map (fun b=>!b) r))) Q st:=by
 refine wpS_bind (a1r hx ?_);unfold bey at q;cases left with
 | true=>rw[if_pos rfl] at q ⊢;exact C.ask _ _ _ _ iy ik hk q
 | false=>
   rw[if_neg (by simp)] at q ⊢;exact wpS_bind (C.ask _ _ _ _ ik iy hk (wpS_pure q))
theorem a4p(C:Asks M A E s κ It lt){left:Bool}{key:Keyed}{arr:Array Keyed}{base n hint:Nat}{x:Nat→Keyed}{st:SortSt}{Q:Option Nat→SortSt→Prop}(hk:kindOf st=κ)(ik:It key)(hx:∀ i,i<n→arr[base+i]?=some (x i))(ix:∀ i,i<n→It (x i))(hh:hint<n)(mono:∀ i j,i≤j→j<n→bey lt left key (x j)=true→bey lt left key (x i)=true)(hQ:∀ k,k≤n→(∀ i,i<k→bey lt left key (x i)=true)→(∀ i,k≤i→i<n→bey lt left key (x i)=false)→Q (some k) st):wpS M A E s (gal' left key arr base n hint) Q st:=by
 have monoF:∀ i j,i≤j→j<n→bey lt left key (x i)=false→bey lt left key (x j)=false:=fun i j hij hj h=>by
   cases e:bey lt left key (x j) with
   | false=>rfl
   | true=>have:=mono i j hij hj e;rw[h] at this;cases this
 unfold gal';refine wpS_bind (b0f C hk ik (hx hint hh) (ix hint hh) ?_);dsimp only;have fin:∀ (lo hi:Nat) (f:Nat→(Option (Option Nat)×Nat×Nat)→StateT SortSt Sem (ForInStep (Option (Option Nat)×Nat×Nat))),lo≤hi→hi≤n→(∀ i,i<lo→bey lt left key (x i)=true)→(∀ i,hi≤i→i<n→bey lt left key (x i)=false)→
     (∀ (i lo hi:Nat) (G:ForInStep (Option (Option Nat)×Nat×Nat)→SortSt→Prop),lo<hi→hi≤n→(bey lt left key (x (lo+(hi - lo) / 2))=true→G (.yield (none,lo+(hi - lo) / 2+1,hi)) st)→(bey lt left key (x (lo+(hi - lo) / 2))=false→G (.yield (none,lo,lo+(hi - lo) / 2)) st)→wpS M A E s (f i (none,lo,hi)) G st)→
     (∀ (i lo hi:Nat) (G:ForInStep (Option (Option Nat)×Nat×Nat)→SortSt→Prop),hi≤lo→G (.done (none,lo,hi)) st→wpS M A E s (f i (none,lo,hi)) G st)→
     wpS M A E s (forIn [0:n] (none,lo,hi) f) (fun r st'=>st'=st∧∃ k,r=(none,k,k)∧k≤n∧(∀ i,i<k→bey lt left key (x i)=true)∧(∀ i,k≤i→i<n→bey lt left key (x i)=false)) st:=by
   intro lo hi f h1 h2 hlo hhi hf hd;refine wpS_forRange (I:=fun t c st'=>st'=st∧∃ lo hi,c=(none,lo,hi)∧lo≤hi∧hi≤n∧hi - lo≤n - t∧(∀ i,i<lo→bey lt left key (x i)=true)∧(∀ i,hi≤i→i<n→bey lt left key (x i)=false)) ?_ ?_ ⟨rfl,lo,hi,rfl,h1,h2,by omega,hlo,hhi⟩
   · rintro t c st' _ ht ⟨rfl,lo,hi,rfl,h1,h2,h3,hlo,hhi⟩;by_cases e:lo<hi
     · have hm:lo+(hi - lo) / 2<hi:=by omega
       refine hf t lo hi _ e h2 (fun b=>?_) (fun b=>?_)
       · exact⟨rfl,_,hi,rfl,by omega,h2,by omega,fun i hi'=>mono i _ (by omega) (by omega) b,hhi⟩
       · exact⟨rfl,lo,_,rfl,by omega,by omega,by omega,hlo,fun i h1 h2=>monoF _ i h1 h2 b⟩
     · obtain rfl:lo=hi:=by omega
       exact hd t lo lo _ (c5v _) ⟨rfl,lo,rfl,h2,hlo,hhi⟩
   · rintro c st' ⟨rfl,lo,hi,rfl,h1,h2,h3,hlo,hhi⟩;obtain rfl:lo=hi:=by rw[c9h] at h3;omega
     exact⟨rfl,lo,rfl,h2,hlo,hhi⟩
 cases hb:bey lt left key (x hint) with
 | true=>
   rw[if_pos rfl];refine wpS_bind (wpS_mono (wpS_forRange (I:=fun t c st'=>st'=st∧∃ la ofs,c=(none,la,ofs)∧hint+la<n∧bey lt left key (x (hint+la))=true∧la<ofs∧t+1≤ofs) (Q:=fun c st'=>st'=st∧∃ la ofs,c=(none,la,ofs)∧hint+la<n∧bey lt left key (x (hint+la))=true∧la<ofs∧(n - hint≤ofs∨(hint+ofs<n∧bey lt left key (x (hint+ofs))=false))) ?_ ?_ ⟨rfl,0,1,rfl,by omega,hb,by omega,by omega⟩) ?_)
   · rintro t c st' _ ht ⟨rfl,la,ofs,rfl,h1,h2,h3,h4⟩;dsimp only;by_cases e:ofs≥n - hint
     · rw[if_pos e];exact wpS_pure ⟨rfl,la,ofs,rfl,h1,h2,h3,.inl e⟩
     · rw[if_neg e];refine wpS_bind (b0f C hk ik (hx (hint+ofs) (by omega)) (ix _ (by omega)) ?_);dsimp only;cases b:bey lt left key (x (hint+ofs)) with
       | true=>
         rw[if_neg (by simp)];exact wpS_pure ⟨rfl,ofs,2*ofs+1,rfl,by omega,b,by omega,by omega⟩
       | false=>
         rw[if_pos (by simp)];exact wpS_pure ⟨rfl,la,ofs,rfl,h1,h2,h3,.inr ⟨by omega,b⟩⟩
   · rintro c st' ⟨rfl,la,ofs,rfl,h1,h2,h3,h4⟩;rw[c9h] at h4;exact⟨rfl,la,ofs,rfl,h1,h2,h3,.inl (by omega)⟩
   · rintro c st' ⟨rfl,la,ofs,rfl,h1,h2,h3,h4⟩;dsimp only;refine wpS_bind (wpS_mono (fin (hint+la+1) (hint+min ofs (n - hint)) _ (by omega) (by omega) (fun i hi=>?_) (fun i h5 h6=>?_) ?_ ?_) ?_)
     · exact mono i (hint+la) (by omega) h1 h2
     · rcases h4 with h4 | ⟨h4,h8⟩
       · omega
       · exact monoF (hint+ofs) i (by omega) h6 h8
     · intro i lo hi G e h2 g1 g2;dsimp only;rw[if_neg (by omega)];refine wpS_bind (b0f C hk ik (hx _ (by omega)) (ix _ (by omega)) ?_);dsimp only;cases b:bey lt left key (x (lo+(hi - lo) / 2)) with
       | true=>rw[if_pos rfl];exact wpS_pure (g1 b)
       | false=>rw[if_neg (by simp)];exact wpS_pure (g2 b)
     · intro i lo hi G e g;dsimp only;rw[if_pos e];exact wpS_pure g
     · rintro c st'' ⟨rfl,k,rfl,h5,h6,h7⟩;exact wpS_pure (hQ k h5 h6 h7)
 | false=>
   rw[if_neg (by simp)];refine wpS_bind (wpS_mono (wpS_forRange (I:=fun t c st'=>st'=st∧∃ la ofs,c=(none,la,ofs)∧la≤hint∧bey lt left key (x (hint - la))=false∧la<ofs∧t+1≤ofs) (Q:=fun c st'=>st'=st∧∃ la ofs,c=(none,la,ofs)∧la≤hint∧bey lt left key (x (hint - la))=false∧la<ofs∧(hint+1≤ofs∨(ofs≤hint∧bey lt left key (x (hint - ofs))=true))) ?_ ?_ ⟨rfl,0,1,rfl,by omega,hb,by omega,by omega⟩) ?_)
   · rintro t c st' _ ht ⟨rfl,la,ofs,rfl,h1,h2,h3,h4⟩;dsimp only;by_cases e:ofs≥hint+1
     · rw[if_pos e];exact wpS_pure ⟨rfl,la,ofs,rfl,h1,h2,h3,.inl e⟩
     · rw[if_neg e];refine wpS_bind (b0f C hk ik (hx (hint - ofs) (by omega)) (ix _ (by omega)) ?_);dsimp only;cases b:bey lt left key (x (hint - ofs)) with
       | true=>
         rw[if_pos rfl];exact wpS_pure ⟨rfl,la,ofs,rfl,h1,h2,h3,.inr ⟨by omega,b⟩⟩
       | false=>
         rw[if_neg (by simp)];exact wpS_pure ⟨rfl,ofs,2*ofs+1,rfl,by omega,b,by omega,by omega⟩
   · rintro c st' ⟨rfl,la,ofs,rfl,h1,h2,h3,h4⟩;rw[c9h] at h4;exact⟨rfl,la,ofs,rfl,h1,h2,h3,.inl (by omega)⟩
   · rintro c st' ⟨rfl,la,ofs,rfl,h1,h2,h3,h4⟩;dsimp only;refine wpS_bind (wpS_mono (fin (hint+1 - min ofs (hint+1)) (hint - la) _ (by omega) (by omega) (fun i hi=>?_) (fun i h5 h6=>?_) ?_ ?_) ?_)
     · rcases h4 with h4 | ⟨h4,h8⟩
       · omega
       · exact mono i (hint - ofs) (by omega) (by omega) h8
     · exact monoF (hint - la) i h5 h6 h2
     · intro i lo hi G e h2 g1 g2;dsimp only;rw[if_neg (by omega)];refine wpS_bind (b0f C hk ik (hx _ (by omega)) (ix _ (by omega)) ?_);dsimp only;cases b:bey lt left key (x (lo+(hi - lo) / 2)) with
       | true=>rw[if_pos rfl];exact wpS_pure (g1 b)
       | false=>rw[if_neg (by simp)];exact wpS_pure (g2 b)
     · intro i lo hi G e g;dsimp only;rw[if_pos e];exact wpS_pure g
     · rintro c st'' ⟨rfl,k,rfl,h5,h6,h7⟩;exact wpS_pure (hQ k h5 h6 h7)
end
structure a3y(st st':SortSt):Prop where
 kind:kindOf st'=kindOf st
 arr:arrOf st'=arrOf st
 pend:pendingOf st'=pendingOf st
 fail:failedOf st'=failedOf st
theorem a3y.refl(st:SortSt):a3y st st:=⟨rfl,rfl,rfl,rfl⟩
theorem a3y.trans{a b c:SortSt}(h:a3y a b)(k:a3y b c):a3y a c:=⟨k.kind.trans h.kind,k.arr.trans h.arr,k.pend.trans h.pend,k.fail.trans h.fail⟩
structure MJ(lt:Keyed→Keyed→Bool)(as bs out:List Keyed)(i j:Nat):Prop where
 hi:i≤as.length
 hj:j≤bs.length
 perm:(out++(as.drop i++bs.drop j)).Perm (as++bs)
 srt:out.Pairwise fun x y=>lt y x=false
 low:∀ x∈out,∀ y,y∈as.drop i∨y∈bs.drop j→lt y x=false
section
variable {It:Keyed→Prop} {lt:Keyed→Keyed→Bool} {as bs out:List Keyed} {i j:Nat}
structure Two(It:Keyed→Prop)(lt:Keyed→Keyed→Bool)(as bs:List Keyed):Prop where
 ia:∀ x∈as,It x
 ib:∀ x∈bs,It x
 sa:as.Pairwise fun x y=>lt y x=false
 sb:bs.Pairwise fun x y=>lt y x=false
theorem b0c{as:List Keyed}(sa:as.Pairwise fun x y=>lt y x=false){i k:Nat}(h:i<k){x:Keyed}(hx:as[i]?=some x):∀ y∈as.drop k,lt y x=false:=fun y hy=>by
 obtain⟨t,ht,e⟩:=c6k hy;rw[c6n] at ht;have hi:=(c5m.mp hx)
 obtain⟨hi1,hi2⟩:=hi;rw[List.getElem_drop] at e;have:=c7t.mp sa i (k+t) hi1 (by omega) (by omega);rw[hi2,e] at this;exact this
theorem a4u{as:List Keyed}{i:Nat}{x:Keyed}(hx:as[i]?=some x):as.drop i=x::as.drop (i+1):=by
 obtain⟨h,rfl⟩:=c5m.mp hx;exact c9o h
theorem MJ.len(h:MJ lt as bs out i j):out.length=i+j:=by
 have:=h.perm.length_eq;have:=h.hi;have:=h.hj;simp only[c5n,c6n] at *;omega
theorem MJ.takeA(T:Two It lt as bs)(h:MJ lt as bs out i j){x:Keyed}(hx:as[i]?=some x)(hb:∀ y∈bs.drop j,lt y x=false):MJ lt as bs (out++[x]) (i+1) j:=by
 have e:=a4u hx;refine⟨(c5m.mp hx).1,h.hj,?_,?_,?_⟩
 · have:=h.perm;rw[e] at this;simpa using this
 · refine c7g.mpr ⟨h.srt,List.pairwise_singleton _ _,fun u hu v hv=>?_⟩;rw[c6g.mp hv];exact h.low u hu x (.inl (by rw[e];simp))
 · intro u hu y hy;rcases c6q.mp hu with hu | hu
   · refine h.low u hu y (hy.imp (fun z=>?_) id);rw[e];exact c6w _ z
   · rw[c6g.mp hu];rcases hy with hy | hy
     · exact b0c T.sa (c9z i) hx y hy
     · exact hb y hy
theorem MJ.takeB(T:Two It lt as bs)(h:MJ lt as bs out i j){x:Keyed}(hx:bs[j]?=some x)(ha:∀ y∈as.drop i,lt y x=false):MJ lt as bs (out++[x]) i (j+1):=by
 have e:=a4u hx;refine⟨h.hi,(c5m.mp hx).1,?_,?_,?_⟩
 · have:=h.perm;rw[e] at this;refine c9p.trans ?_ this;rw[c6i];refine c9p.append_left out ?_;show (x::(as.drop i++bs.drop (j+1))).Perm _;exact List.perm_middle.symm
 · refine c7g.mpr ⟨h.srt,List.pairwise_singleton _ _,fun u hu v hv=>?_⟩;rw[c6g.mp hv];exact h.low u hu x (.inr (by rw[e];simp))
 · intro u hu y hy;rcases c6q.mp hu with hu | hu
   · refine h.low u hu y (hy.imp id (fun z=>?_));rw[e];exact c6w _ z
   · rw[c6g.mp hu];rcases hy with hy | hy
     · exact ha y hy
     · exact b0c T.sb (c9z j) hx y hy
theorem MJ.takeAs(T:Two It lt as bs):∀ (k:Nat) {out:List Keyed} {i:Nat},MJ lt as bs out i j→i+k≤as.length→(∀ t x,t<k→as[i+t]?=some x→∀ y∈bs.drop j,lt y x=false)→MJ lt as bs (out++(as.drop i).take k) (i+k) j
 | 0,out,i,h,_,_=>by simpa using h
 | k+1,out,i,h,hk,hb=>by
   have hx:as[i]?=some (as[i]'(by omega (config:={}))):=c5j _;have h1:=h.takeA T hx (hb 0 _ (by omega) hx);have h2:=MJ.takeAs T k h1 (by omega) fun t x ht e=>hb (t+1) x (by omega) (by rw[← e];congr 1;omega);rw[a4u hx,c9w];rw[show i+(k+1)=i+1+k by omega];simpa using h2
theorem MJ.takeBs(T:Two It lt as bs):∀ (k:Nat) {out:List Keyed} {j:Nat},MJ lt as bs out i j→j+k≤bs.length→(∀ t x,t<k→bs[j+t]?=some x→∀ y∈as.drop i,lt y x=false)→MJ lt as bs (out++(bs.drop j).take k) i (j+k)
 | 0,out,j,h,_,_=>by simpa using h
 | k+1,out,j,h,hk,hb=>by
   have hx:bs[j]?=some (bs[j]'(by omega (config:={}))):=c5j _;have h1:=h.takeB T hx (hb 0 _ (by omega) hx);have h2:=MJ.takeBs T k h1 (by omega) fun t x ht e=>hb (t+1) x (by omega) (by rw[← e];congr 1;omega);rw[a4u hx,c9w];rw[show j+(k+1)=j+1+k by omega];simpa using h2
noncomputable def Mgd(lt:Keyed→Keyed→Bool)(as bs r:List Keyed):Prop:=r.Perm (as++bs)∧r.Pairwise fun x y=>lt y x=false
theorem MJ.doneA(T:Two It lt as bs)(h:MJ lt as bs out i j)(hj:bs.length≤j∨as.length≤i):Mgd lt as bs (out++as.drop i++bs.drop j):=by
 refine⟨by rw[c6i];exact h.perm,?_⟩;rcases hj with e | e
 · rw[c9j e,c8z];exact c7g.mpr ⟨h.srt,T.sa.sublist (d0k _ _),fun x hx y hy=>h.low x hx y (.inl hy)⟩
 · rw[c9j e,c8z];exact c7g.mpr ⟨h.srt,T.sb.sublist (d0k _ _),fun x hx y hy=>h.low x hx y (.inr hy)⟩
theorem MJ.doneL(T:Two It lt as bs)(h:MJ lt as bs out i j)(hl:∀ x∈as.drop i,∀ y∈bs,lt x y=false):Mgd lt as bs (out++bs.drop j++as.drop i):=by
 refine⟨?_,?_⟩
 · rw[c6i];exact (c9p.append_left out List.perm_append_comm).trans h.perm
 · rw[c6i];refine c7g.mpr ⟨h.srt,c7g.mpr ⟨T.sb.sublist (d0k _ _),T.sa.sublist (d0k _ _),fun x hx y hy=>hl y hy x (c7l hx)⟩,fun x hx y hy=>?_⟩;rcases c6q.mp hy with hy | hy
   · exact h.low x hx y (.inr hy)
   · exact h.low x hx y (.inl hy)
end
section
variable {M:Model} {A:Around} {E:Value→Shared→Prop} {s:Shared} {κ:SortKind} {It:Keyed→Prop} {lt:Keyed→Keyed→Bool}
theorem a5j{α:Type}{c:Prop}[Decidable c]{m1 m2:StateT SortSt Sem α}{st:SortSt}{Q:α→SortSt→Prop}(h1:wpS M A E s m1 Q st)(h2:wpS M A E s m2 Q st):wpS M A E s (if c then m1 else m2) Q st:=by
 by_cases h:c
 · rw[if_pos h];exact h1
 · rw[if_neg h];exact h2
theorem b7m{α:Type}{c:Nat→Prop}{d:∀ g,Decidable (c g)}{T m1:Nat→StateT SortSt Sem α}{st:SortSt}{Q:α→SortSt→Prop}(x:Nat→Nat)(h:∀ g,wpS M A E s (T g) Q st)(e:∀ g,m1 g=T (x g))(g:Nat):wpS M A E s (@ite _ (c g) (d g) (m1 g) (T g)) Q st:=by
 rw[e];exact a5j (h _) (h g)
theorem a9v{α:Type}{c:Prop}{_:Decidable c}{T m1:Array Keyed→Nat→StateT SortSt Sem α}{st:SortSt}{Q:α→SortSt→Prop}{o:Array Keyed}{i:Nat}(R:Array Keyed→Nat→Prop)(h1:(∀ o i,R o i→wpS M A E s (T o i) Q st)→c→wpS M A E s (m1 o i) Q st)(h2:¬ c→R o i)(h:∀ o i,R o i→wpS M A E s (T o i) Q st):∀ i',i=i'→∀ o',o=o'→wpS M A E s (if c then m1 o' i' else T o' i') Q st:=by
 rintro _ rfl _ rfl;by_cases hc:c
 · rw[if_pos hc];exact h1 h hc
 · rw[if_neg hc];exact h _ _ (h2 hc)
theorem a2o{α:Type}{c:Prop}{d:Decidable c}{m1 m2:StateT SortSt Sem α}{st:SortSt}{Q:α→SortSt→Prop}(hc:c)(h:wpS M A E s m1 Q st):wpS M A E s (@ite _ c d m1 m2) Q st:=by rw[if_pos hc];exact h
theorem a2p{α:Type}{c:Prop}{d:Decidable c}{m1 m2:StateT SortSt Sem α}{st:SortSt}{Q:α→SortSt→Prop}(hc:¬ c)(h:wpS M A E s m2 Q st):wpS M A E s (@ite _ c d m1 m2) Q st:=by rw[if_neg hc];exact h
theorem a9u{g:Nat}{st:SortSt}{Q:PUnit→SortSt→Prop}(q:∀ st',a3y st st'→Q ⟨⟩ st'):wpS M A E s ((sortPriv% PySem.Builtin.setMinGallop) g) Q st:=
 wpS_modify (q _ ⟨rfl,rfl,rfl,rfl⟩)
theorem a3w{a:Array Keyed}{i:Nat}(h:i<a.size):a[i]?=some a[i]∧a.toList[i]?=some a[i]:=⟨c7o _,by rw[c8a];exact c7o _⟩
theorem a3x{out a b:Array Keyed}{i j:Nat}:(out++a.extract i++b.extract j).toList=out.toList++a.toList.drop i++b.toList.drop j:=by
 simp only[d0y,c8y,c8f];rw[c6x (by simp),c6x (by simp)]
theorem b9f{out a:Array Keyed}{i k:Nat}:(out++a.extract i (i+k)).toList=out.toList++(a.toList.drop i).take k:=by
 simp
theorem b2x(C:Asks M A E s κ It lt){left:Bool}{key x:Keyed}(ik:It key)(ix:It x)(h:bey lt left key x=true):lt key x=false:=by
 unfold bey at h;cases left with
 | true=>exact C.asym _ _ ix ik (by simpa using h)
 | false=>simpa using h
theorem b2y(C:Asks M A E s κ It lt){left:Bool}{key x:Keyed}(ik:It key)(ix:It x)(h:bey lt left key x=false):lt x key=false:=by
 unfold bey at h;cases left with
 | true=>simpa using h
 | false=>exact C.asym _ _ ik ix (by simpa using h)
theorem a6v(C:Asks M A E s κ It lt){left:Bool}{key:Keyed}{x:Nat→Keyed}{n:Nat}(ik:It key)(ix:∀ i,i<n→It (x i))(srt:∀ p q,p≤q→q<n→lt (x q) (x p)=false):∀ p q,p≤q→q<n→bey lt left key (x q)=true→bey lt left key (x p)=true:=by
 intro p q hpq hq h;have s1:=srt p q hpq hq;unfold bey at h ⊢;cases left with
 | true=>
   simp only[if_true] at h ⊢;cases e:lt (x p) key with
   | true=>rfl
   | false=>
     have:=C.trans key (x p) (x q) ik (ix p (by omega)) (ix q hq) e s1;rw[h] at this;cases this
 | false=>
   have h':lt key (x q)=false:=by simpa using h
   have:=C.trans (x p) (x q) key (ix p (by omega)) (ix q hq) ik s1 h';simpa using this
noncomputable def elF(a:Array Keyed)(d:Keyed)(i p:Nat):Keyed:=(a[i+p]?).getD d
theorem a8z{a:Array Keyed}{d:Keyed}{i p:Nat}(h:i+p<a.size):a[i+p]?=some (elF a d i p):=by unfold elF;rw[c7o h];rfl
theorem a1n{a:Array Keyed}{d:Keyed}{i p:Nat}(h:i+p<a.size):elF a d i p=a[i+p]:=by unfold elF;rw[c7o h];rfl
theorem a8y(hr:∀ x:Keyed,It x→lt x x=false){a:Array Keyed}(ia:∀ x∈a.toList,It x)(sa:a.toList.Pairwise fun x y=>lt y x=false)(d:Keyed)(i:Nat):∀ p q,p≤q→i+q<a.size→lt (elF a d i q) (elF a d i p)=false:=by
 intro p q hpq hq;rw[a1n hq,a1n (by omega)];by_cases e:p=q
 · subst e;exact hr _ (ia _ (by simp))
 · have:=c7t.mp sa (i+p) (i+q) (by simpa using (by omega:i+p<a.size)) (by simpa using hq) (by omega);simpa using this
theorem Asks.irr(C:Asks M A E s κ It lt):∀ x,It x→lt x x=false:=fun x ix=>by
 cases e:lt x x with
 | false=>rfl
 | true=>have:=C.asym x x ix ix e;rw[e] at this;exact this
structure MI(lt:Keyed→Keyed→Bool)(a b out:Array Keyed)(i j:Nat):Prop where
 mj:MJ lt a.toList b.toList out.toList i j
 hi:i+1<a.size
 hj:j<b.size
theorem MJ.push_a{a b out:Array Keyed}{i j:Nat}{x:Keyed}(h:MJ lt a.toList b.toList (out.toList++[x]) i j):MJ lt a.toList b.toList (out.push x).toList i j:=by rw[d0n];exact h
theorem wpS_mlo(C:Asks M A E s κ It lt){a b:Array Keyed}{st:SortSt}{Q:Array Keyed→SortSt→Prop}(T:Two It lt a.toList b.toList)(na:1≤a.size)(nb:1≤b.size)(hk:kindOf st=κ)(h0:∀ x,b[0]?=some x→∀ y∈a.toList,lt y x=false)(hl:∀ x,a[a.size - 1]?=some x→∀ y∈b.toList,lt x y=false)(hQ:∀ r st',a3y st st'→Mgd lt a.toList b.toList r.toList→Q r st'):wpS M A E s (mlo' a b) Q st:=by
 have la:a.toList.length=a.size:=c5o;have lb:b.toList.length=b.size:=c5o;have ita:∀ i (h:i<a.size),It a[i]:=fun i h=>T.ia _ (by simp);have itb:∀ i (h:i<b.size),It b[i]:=fun i h=>T.ib _ (by simp);obtain⟨e0,e0'⟩:=a3w (show 0<b.size by omega);have mj0:MJ lt a.toList b.toList [b[0]] 0 1:=by
   have:MJ lt a.toList b.toList [] 0 0:=⟨c7c _,c7c _,by simp,.nil,fun x hx=>by simp at hx⟩
   exact this.takeB T e0' fun y hy=>h0 _ e0 y (by simpa using hy)
 have last:∀ i,a.size≤i+1→∀ x∈a.toList.drop i,∀ y∈b.toList,lt x y=false:=fun i hi x hx y hy=>by
   obtain⟨t,ht,e⟩:=c6k hx;rw[c6n,la] at ht;rw[List.getElem_drop] at e;refine hl x ?_ y hy;rw[← e,d0u,c7o (by omega)];congr 2;omega
 have upA:∀ i (h:i<a.size) y,It y→lt a[i] y=false→∀ z∈a.toList.drop i,lt z y=false:=fun i h y iy hy z hz=>by
   rw[a4u (a3w h).2] at hz;rcases c6f.mp hz with rfl | hz
   · exact hy
   · exact C.trans y a[i] z iy (ita i h) (T.ia z (c7l hz)) hy (b0c T.sa (c9z i) (a3w h).2 z hz)
 have upB:∀ i (h:i<b.size) y,It y→lt b[i] y=false→∀ z∈b.toList.drop i,lt z y=false:=fun i h y iy hy z hz=>by
   rw[a4u (a3w h).2] at hz;rcases c6f.mp hz with rfl | hz
   · exact hy
   · exact C.trans y b[i] z iy (itb i h) (T.ib z (c7l hz)) hy (b0c T.sb (c9z i) (a3w h).2 z hz)
 unfold mlo';refine wpS_bind (wpS_lift (wpAny_rule ⟨rfl,?_⟩));refine wpS_bind (a1r e0 ?_);by_cases c1:1=b.size
 · refine a2o (by simpa using c1) ?_;refine wpS_pure (hQ _ _ (a3y.refl _) ?_);have:=mj0.doneA T (.inl (by omega));dsimp only;rw[a3x];simpa using this
 · refine a2p (by simpa using c1) ?_;by_cases c2:0+1=a.size
   · refine a2o (by simpa using c2) ?_;refine wpS_pure (hQ _ _ (a3y.refl _) ?_);have:=mj0.doneL T (last 0 (by omega));dsimp only;rw[a3x];simpa using this
   · refine a2p (by simpa using c2) ?_;refine wpS_bind (wpS_get ?_);refine wpS_bind (wpS_mono (wpS_forRange (I:=fun t c st'=>a3y st st'∧∃ out i j g,c=(none,out,i,j,g)∧MI lt a b out i j∧t+1≤out.size) (Q:=fun c st'=>a3y st st'∧∃ r o,c=(some r,o)∧Mgd lt a.toList b.toList r.toList) ?_ ?_ ⟨a3y.refl _,_,_,_,_,rfl,⟨by simpa using mj0,by omega,by omega⟩,by simp⟩) ?_)
     · rintro t c st1 _ ht ⟨s1,out,i,j,g,rfl,hM,hs⟩;refine wpS_bind (wpS_mono (wpS_forRange (I:=fun t' c st'=>a3y st st'∧∃ out i j ac bc,c=(none,out,i,j,ac,bc)∧MI lt a b out i j∧t+1+t'≤out.size) (Q:=fun c st'=>a3y st st'∧((∃ r o,c=(some r,o)∧Mgd lt a.toList b.toList r.toList)∨∃ out i j ac bc,c=(none,out,i,j,ac,bc)∧MI lt a b out i j∧t+2≤out.size)) ?_ ?_ ⟨s1,out,i,j,0,0,rfl,hM,hs⟩) ?_)
       · rintro t' c st2 _ ht' ⟨s2,out,i,j,ac,bc,rfl,hM,hs⟩;obtain⟨mj,hi,hj⟩:=hM;obtain⟨ea,ea'⟩:=a3w (show i<a.size by omega);obtain⟨eb,eb'⟩:=a3w hj;refine wpS_bind (a1r eb (wpS_bind (a1r ea (wpS_bind (C.ask _ _ _ _ (itb j hj) (ita i (by omega)) (s2.kind.trans hk) ?_)))));cases hb:lt b[j] a[i] with
         | true=>
           refine a2o rfl ?_;refine wpS_bind (a1r eb ?_);have m2:=(mj.takeB T eb' (upA i (by omega) _ (itb j hj) (C.asym _ _ (itb j hj) (ita i (by omega)) hb))).push_a;by_cases c3:j+1=b.size
           · refine a2o (by simpa using c3) ?_;refine wpS_pure ⟨s2,.inl ⟨_,_,rfl,?_⟩⟩;dsimp only;rw[a3x];exact m2.doneA T (.inl (by omega))
           · refine a2p (by simpa using c3) ?_;refine a5j ?_ ?_
             · exact wpS_pure ⟨s2,.inr ⟨_,_,_,_,_,rfl,⟨m2,hi,by (try dsimp only);omega⟩,by dsimp only;rw[c9d];omega⟩⟩
             · exact wpS_pure ⟨s2,_,_,_,_,_,rfl,⟨m2,hi,by (try dsimp only);omega⟩,by dsimp only;rw[c9d];omega⟩
         | false=>
           refine a2p (by simp) ?_;refine wpS_bind (a1r ea ?_);have m2:=(mj.takeA T ea' (upB j hj _ (ita i (by omega)) hb)).push_a;by_cases c3:i+1+1=a.size
           · refine a2o (by simpa using c3) ?_;refine wpS_pure ⟨s2,.inl ⟨_,_,rfl,?_⟩⟩;dsimp only;rw[a3x];exact m2.doneL T (last (i+1) (by omega))
           · refine a2p (by simpa using c3) ?_;refine a5j ?_ ?_
             · exact wpS_pure ⟨s2,.inr ⟨_,_,_,_,_,rfl,⟨m2,by (try dsimp only);omega,hj⟩,by dsimp only;rw[c9d];omega⟩⟩
             · exact wpS_pure ⟨s2,_,_,_,_,_,rfl,⟨m2,by (try dsimp only);omega,hj⟩,by dsimp only;rw[c9d];omega⟩
       · rintro c st2 ⟨s2,out,i,j,ac,bc,rfl,hM,hs⟩;rw[c9h] at hs;exact⟨s2,.inr ⟨out,i,j,ac,bc,rfl,hM,by omega⟩⟩
       · rintro c st2 ⟨s2,⟨r,o,rfl,hr⟩ | ⟨out,i,j,ac,bc,rfl,hM,hs⟩⟩
         · dsimp only;exact wpS_pure ⟨s2,r,_,rfl,hr⟩
         · dsimp only;refine wpS_bind (wpS_lift (wpAny_rule ⟨rfl,?_⟩));refine wpS_bind (wpS_mono (wpS_forRange (I:=fun t' c st'=>a3y st st'∧∃ out i j g ac bc,c=(none,out,i,j,g,ac,bc)∧MI lt a b out i j∧t+2≤out.size) (Q:=fun c st'=>a3y st st'∧((∃ r o,c=(some r,o)∧Mgd lt a.toList b.toList r.toList)∨∃ out i j g ac bc,c=(none,out,i,j,g,ac,bc)∧MI lt a b out i j∧t+2≤out.size)) ?_ ?_ ⟨s2,out,i,j,_,ac,bc,rfl,hM,hs⟩) ?_)
           · rintro t' c st3 _ ht' ⟨s3,out,i,j,g,ac,bc,rfl,hM,hs⟩;obtain⟨mj,hi,hj⟩:=hM;obtain⟨eb,eb'⟩:=a3w hj;have szo:=mj.len;rw[c5o] at szo;revert g;refine b7m (fun g=>g - 1) (fun g=>?_) (fun _=>rfl);refine wpS_bind (a9u fun st4 s34=>?_);have s4:=s3.trans s34;refine wpS_bind (a1r eb ?_);refine wpS_bind (a4p C (key:=b[j]) (arr:=a) (base:=i) (n:=a.size - i) (hint:=0) (x:=elF a b[j] i) (s4.kind.trans hk) (itb j hj) (fun p hp=>a8z (by omega)) (fun p hp=>by rw[a1n (by omega)];exact ita _ (by omega)) (by omega) (a6v C (itb j hj) (fun p hp=>by rw[a1n (by omega)];exact ita _ (by omega)) fun p q h1 h2=>a8y C.irr T.ia T.sa _ _ p q h1 (by omega)) fun k hk0 hk1 hk2=>?_);have low:∀ h:i+k<a.size,lt a[i+k] b[j]=false:=fun h=>by
               have h6:=b2y C (itb j hj) (by rw[a1n (by omega)];exact ita _ (by omega)) (hk2 k (c5v _) (by omega));rw[a1n (by omega)] at h6;exact h6
             generalize eo:out=o0;revert o0;generalize ei:i=i0;revert i0;refine a9v (fun o p=>p+1<a.size∧MJ lt a.toList b.toList o.toList p j∧(∀ h:p<a.size,lt a[p] b[j]=false)∧i≤p) (fun R k3=>?_) (fun k3=>⟨hi,mj,fun h=>by have:=low;rw[show k=0 by omega] at this;exact this h,c5v _⟩) ?_
             · have m2:=mj.takeAs T k (by omega) (fun u x hu ex y hy=>upB j hj x (T.ia x (c5p ex)) (by
                 have h1:=b2x C (itb j hj) (by rw[a1n (by omega)];exact ita _ (by omega)) (hk1 u hu);rw[a1n (show i+u<a.size by omega)] at h1;rw[c5j (show i+u<a.toList.length by omega)] at ex;rw[← c6e.inj ex,d0u];exact h1) y hy)
               rw[← b9f] at m2;by_cases c4:i+k+1=a.size
               · refine a2o (by simpa using c4) ?_;refine wpS_pure ⟨s4,.inl ⟨_,_,rfl,?_⟩⟩;dsimp only;rw[a3x];exact m2.doneL T (last _ (by omega))
               refine a2p (by simpa using c4) ?_;by_cases c5:i+k=a.size
               · refine a2o (by simpa using c5) ?_;refine wpS_pure ⟨s4,.inl ⟨_,_,rfl,?_⟩⟩;dsimp only;rw[a3x];exact m2.doneA T (.inr (by omega))
               refine a2p (by simpa using c5) ?_;exact R _ _ ⟨by omega,m2,low,by omega⟩
             clear hk0 hk1 hk2 low mj;rintro o p ⟨hp,m2,low,hip⟩;have hI:p<a.size:=by omega
             refine wpS_bind (a1r eb ?_);have m3:=(m2.takeB T eb' (upA _ hI _ (itb j hj) (low hI))).push_a;by_cases c8:j+1=b.size
             · refine a2o (by simpa using c8) ?_;refine wpS_pure ⟨s4,.inl ⟨_,_,rfl,?_⟩⟩;dsimp only;rw[a3x];exact m3.doneA T (.inl (by omega))
             refine a2p (by simpa using c8) ?_;refine wpS_bind (a1r (a3w hI).1 ?_);refine wpS_bind (a4p C (key:=a[p]) (arr:=b) (base:=j+1) (n:=b.size - (j+1)) (hint:=0) (x:=elF b b[j] (j+1)) (s4.kind.trans hk) (ita _ hI) (fun p hp=>a8z (by omega)) (fun p hp=>by rw[a1n (by omega)];exact itb _ (by omega)) (by omega) (a6v C (ita _ hI) (fun p hp=>by rw[a1n (by omega)];exact itb _ (by omega)) fun p q h1 h2=>a8y C.irr T.ib T.sb _ _ p q h1 (by omega)) fun k2 hk4 hk5 hk6=>?_);have low2:∀ h:j+1+k2<b.size,lt b[j+1+k2] a[p]=false:=fun h=>by
               have h8:=b2y C (ita _ hI) (by rw[a1n (by omega)];exact itb _ (by omega)) (hk6 _ (c5v _) (by omega));rw[a1n (by omega)] at h8;exact h8
             generalize eo:o.push b[j]=o2 at m3 ⊢;have hJ1:j+1<b.size:=by omega
             generalize ej:j+1=j2 at *;clear eo;generalize eo:o2=o0;revert o0;generalize ei:j2=i0;revert i0;refine a9v (fun o q=>q<b.size∧MJ lt a.toList b.toList o.toList p q∧(∀ h:q<b.size,lt b[q] a[p]=false)∧j2≤q) (fun R k4=>?_) (fun k4=>⟨hJ1,m3,fun h=>by have:=low2;rw[show k2=0 by omega] at this;exact this h,c5v _⟩) ?_
             · have m4:=m3.takeBs T k2 (by omega) (fun u x hu ex y hy=>upA _ hI x (T.ib x (c5p ex)) (by
                 have h1:=b2x C (ita _ hI) (by rw[a1n (by omega)];exact itb _ (by omega)) (hk5 u hu);rw[a1n (show j2+u<b.size by omega)] at h1;rw[c5j (show j2+u<b.toList.length by omega)] at ex;rw[← c6e.inj ex,d0u];exact h1) y hy)
               rw[← b9f] at m4;by_cases c6:j2+k2=b.size
               · refine a2o (by simpa using c6) ?_;refine wpS_pure ⟨s4,.inl ⟨_,_,rfl,?_⟩⟩;dsimp only;rw[a3x];exact m4.doneA T (.inl (by omega))
               refine a2p (by simpa using c6) ?_;exact R _ _ ⟨by omega,m4,low2,by omega⟩
             clear hk4 hk5 hk6 low2 m3 m2 low;rintro o q ⟨hJ,m4,low2,hjq⟩;refine wpS_bind (a1r (a3w hI).1 ?_);have m5:=(m4.takeA T (a3w hI).2 (upB _ hJ _ (ita _ hI) (low2 hJ))).push_a;by_cases c7:p+1+1=a.size
             · refine a2o (by simpa using c7) ?_;refine wpS_pure ⟨s4,.inl ⟨_,_,rfl,?_⟩⟩;dsimp only;rw[a3x];exact m5.doneL T (last _ (by omega))
             refine a2p (by simpa using c7) ?_;have sz:=m5.len;rw[c5o] at sz;refine a5j ?_ ?_
             · exact wpS_pure ⟨s4,.inr ⟨_,_,_,_,_,_,rfl,⟨m5,by (try dsimp only);omega,hJ⟩,by (try dsimp only);omega⟩⟩
             · exact wpS_pure ⟨s4,_,_,_,_,_,_,rfl,⟨m5,by (try dsimp only);omega,hJ⟩,by (try dsimp only);omega⟩
           · rintro c st3 ⟨s3,out,i,j,g,ac,bc,rfl,hM,hs⟩;exact⟨s3,.inr ⟨out,i,j,g,ac,bc,rfl,hM,hs⟩⟩
           · rintro c st3 ⟨s3,⟨r,o,rfl,hr⟩ | ⟨out,i,j,g,ac,bc,rfl,hM,hs⟩⟩
             · dsimp only;exact wpS_pure ⟨s3,r,_,rfl,hr⟩
             · dsimp only;refine wpS_bind (a9u fun st4 s4=>?_);exact wpS_pure ⟨s3.trans s4,_,_,_,_,rfl,hM,by (try dsimp only);omega⟩
     · rintro c st1 ⟨s1,out,i,j,g,rfl,hM,hs⟩;rw[c9h] at hs;have:=hM.mj.len;have:=hM.hi;have:=hM.hj;rw[c5o] at *;omega
     · rintro c st1 ⟨s1,r,o,rfl,hr⟩;exact wpS_pure (hQ r st1 s1 hr)
noncomputable def opp(lt:Keyed→Keyed→Bool)(x y:Keyed):Bool:=lt y x
theorem Two.opp{as bs:List Keyed}(T:Two It lt as bs):Two It (opp lt) as.reverse bs.reverse:=
 ⟨fun x hx=>T.ia x (c8j.mp hx),fun x hx=>T.ib x (c8j.mp hx),c9m.mpr T.sa,c9m.mpr T.sb⟩
theorem b0s{l:List Keyed}{n:Nat}(h:n≤l.length):l.reverse.drop (l.length - n)=(l.take n).reverse:=by
 rw[List.drop_reverse];congr 1;congr 1;omega
theorem rget{l:List Keyed}{n:Nat}(h:n<l.length):l.reverse[l.length - (n+1)]?=l[n]?:=by
 rw[c8w (by omega)];congr 1;omega
structure MH(lt:Keyed→Keyed→Bool)(a b out:Array Keyed)(na nb:Nat):Prop where
 mj:MJ (opp lt) a.toList.reverse b.toList.reverse out.toList (a.size - na) (b.size - nb)
 ha:na≤a.size
 hb:nb≤b.size
theorem MH.len{a b out:Array Keyed}{na nb:Nat}(h:MH lt a b out na nb):out.size+na+nb=a.size+b.size:=by
 have:=h.mj.len;have:=h.ha;have:=h.hb;rw[c5o] at *;omega
theorem MH.pa{a b out:Array Keyed}{na nb:Nat}(T:Two It lt a.toList b.toList)(h:MH lt a b out (na+1) nb)(hn:na<a.size)(hy:∀ y∈b.toList.take nb,lt a[na] y=false):MH lt a b (out.push a[na]) na nb:=by
 have la:a.toList.length=a.size:=c5o;have lb:b.toList.length=b.size:=c5o;refine⟨?_,by omega,h.hb⟩;have:=h.mj.takeA T.opp (x:=a[na]) (by rw[← la,rget (by omega),(a3w hn).2]) (fun y hy'=>by
   rw[← lb,b0s (by rw[lb];exact h.hb)] at hy';exact hy y (c8j.mp hy'))
 rw[show a.size - (na+1)+1=a.size - na by omega] at this;rw[d0n];exact this
theorem MH.pb{a b out:Array Keyed}{na nb:Nat}(T:Two It lt a.toList b.toList)(h:MH lt a b out na (nb+1))(hn:nb<b.size)(hy:∀ y∈a.toList.take na,lt b[nb] y=false):MH lt a b (out.push b[nb]) na nb:=by
 have la:a.toList.length=a.size:=c5o;have lb:b.toList.length=b.size:=c5o;refine⟨?_,h.ha,by omega⟩;have:=h.mj.takeB T.opp (x:=b[nb]) (by rw[← lb,rget (by omega),(a3w hn).2]) (fun y hy'=>by
   rw[← la,b0s (by rw[la];exact h.ha)] at hy';exact hy y (c8j.mp hy'))
 rw[show b.size - (nb+1)+1=b.size - nb by omega] at this;rw[d0n];exact this
theorem rseg{l:List Keyed}{m n:Nat}(h:n≤l.length)(hm:m≤n):(l.reverse.drop (l.length - n)).take (n - m)=((l.take n).drop m).reverse:=by
 rw[b0s h,List.take_reverse];congr 1;rw[c6u];congr 1;omega
theorem MH.pas{a b out:Array Keyed}{na nb m:Nat}(T:Two It lt a.toList b.toList)(h:MH lt a b out na nb)(hm:m≤na)(hy:∀ t (ht:t<a.size),m≤t→t<na→∀ y∈b.toList.take nb,lt a[t] y=false):MH lt a b (out++(a.extract m na).reverse) m nb:=by
 have la:a.toList.length=a.size:=c5o;have lb:b.toList.length=b.size:=c5o;have ha:=h.ha;refine⟨?_,by omega,h.hb⟩;have:=h.mj.takeAs T.opp (na - m) (by rw[c7k,la];omega) (fun t x ht ex y hy'=>by
   rw[← lb,b0s (by rw[lb];exact h.hb)] at hy';have e2:a.size - na+t=a.toList.length - ((na - 1 - t)+1):=by rw[la];omega
   rw[e2,rget (by rw[la];omega),(a3w (show na - 1 - t<a.size by omega)).2] at ex;rw[← c6e.inj ex];exact hy _ (by omega) (by omega) (by omega) y (c8j.mp hy'))
 rw[show a.size - na+(na - m)=a.size - m by omega] at this;have e3:=rseg (l:=a.toList) (m:=m) (n:=na) (by rw[la];exact ha) hm;rw[la] at e3;rw[e3] at this;have e4:(out++(a.extract m na).reverse).toList=out.toList++((a.toList.take na).drop m).reverse:=by
   simp only[d0y,Array.toList_reverse,c8y,c8f];rw[List.drop_take]
 rw[e4];exact this
theorem MH.pbs{a b out:Array Keyed}{na nb m:Nat}(T:Two It lt a.toList b.toList)(h:MH lt a b out na nb)(hm:m≤nb)(hy:∀ t (ht:t<b.size),m≤t→t<nb→∀ y∈a.toList.take na,lt b[t] y=false):MH lt a b (out++(b.extract m nb).reverse) na m:=by
 have la:a.toList.length=a.size:=c5o;have lb:b.toList.length=b.size:=c5o;have hb:=h.hb;refine⟨?_,h.ha,by omega⟩;have:=h.mj.takeBs T.opp (nb - m) (by rw[c7k,lb];omega) (fun t x ht ex y hy'=>by
   rw[← la,b0s (by rw[la];exact h.ha)] at hy';have e2:b.size - nb+t=b.toList.length - ((nb - 1 - t)+1):=by rw[lb];omega
   rw[e2,rget (by rw[lb];omega),(a3w (show nb - 1 - t<b.size by omega)).2] at ex;rw[← c6e.inj ex];exact hy _ (by omega) (by omega) (by omega) y (c8j.mp hy'))
 rw[show b.size - nb+(nb - m)=b.size - m by omega] at this;have e3:=rseg (l:=b.toList) (m:=m) (n:=nb) (by rw[lb];exact hb) hm;rw[lb] at e3;rw[e3] at this;have e4:(out++(b.extract m nb).reverse).toList=out.toList++((b.toList.take nb).drop m).reverse:=by
   simp only[d0y,Array.toList_reverse,c8y,c8f];rw[List.drop_take]
 rw[e4];exact this
theorem c3b{as bs r:List Keyed}(h:Mgd (opp lt) as.reverse bs.reverse r):Mgd lt as bs r.reverse:=by
 refine⟨(List.reverse_perm r).trans (h.1.trans ((List.reverse_perm as).append (List.reverse_perm bs))),?_⟩;rw[c9m];exact h.2
theorem c4d{out a b:Array Keyed}{na nb:Nat}:(a.extract 0 na++b.extract 0 nb++out.reverse).toList=(out.toList++(b.toList.take nb).reverse++(a.toList.take na).reverse).reverse:=by
 simp only[d0y,Array.toList_reverse,c8y,c8f,List.reverse_append,List.reverse_reverse,List.drop_zero,Nat.sub_zero,c6i]
theorem MH.done{a b out:Array Keyed}{na nb:Nat}(T:Two It lt a.toList b.toList)(h:MH lt a b out na nb)(e:na=0∨nb=0):Mgd lt a.toList b.toList (a.extract 0 na++b.extract 0 nb++out.reverse).toList:=by
 have la:a.toList.length=a.size:=c5o;have lb:b.toList.length=b.size:=c5o;rw[c4d];refine c3b ?_;have:=h.mj.doneA T.opp (by rw[c7k,c7k,la,lb];have:=h.ha;have:=h.hb;omega);rw[← la,b0s (by rw[la];exact h.ha),← lb,b0s (by rw[lb];exact h.hb)] at this;rcases e with rfl | rfl
 · simpa using this
 · simpa using this
theorem MH.first{a b out:Array Keyed}{na nb:Nat}(T:Two It lt a.toList b.toList)(h:MH lt a b out na nb)(h0:∀ x∈b.toList.take nb,∀ y∈a.toList,lt y x=false):Mgd lt a.toList b.toList (b.extract 0 nb++a.extract 0 na++out.reverse).toList:=by
 have la:a.toList.length=a.size:=c5o;have lb:b.toList.length=b.size:=c5o;have e:(b.extract 0 nb++a.extract 0 na++out.reverse).toList=(out.toList++(a.toList.take na).reverse++(b.toList.take nb).reverse).reverse:=c4d;rw[e];refine c3b ⟨?_,?_⟩
 · have:=h.mj.perm;rw[← la,b0s (by rw[la];exact h.ha),← lb,b0s (by rw[lb];exact h.hb)] at this;rw[c6i];exact this
 · have hlow:=h.mj.low;rw[← la,b0s (by rw[la];exact h.ha),← lb,b0s (by rw[lb];exact h.hb)] at hlow;rw[c6i];refine c7g.mpr ⟨h.mj.srt,c7g.mpr ⟨c9m.mpr (T.sa.sublist (List.take_sublist _ _)),c9m.mpr (T.sb.sublist (List.take_sublist _ _)),fun x hx y hy=>h0 y (c8j.mp hy) x (c7p (c8j.mp hx))⟩,fun x hx y hy=>?_⟩;rcases c6q.mp hy with hy | hy
   · exact hlow x hx y (.inl hy)
   · exact hlow x hx y (.inr hy)
structure MR(lt:Keyed→Keyed→Bool)(a b out:Array Keyed)(na nb:Nat):Prop where
 mh:MH lt a b out na nb
 ha:1≤na
 hb:2≤nb
theorem a7n{a:Array Keyed}{n:Nat}{y:Keyed}(h:y∈a.toList.take n):∃ p,∃ (hp:p<a.size),p<n∧y=a[p]:=by
 obtain⟨p,hp,e⟩:=c6k h;rw[c6u,c5o] at hp;exact⟨p,by omega,by omega,by rw[← e,List.getElem_take,d0u]⟩
theorem wpS_mhi(C:Asks M A E s κ It lt){a b:Array Keyed}{st:SortSt}{Q:Array Keyed→SortSt→Prop}(T:Two It lt a.toList b.toList)(na:1≤a.size)(nb:1≤b.size)(hk:kindOf st=κ)(h0:∀ x,b[0]?=some x→∀ y∈a.toList,lt y x=false)(hl:∀ x,a[a.size - 1]?=some x→∀ y∈b.toList,lt x y=false)(hQ:∀ r st',a3y st st'→Mgd lt a.toList b.toList r.toList→Q r st'):wpS M A E s (mhi' a b) Q st:=by
 have la:a.toList.length=a.size:=c5o;have lb:b.toList.length=b.size:=c5o;have ita:∀ i (h:i<a.size),It a[i]:=fun i h=>T.ia _ (by simp);have itb:∀ i (h:i<b.size),It b[i]:=fun i h=>T.ib _ (by simp);have dnA:∀ j (h:j<a.size) x,It x→lt x a[j]=false→∀ y∈a.toList.take (j+1),lt x y=false:=fun j h x ix hx y hy=>by
   obtain⟨p,hp,hpj,rfl⟩:=a7n hy;have:=a8y C.irr T.ia T.sa x 0 p j (by omega) (by omega);rw[a1n (by omega),a1n (by omega)] at this;simp only[Nat.zero_add] at this;exact C.trans a[p] a[j] x (ita p hp) (ita j h) ix this hx
 have dnB:∀ j (h:j<b.size) x,It x→lt x b[j]=false→∀ y∈b.toList.take (j+1),lt x y=false:=fun j h x ix hx y hy=>by
   obtain⟨p,hp,hpj,rfl⟩:=a7n hy;have:=a8y C.irr T.ib T.sb x 0 p j (by omega) (by omega);rw[a1n (by omega),a1n (by omega)] at this;simp only[Nat.zero_add] at this;exact C.trans b[p] b[j] x (itb p hp) (itb j h) ix this hx
 have hfirst:∀ n,n≤1→∀ x∈b.toList.take n,∀ y∈a.toList,lt y x=false:=fun n hn x hx y hy=>by
   obtain⟨p,hp,hpn,rfl⟩:=a7n hx;obtain rfl:p=0:=by omega
   exact h0 _ (a3w hp).1 y hy
 obtain⟨el,el'⟩:=a3w (show a.size - 1<a.size by omega);have mh0:MH lt a b #[a[a.size - 1]] (a.size - 1) b.size:=by
   have:MH lt a b #[] (a.size - 1+1) b.size:=⟨by
     rw[show a.size - (a.size - 1+1)=0 by omega,Nat.sub_self];exact⟨c7c _,c7c _,by simp,by simp,fun x hx=>by simp at hx⟩,by omega,c5v _⟩
   have:=this.pa T (by omega) fun y hy=>hl _ el y (c7p hy);simpa using this
 unfold mhi';refine wpS_bind (wpS_lift (wpAny_rule ⟨rfl,?_⟩));refine wpS_bind (a1r el ?_);by_cases c1:a.size - 1=0
 · refine a2o (by simpa using c1) ?_;exact wpS_pure (hQ _ _ (a3y.refl _) (mh0.done T (.inl c1)))
 · refine a2p (by simpa using c1) ?_;by_cases c2:b.size=1
   · refine a2o (by simpa using c2) ?_;exact wpS_pure (hQ _ _ (a3y.refl _) (mh0.first T (hfirst _ (by omega))))
   · refine a2p (by simpa using c2) ?_;refine wpS_bind (wpS_get ?_);refine wpS_bind (wpS_mono (wpS_forRange (I:=fun t c st'=>a3y st st'∧∃ i j out g,c=(none,i,j,out,g)∧MR lt a b out i j∧t+1≤out.size) (Q:=fun c st'=>a3y st st'∧∃ r o,c=(some r,o)∧Mgd lt a.toList b.toList r.toList) ?_ ?_ ⟨a3y.refl _,_,_,_,_,rfl,⟨mh0,by omega,by omega⟩,by simp⟩) ?_)
     · rintro t c st1 _ ht ⟨s1,i,j,out,g,rfl,hM,hs⟩;refine wpS_bind (wpS_mono (wpS_forRange (I:=fun t' c st'=>a3y st st'∧∃ i j out ac bc,c=(none,i,j,out,ac,bc)∧MR lt a b out i j∧t+1+t'≤out.size) (Q:=fun c st'=>a3y st st'∧((∃ r o,c=(some r,o)∧Mgd lt a.toList b.toList r.toList)∨∃ i j out ac bc,c=(none,i,j,out,ac,bc)∧MR lt a b out i j∧t+2≤out.size)) ?_ ?_ ⟨s1,i,j,out,0,0,rfl,hM,hs⟩) ?_)
       · rintro t' c st2 _ ht' ⟨s2,i,j,out,ac,bc,rfl,hM,hs⟩;obtain⟨mh,hi,hj⟩:=hM;have hai:=mh.ha;have hbj:=mh.hb;have hA:i - 1<a.size:=by omega
         have hB:j - 1<b.size:=by omega
         refine wpS_bind (a1r (a3w hB).1 (wpS_bind (a1r (a3w hA).1 (wpS_bind (C.ask _ _ _ _ (itb _ hB) (ita _ hA) (s2.kind.trans hk) ?_)))));cases hb:lt b[j - 1] a[i - 1] with
         | true=>
           refine a2o rfl ?_;refine wpS_bind (a1r (a3w hA).1 ?_);have m2:=MH.pa T (na:=i - 1) (by rw[show i - 1+1=i by omega];exact mh) hA (by
             have:=dnB (j - 1) hB _ (ita _ hA) (C.asym _ _ (itb _ hB) (ita _ hA) hb)
             rwa [show j - 1+1=j by omega] at this)
           by_cases c3:i - 1=0
           · refine a2o (by simpa using c3) ?_;exact wpS_pure ⟨s2,.inl ⟨_,_,rfl,m2.done T (.inl c3)⟩⟩
           · refine a2p (by simpa using c3) ?_;refine a5j ?_ ?_
             · exact wpS_pure ⟨s2,.inr ⟨_,_,_,_,_,rfl,⟨m2,by (try dsimp only);omega,hj⟩,by dsimp only;rw[c9d];omega⟩⟩
             · exact wpS_pure ⟨s2,_,_,_,_,_,rfl,⟨m2,by (try dsimp only);omega,hj⟩,by dsimp only;rw[c9d];omega⟩
         | false=>
           refine a2p (by simp) ?_;refine wpS_bind (a1r (a3w hB).1 ?_);have m2:=MH.pb T (nb:=j - 1) (by rw[show j - 1+1=j by omega];exact mh) hB (by
             have:=dnA (i - 1) hA _ (itb _ hB) hb
             rwa [show i - 1+1=i by omega] at this)
           by_cases c3:j - 1=1
           · refine a2o (by simpa using c3) ?_;exact wpS_pure ⟨s2,.inl ⟨_,_,rfl,m2.first T (hfirst _ (by (try dsimp only);omega))⟩⟩
           · refine a2p (by simpa using c3) ?_;refine a5j ?_ ?_
             · exact wpS_pure ⟨s2,.inr ⟨_,_,_,_,_,rfl,⟨m2,hi,by (try dsimp only);omega⟩,by dsimp only;rw[c9d];omega⟩⟩
             · exact wpS_pure ⟨s2,_,_,_,_,_,rfl,⟨m2,hi,by (try dsimp only);omega⟩,by dsimp only;rw[c9d];omega⟩
       · rintro c st2 ⟨s2,i,j,out,ac,bc,rfl,hM,hs⟩;rw[c9h] at hs;exact⟨s2,.inr ⟨i,j,out,ac,bc,rfl,hM,by omega⟩⟩
       · rintro c st2 ⟨s2,⟨r,o,rfl,hr⟩ | ⟨i,j,out,ac,bc,rfl,hM,hs⟩⟩
         · exact wpS_pure ⟨s2,r,_,rfl,hr⟩
         · refine wpS_bind (wpS_lift (wpAny_rule ⟨rfl,?_⟩));refine wpS_bind (wpS_mono (wpS_forRange (I:=fun t' c st'=>a3y st st'∧∃ i j out g ac bc,c=(none,i,j,out,g,ac,bc)∧MR lt a b out i j∧t+2≤out.size) (Q:=fun c st'=>a3y st st'∧((∃ r o,c=(some r,o)∧Mgd lt a.toList b.toList r.toList)∨∃ i j out g ac bc,c=(none,i,j,out,g,ac,bc)∧MR lt a b out i j∧t+2≤out.size)) ?_ ?_ ⟨s2,i,j,out,_,ac,bc,rfl,hM,hs⟩) ?_)
           · rintro t' c st3 _ ht' ⟨s3,i,j,out,g,ac,bc,rfl,hM,hs⟩;obtain⟨mh,hi,hj⟩:=hM;have hai:=mh.ha;have hbj:=mh.hb;have szo:=mh.len;have hB:j - 1<b.size:=by omega
             have dnB':∀ k (h:k<b.size) x,It x→lt x b[k]=false→k=j - 1→∀ y∈b.toList.take j,lt x y=false:=fun k h x ix hx e y hy=>dnB k h x ix hx y (by rw[e,show j - 1+1=j by omega];exact hy);dsimp only;revert g;refine b7m (fun g=>g - 1) (fun g=>?_) (fun _=>rfl);refine wpS_bind (a9u fun st4 s34=>?_);have s4:=s3.trans s34;refine wpS_bind (a1r (a3w hB).1 ?_);refine wpS_bind (a4p C (key:=b[j - 1]) (arr:=a) (base:=0) (n:=i) (hint:=i - 1) (x:=elF a b[j - 1] 0) (s4.kind.trans hk) (itb _ hB) (fun p hp=>a8z (by omega)) (fun p hp=>by rw[a1n (by omega)];exact ita _ (by omega)) (by omega) (a6v C (itb _ hB) (fun p hp=>by rw[a1n (by omega)];exact ita _ (by omega)) fun p q h1 h2=>a8y C.irr T.ia T.sa _ _ p q h1 (by omega)) fun p1 hk0 hk1 hk2=>?_);have low:∀ y∈a.toList.take p1,lt b[j - 1] y=false:=fun y hy=>by
               obtain⟨q,hq,hqn,rfl⟩:=a7n hy;have h9:=b2x C (itb _ hB) (by rw[a1n (by omega)];exact ita _ (by omega)) (hk1 q hqn);rw[a1n (show 0+q<a.size by omega)] at h9;simpa using h9
             dsimp only;generalize ek:i - p1=kk;generalize eo:out=o0;revert o0;generalize ei:i=i0;revert i0;refine a9v (fun o p=>0<p∧p≤i∧MH lt a b o p j∧∀ y∈a.toList.take p,lt b[j - 1] y=false) (fun R k3=>?_) (fun k3=>⟨by omega,c5v _,mh,by rw[show i=p1 by omega];exact low⟩) ?_
             · have m2:=mh.pas T (m:=p1) hk0 (fun t ht h1 h2=>dnB' _ hB _ (ita t ht) (by
                 have h9:=b2y C (itb _ hB) (by rw[a1n (by omega)];exact ita _ (by omega)) (hk2 t h1 h2);rw[a1n (show 0+t<a.size by omega)] at h9;simpa using h9) rfl)
               by_cases c4:p1=0
               · refine a2o (by simpa using c4) ?_;exact wpS_pure ⟨s4,.inl ⟨_,_,rfl,m2.done T (.inl c4)⟩⟩
               refine a2p (by simpa using c4) ?_;exact R _ _ ⟨by omega,hk0,m2,low⟩
             clear hk0 hk1 hk2 low mh;rintro o p ⟨hp,hpi,m2,low⟩;have hI:p - 1<a.size:=by omega
             refine wpS_bind (a1r (a3w hB).1 ?_);have m3:=MH.pb T (nb:=j - 1) (by rw[show j - 1+1=j by omega];exact m2) hB low;by_cases c5:j - 1=1
             · refine a2o (by simpa using c5) ?_;exact wpS_pure ⟨s4,.inl ⟨_,_,rfl,m3.first T (hfirst _ (by (try dsimp only);omega))⟩⟩
             refine a2p (by simpa using c5) ?_;have hNA:p - 1+1=p:=by omega
             have dnA':∀ j (h:j<a.size) x,It x→lt x a[j]=false→j=p - 1→∀ y∈a.toList.take p,lt x y=false:=fun j h x ix hx e y hy=>dnA j h x ix hx y (by rw[e,hNA];exact hy);refine wpS_bind (a1r (a3w hI).1 ?_);refine wpS_bind (a4p C (key:=a[p - 1]) (arr:=b) (base:=0) (n:=j - 1) (hint:=j - 1 - 1) (x:=elF b a[p - 1] 0) (s4.kind.trans hk) (ita _ hI) (fun p hp=>a8z (by omega)) (fun p hp=>by rw[a1n (by omega)];exact itb _ (by omega)) (by omega) (a6v C (ita _ hI) (fun p hp=>by rw[a1n (by omega)];exact itb _ (by omega)) fun p q h1 h2=>a8y C.irr T.ib T.sb _ _ p q h1 (by omega)) fun p2 hk4 hk5 hk6=>?_);have low2:∀ y∈b.toList.take p2,lt a[p - 1] y=false:=fun y hy=>by
               obtain⟨q,hq,hqn,rfl⟩:=a7n hy;have h9:=b2x C (ita _ hI) (by rw[a1n (by omega)];exact itb _ (by omega)) (hk5 q hqn);rw[a1n (show 0+q<b.size by omega)] at h9;simpa using h9
             dsimp only;generalize eo:o.push b[j - 1]=o2 at m3 ⊢;clear eo;have hj1:1<j - 1:=by omega
             generalize ej:j - 1=j2 at m3 hj1 hk4 hk6 ⊢;generalize ek2:j2 - p2=kk2;generalize eo:o2=o0;revert o0;generalize ei:j2=i0;revert i0;refine a9v (fun o q=>1<q∧q≤j2∧MH lt a b o p q∧∀ y∈b.toList.take q,lt a[p - 1] y=false) (fun R k4=>?_) (fun k4=>⟨hj1,c5v _,m3,by rw[show j2=p2 by omega];exact low2⟩) ?_
             · have m4:=m3.pbs T (m:=p2) hk4 (fun t ht h1 h2=>dnA' _ hI _ (itb t ht) (by
                 have h9:=b2y C (ita _ hI) (by rw[a1n (by omega)];exact itb _ (by omega)) (hk6 t h1 h2);rw[a1n (show 0+t<b.size by omega)] at h9;simpa using h9) rfl)
               by_cases c6:p2=1
               · refine a2o (by simpa using c6) ?_;exact wpS_pure ⟨s4,.inl ⟨_,_,rfl,m4.first T (hfirst _ (by (try dsimp only);omega))⟩⟩
               refine a2p (by simpa using c6) ?_;by_cases c7:p2=0
               · refine a2o (by simpa using c7) ?_;exact wpS_pure ⟨s4,.inl ⟨_,_,rfl,m4.done T (.inr c7)⟩⟩
               refine a2p (by simpa using c7) ?_;exact R _ _ ⟨by omega,hk4,m4,low2⟩
             clear hk4 hk5 hk6 low2 m3 m2 low;rintro o q ⟨hq,hqj,m4,low2⟩;refine wpS_bind (a1r (a3w hI).1 ?_);have m5:=MH.pa T (na:=p - 1) (by rw[hNA];exact m4) hI low2;by_cases c8:p - 1=0
             · refine a2o (by simpa using c8) ?_;exact wpS_pure ⟨s4,.inl ⟨_,_,rfl,m5.done T (.inl c8)⟩⟩
             refine a2p (by simpa using c8) ?_;have sz:=m5.len;refine a5j ?_ ?_
             · exact wpS_pure ⟨s4,.inr ⟨_,_,_,_,_,_,rfl,⟨m5,by (try dsimp only);omega,by (try dsimp only);omega⟩,by (try dsimp only);omega⟩⟩
             · exact wpS_pure ⟨s4,_,_,_,_,_,_,rfl,⟨m5,by (try dsimp only);omega,by (try dsimp only);omega⟩,by (try dsimp only);omega⟩
           · rintro c st3 ⟨s3,i,j,out,g,ac,bc,rfl,hM,hs⟩;exact⟨s3,.inr ⟨i,j,out,g,ac,bc,rfl,hM,hs⟩⟩
           · rintro c st3 ⟨s3,⟨r,o,rfl,hr⟩ | ⟨i,j,out,g,ac,bc,rfl,hM,hs⟩⟩
             · exact wpS_pure ⟨s3,r,_,rfl,hr⟩
             · refine wpS_bind (a9u fun st4 s4=>?_);exact wpS_pure ⟨s3.trans s4,_,_,_,_,rfl,hM,by (try dsimp only);omega⟩
     · rintro c st1 ⟨s1,i,j,out,g,rfl,hM,hs⟩;rw[c9h] at hs;have:=hM.mh.len;have:=hM.ha;omega
     · rintro c st1 ⟨s1,r,o,rfl,hr⟩;exact wpS_pure (hQ r st1 s1 hr)
end
theorem b8v:∀ (m:List Keyed) (k d:Nat) (arr:Array Keyed),k+d+m.length≤arr.size→
   ((m.zipIdx d).foldl (fun a (p:Keyed×Nat)=>a.setIfInBounds (k+p.2) p.1) arr).toList=arr.toList.take (k+d)++m++arr.toList.drop (k+d+m.length)
 | [],k,d,arr,h=>by simp
 | x::m,k,d,arr,h=>by
   rw[c6y] at h;rw[List.zipIdx_cons,List.foldl_cons];have hs:(arr.setIfInBounds (k+d) x).size=arr.size:=by simp
   have:=b8v m k (d+1) (arr.setIfInBounds (k+d) x) (by rw[hs];omega);rw[this];have hl:arr.toList.length=arr.size:=c5o;rw[Array.toList_setIfInBounds];rw[show k+(d+1)=k+d+1 by omega];have e1:(arr.toList.set (k+d) x).take (k+d+1)=arr.toList.take (k+d)++[x]:=by
     rw[d0p,List.getElem?_set_self (by omega),List.take_set_of_le (c5v _)];rfl
   have e2:(arr.toList.set (k+d) x).drop (k+d+1+m.length)=arr.toList.drop (k+d+(m.length+1)):=by
     rw[List.drop_set_of_lt (by omega)];congr 1;omega
   rw[e1,e2,c6y];simp
section
variable {M:Model} {A:Around} {E:Value→Shared→Prop} {s:Shared} {κ:SortKind} {It:Keyed→Prop} {lt:Keyed→Keyed→Bool}
structure Run(lt:Keyed→Keyed→Bool)(l:List Keyed)(lo n:Nat):Prop where
 le:lo+n≤l.length
 srt:((l.drop lo).take n).Pairwise fun x y=>lt y x=false
structure Mrg(lt:Keyed→Keyed→Bool)(l l':List Keyed)(lo n:Nat):Prop where
 len:l'.length=l.length
 perm:l'.Perm l
 fst:l'.take lo=l.take lo
 lst:l'.drop (lo+n)=l.drop (lo+n)
 run:Run lt l' lo n
theorem Mrg.of{l X X' R:List Keyed}{sa n:Nat}(hX:l.drop sa=X++R)(hn:X.length=n)(hs:sa≤l.length)(hp:X'.Perm X)(hS:X'.Pairwise fun x y=>lt y x=false):Mrg lt l (l.take sa++X'++R) sa n:=by
 have el:l=l.take sa++X++R:=by rw[c6i,← hX,c7a]
 have hl':X'.length=n:=by rw[hp.length_eq,hn]
 have ht:(l.take sa).length=sa:=by rw[c6u];omega
 have hlen:l.length=sa+n+R.length:=by
   have:=congrArg c9v el;simp only[c5n,ht,hn] at this;omega
 have hd:(l.take sa++X'++R).drop sa=X'++R:=by rw[c6i,c9a (by omega),c9j (by omega)];rfl
 refine⟨?_,?_,?_,?_,?_,?_⟩
 · simp only[c5n,ht,hl'];omega
 · conv=>rhs;rw[el]
   exact c9p.append_right R (c9p.append_left _ hp)
 · rw[c6i,List.take_append_of_le_length (by omega),List.take_take,Nat.min_self]
 · rw[← c9u,hd,← c9u,hX,c9a (by omega),c9a (by omega),c9j (by omega),c9j (by omega)]
 · simp only[c5n,ht,hl'];omega
 · rw[hd,List.take_append_of_le_length (by omega),c6x (by omega)];exact hS
theorem mid_srt(C:Asks M A E s κ It lt){X1 X2 Y1 Y2 m:List Keyed}(iX:∀ x∈X1++X2,It x)(iY:∀ x∈Y1++Y2,It x)(sX:(X1++X2).Pairwise fun x y=>lt y x=false)(sY:(Y1++Y2).Pairwise fun x y=>lt y x=false)(hm:m.Perm (X2++Y1))(sm:m.Pairwise fun x y=>lt y x=false)(h1:∀ x∈X1,∀ y∈Y1++Y2,lt y x=false)(h2:∀ x∈X1++X2,∀ y∈Y2,lt y x=false):(X1++(m++Y2)).Pairwise fun x y=>lt y x=false:=by
 have pX:=c7g.mp sX;have pY:=c7g.mp sY;refine c7g.mpr ⟨pX.1,c7g.mpr ⟨sm,pY.2.1,fun x hx y hy=>?_⟩,fun x hx y hy=>?_⟩
 · rcases c6q.mp (hm.mem_iff.mp hx) with hx | hx
   · exact h2 x (c5u _ hx) y hy
   · exact pY.2.2 x hx y hy
 · rcases c6q.mp hy with hy | hy
   · rcases c6q.mp (hm.mem_iff.mp hy) with hy | hy
     · exact pX.2.2 x hx y hy
     · exact h1 x hx y (List.mem_append_left _ hy)
   · exact h1 x hx y (c5u _ hy)
theorem wpS_set{st st':SortSt}{Q:PUnit→SortSt→Prop}(h:Q ⟨⟩ st'):wpS M A E s (set st':StateT SortSt Sem PUnit) Q st:=by
 unfold wpS;rw[StateT.run_set];exact wpAny_pure ⟨rfl,h⟩
theorem wpS_setE{st st':SortSt}{Q:PUnit→SortSt→Prop}(h:∀ st1,st1=st'→Q ⟨⟩ st1):wpS M A E s (set st':StateT SortSt Sem PUnit) Q st:=wpS_set (h _ rfl)
theorem b0m{l:List Keyed}{lo n p:Nat}(h:p<n):((l.drop lo).take n)[p]?=l[lo+p]?:=by
 rw[d0d,if_pos h,c8d]
theorem c0o(l:List Keyed)(sa na nb:Nat):l.drop sa=(l.drop sa).take na++(l.drop (sa+na)).take nb++l.drop (sa+na+nb):=by
 have h1:l.drop (sa+na)=(l.drop (sa+na)).take nb++l.drop (sa+na+nb):=by
   conv=>lhs;rw[← c7a nb (l.drop (sa+na))]
   rw[c9u]
 have h2:l.drop sa=(l.drop sa).take na++l.drop (sa+na):=by
   conv=>lhs;rw[← c7a na (l.drop sa)]
   rw[c9u]
 rw[c6i,← h1];exact h2
theorem b6i(C:Asks M A E s κ It lt){st:SortSt}{i sa na pw nb pw2:Nat}{Q:Bool→SortSt→Prop}(hp1:(pendingOf st)[i]?=some (sa,na,pw))(hp2:(pendingOf st)[i+1]?=some (sa+na,nb,pw2))(hk:c8t st=κ)(hit:∀ x∈(arrOf st).toList,It x)(r1:Run lt (arrOf st).toList sa na)(r2:Run lt (arrOf st).toList (sa+na) nb)(n1:1≤na)(n2:1≤nb)(hf:failedOf st=none)(hQ:∀ st':SortSt,c8t st'=κ→failedOf st'=none→pendingOf st'=((pendingOf st).setIfInBounds i (sa,na+nb,pw)).eraseIdxIfInBounds (i+1)→Mrg lt (arrOf st).toList (arrOf st').toList sa (na+nb)→Q true st'):wpS M A E s (mergeAt' i) Q st:=by
 unfold mergeAt';refine wpS_bind (wpS_get ?_);rw[hp1,hp2];dsimp only;refine wpS_bind (wpS_setE fun st0 hst0=>?_);have la:(arrOf st).toList.length=(arrOf st).size:=c5o;obtain⟨arr,harr⟩ : ∃ arr,arrOf st=arr:=⟨_,rfl⟩
 rw[show (sortPriv% PySem.Builtin.SortState.a) st=arr from harr];rw[harr] at hit r1 r2 la;have hQ':∀ st':SortSt,c8t st'=κ→failedOf st'=none→pendingOf st'=((pendingOf st).setIfInBounds i (sa,na+nb,pw)).eraseIdxIfInBounds (i+1)→Mrg lt arr.toList (arrOf st').toList sa (na+nb)→Q true st':=by rw[← harr];exact hQ
 replace hQ:=hQ';have b1:=r1.le;have b2:=r2.le;rw[la] at b1 b2;have iA:∀ p (h:p<arr.size),It arr[p]:=fun p h=>hit _ (by simp);have k0:c8t st0=κ:=by rw[hst0];exact hk
 have a0:arrOf st0=arr:=by rw[hst0];exact harr
 have p0:pendingOf st0=((pendingOf st).setIfInBounds i (sa,na+nb,pw)).eraseIdxIfInBounds (i+1):=by rw[hst0]
 have f0:failedOf st0=none:=by rw[hst0];exact hf
 clear hst0;have eX:∀ p (h:p<na),((arr.toList.drop sa).take na)[p]?=some arr[sa+p]:=fun p h=>by rw[b0m h];exact (a3w (by omega)).2
 have eY:∀ p (h:p<nb),((arr.toList.drop (sa+na)).take nb)[p]?=some arr[sa+na+p]:=fun p h=>by rw[b0m h];exact (a3w (by omega)).2
 have lX:((arr.toList.drop sa).take na).length=na:=by rw[c6u,c6n,la];omega
 have lY:((arr.toList.drop (sa+na)).take nb).length=nb:=by rw[c6u,c6n,la];omega
 have hd:=c0o arr.toList sa na nb;have iX:∀ x∈(arr.toList.drop sa).take na,It x:=fun x hx=>hit x (c7l (c7p hx));have iY:∀ x∈(arr.toList.drop (sa+na)).take nb,It x:=fun x hx=>hit x (c7l (c7p hx));have sX:=r1.srt;have sY:=r2.srt;have srtX:∀ p q,(hpq:p≤q)→(h:q<na)→lt (arr[sa+q]'(by omega (config:={}))) (arr[sa+p]'(by omega (config:={})))=false:=fun p q hpq h=>by
   by_cases e:p=q
   · subst e;exact C.irr _ (iA _ _)
   · have:=c7t.mp sX p q (by omega) (by omega) (by omega);have e1:=eX p (by omega);have e2:=eX q h;rw[c5j (by omega)] at e1 e2;rw[c6e.inj e1,c6e.inj e2] at this;exact this
 have srtY:∀ p q,(hpq:p≤q)→(h:q<nb)→lt (arr[sa+na+q]'(by omega (config:={}))) (arr[sa+na+p]'(by omega (config:={})))=false:=fun p q hpq h=>by
   by_cases e:p=q
   · subst e;exact C.irr _ (iA _ _)
   · have:=c7t.mp sY p q (by omega) (by omega) (by omega);have e1:=eY p (by omega);have e2:=eY q h;rw[c5j (by omega)] at e1 e2;rw[c6e.inj e1,c6e.inj e2] at this;exact this
 obtain⟨X,hX⟩ : ∃ X,X=(arr.toList.drop sa).take na:=⟨_,rfl⟩
 obtain⟨Y,hY⟩ : ∃ Y,Y=(arr.toList.drop (sa+na)).take nb:=⟨_,rfl⟩
 obtain⟨R,hR⟩ : ∃ R,R=arr.toList.drop (sa+na+nb):=⟨_,rfl⟩
 rw[← hX] at hd sX lX iX;rw[← hY] at hd sY lY iY;rw[← hR] at hd;simp only[← hX] at eX;simp only[← hY] at eY;have hlxy:(X++Y).length=na+nb:=by rw[c5n,lX,lY]
 have memX:∀ x∈X,∃ p,∃ (h:p<na),x=arr[sa+p]'(by omega (config:={})):=fun x hx=>by
   obtain⟨p,hp,e⟩:=c6k hx;have e1:=eX p (by omega);rw[c5j hp,e] at e1;exact⟨p,by omega,c6e.inj e1⟩
 have memY:∀ x∈Y,∃ p,∃ (h:p<nb),x=arr[sa+na+p]'(by omega (config:={})):=fun x hx=>by
   obtain⟨p,hp,e⟩:=c6k hx;have e1:=eY p (by omega);rw[c5j hp,e] at e1;exact⟨p,by omega,c6e.inj e1⟩
 have stay:(∀ x∈X,∀ y∈Y,lt y x=false)→Mrg lt arr.toList arr.toList sa (na+nb):=fun h=>by
   have:=Mrg.of (lt:=lt) hd hlxy (by rw[la];omega) (c9p.refl _) (c7g.mpr ⟨sX,sY,h⟩)
   rwa [c6i,← hd,c7a] at this
 obtain⟨ey0,ey0'⟩:=a3w (show sa+na<arr.size by omega);refine wpS_bind (a1r ey0 ?_);refine wpS_bind (a4p C (x:=elF arr arr[sa+na] sa) k0 (iA _ _) (fun p hp=>a8z (by omega)) (fun p hp=>by rw[a1n (by omega)];exact iA _ _) (by omega) (a6v C (iA _ _) (fun p hp=>by rw[a1n (by omega)];exact iA _ _) fun p q h1 h2=>by rw[a1n (by omega),a1n (by omega)];exact srtX p q h1 h2) fun k hk0 hk1 hk2=>?_);dsimp only;have lowX:∀ p,p<k→(h:p<na)→lt arr[sa+na] (arr[sa+p]'(by omega (config:={})))=false:=fun p hp h=>by
   have:=b2x C (iA _ (by omega)) (by rw[a1n (by omega)];exact iA _ _) (hk1 p hp)
   rwa [a1n (by omega)] at this
 have highX:∀ p,k≤p→(h:p<na)→lt (arr[sa+p]'(by omega (config:={}))) arr[sa+na]=false:=fun p hp h=>by
   have:=b2y C (iA _ (by omega)) (by rw[a1n (by omega)];exact iA _ _) (hk2 p hp h)
   rwa [a1n (by omega)] at this
 have toY:∀ x,It x→lt arr[sa+na] x=false→∀ y∈Y,lt y x=false:=fun x ix hx y hy=>by
   obtain⟨q,hq,rfl⟩:=memY y hy;have:=srtY 0 q (by omega) hq;exact C.trans x arr[sa+na] _ ix (iA _ _) (iA _ _) hx this
 by_cases c1:na - k=0
 · rw[if_pos (by simpa using c1)];refine wpS_pure (hQ st0 k0 f0 p0 ?_);rw[a0];refine stay fun x hx y hy=>?_;obtain⟨p,hp,rfl⟩:=memX x hx;exact toY _ (iA _ _) (lowX p (by omega) hp) y hy
 · rw[if_neg (by simpa using c1)];obtain⟨el,el'⟩:=a3w (show sa+na - 1<arr.size by omega);refine wpS_bind (a1r (x:=arr[sa+na - 1]) (by rw[show sa+k+(na - k) - 1=sa+na - 1 by omega];exact el) ?_);refine wpS_bind (a4p C (x:=elF arr arr[sa+na] (sa+na)) k0 (iA _ _) (fun p hp=>a8z (by omega)) (fun p hp=>by rw[a1n (by omega)];exact iA _ _) (by omega) (a6v C (iA _ _) (fun p hp=>by rw[a1n (by omega)];exact iA _ _) fun p q h1 h2=>by rw[a1n (by omega),a1n (by omega)];exact srtY p q h1 h2) fun m hm0 hm1 hm2=>?_);dsimp only;have lowY:∀ p,p<m→(h:p<nb)→lt arr[sa+na - 1] (arr[sa+na+p]'(by omega (config:={})))=false:=fun p hp h=>by
     have:=b2x C (iA _ (by omega)) (by rw[a1n (by omega)];exact iA _ _) (hm1 p hp)
     rwa [a1n (by omega)] at this
   have highY:∀ p,m≤p→(h:p<nb)→lt (arr[sa+na+p]'(by omega (config:={}))) arr[sa+na - 1]=false:=fun p hp h=>by
     have:=b2y C (iA _ (by omega)) (by rw[a1n (by omega)];exact iA _ _) (hm2 p hp h)
     rwa [a1n (by omega)] at this
   have toX:∀ y,It y→lt y arr[sa+na - 1]=false→∀ x∈X,lt y x=false:=fun y iy hy x hx=>by
     obtain⟨p,hp,rfl⟩:=memX x hx;have:=srtX p (na - 1) (by omega) (by omega);simp only[show sa+(na - 1)=sa+na - 1 by omega] at this;exact C.trans _ arr[sa+na - 1] y (iA _ _) (iA _ _) iy this hy
   by_cases c2:m=0
   · rw[if_pos (by simpa using c2)];refine wpS_pure (hQ st0 k0 f0 p0 ?_);rw[a0];refine stay fun x hx y hy=>?_;obtain⟨q,hq,rfl⟩:=memY y hy;exact toX _ (iA _ _) (highY q (by omega) hq) x hx
   · rw[if_neg (by simpa using c2)];have x2:(arr.extract (sa+k) (sa+na)).toList=X.drop k:=by
       rw[c8y,c8f,hX,List.drop_take,c9u];congr 1;omega
     have y1:(arr.extract (sa+na) (sa+na+m)).toList=Y.take m:=by
       rw[c8y,c8f,hY,List.take_take];congr 1;omega
     have T:Two It lt (arr.extract (sa+k) (sa+na)).toList (arr.extract (sa+na) (sa+na+m)).toList:=by
       rw[x2,y1];exact⟨fun x hx=>iX x (c7l hx),fun x hx=>iY x (c7p hx),sX.sublist (d0k _ _),sY.sublist (List.take_sublist _ _)⟩
     have z1:(arr.extract (sa+k) (sa+na)).size=na - k:=by rw[Array.size_extract];omega
     have z2:(arr.extract (sa+na) (sa+na+m)).size=m:=by rw[Array.size_extract];omega
     have g0:∀ x,(arr.extract (sa+na) (sa+na+m))[0]?=some x→∀ y∈(arr.extract (sa+k) (sa+na)).toList,lt y x=false:=fun x hx y hy=>by
       rw[Array.getElem?_extract,if_pos (by omega)] at hx;have:x=arr[sa+na]:=by rw[Nat.add_zero,ey0] at hx;exact (c6e.inj hx).symm
       rw[this];rw[x2] at hy;obtain⟨p,hp,e⟩:=c6k hy;rw[c6n,lX] at hp;rw[List.getElem_drop] at e;have e1:=eX (k+p) (by omega);rw[c5j (by omega),e] at e1;rw[c6e.inj e1];exact highX (k+p) (by omega) (by omega)
     have gl:∀ x,(arr.extract (sa+k) (sa+na))[(arr.extract (sa+k) (sa+na)).size - 1]?=some x→∀ y∈(arr.extract (sa+na) (sa+na+m)).toList,lt x y=false:=fun x hx y hy=>by
       rw[z1,Array.getElem?_extract,if_pos (by omega),show sa+k+(na - k - 1)=sa+na - 1 by omega,el] at hx;rw[← c6e.inj hx];rw[y1] at hy;obtain⟨p,hp,e⟩:=c6k hy;rw[c6u,lY] at hp;rw[List.getElem_take] at e;have e1:=eY p (by omega);rw[c5j (by omega),e] at e1;rw[c6e.inj e1];exact lowY p (by omega) (by omega)
     have fin:∀ (r:Array Keyed) (st5:SortSt),a3y st0 st5→Mgd lt (arr.extract (sa+k) (sa+na)).toList (arr.extract (sa+na) (sa+na+m)).toList r.toList→
         Q true (SortSt.mk' (c8t st5) (r.toList.zipIdx.foldl (fun a x=>a.setIfInBounds (sa+k+x.2) x.1) (arrOf st5)) (pendingOf st5) (gallopOf st5) (failedOf st5)):=fun r st5 sg hr=>by
       refine hQ _ (sg.kind.trans k0) (sg.fail.trans f0) (sg.pend.trans p0) ?_;show Mrg lt arr.toList (r.toList.zipIdx.foldl (fun a x=>a.setIfInBounds (sa+k+x.2) x.1) (arrOf st5)).toList sa (na+nb);rw[sg.arr,a0];rw[x2,y1] at hr;have hrl:r.toList.length=na - k+m:=by
         rw[hr.1.length_eq,c5n,c6n,c6u,lX,lY];omega
       have:=b8v r.toList (sa+k) 0 arr (by omega);rw[Nat.add_zero] at this;rw[this,hrl];have e1:arr.toList.take (sa+k)=arr.toList.take sa++X.take k:=by
         rw[List.take_add,hX,List.take_take];congr 2;omega
       have e2:arr.toList.drop (sa+k+(na - k+m))=Y.drop m++R:=by
         have h1:arr.toList.drop (sa+na)=Y++R:=by
           have h0:=c7a nb (arr.toList.drop (sa+na));rw[c9u] at h0;rw[hY,hR];exact h0.symm
         rw[show sa+k+(na - k+m)=sa+na+m by omega,← c9u,h1,c9a (by omega)]
       rw[e1,e2];have srt:=mid_srt C (X1:=X.take k) (X2:=X.drop k) (Y1:=Y.take m) (Y2:=Y.drop m) (m:=r.toList) (by rw[c7a];exact iX) (by rw[c7a];exact iY) (by rw[c7a];exact sX) (by rw[c7a];exact sY) hr.1 hr.2 (fun x hx y hy=>by
           rw[c7a] at hy;obtain⟨p,hp,e⟩:=c6k hx;rw[c6u,lX] at hp;rw[List.getElem_take] at e;have e1:=eX p (by omega);rw[c5j (by omega),e] at e1;rw[c6e.inj e1];exact toY _ (iA _ _) (lowX p (by omega) (by omega)) y hy) (fun x hx y hy=>by
           rw[c7a] at hx;obtain⟨p,hp,e⟩:=c6k hy;rw[c6n,lY] at hp;rw[List.getElem_drop] at e;have e1:=eY (m+p) (by omega);rw[c5j (by omega),e] at e1;rw[c6e.inj e1];exact toX _ (iA _ _) (highY (m+p) (by omega) (by omega)) x hx)
       have pm:(X.take k++(r.toList++Y.drop m)).Perm (X++Y):=by
         have h1:(X.take k++(r.toList++Y.drop m)).Perm (X.take k++((X.drop k++Y.take m)++Y.drop m)):=c9p.append_left _ (c9p.append_right _ hr.1);refine h1.trans ?_;rw[c6i,c7a,← c6i,c7a]
       have:=Mrg.of (lt:=lt) hd hlxy (by rw[la];omega) pm srt;simpa [c6i] using this
     have leaf:∀ (r:Array Keyed) (st5:SortSt),a3y st0 st5→Mgd lt (arr.extract (sa+k) (sa+na)).toList (arr.extract (sa+na) (sa+na+m)).toList r.toList→(failedOf st5).isNone=true:=fun r st5 sg _=>by rw[sg.fail,f0];rfl
     refine a5j ?_ ?_
     · refine wpS_bind (wpS_mlo C T (by omega) (by omega) k0 g0 gl fun r st5 sg hr=>?_);refine wpS_bind (wpS_modify (wpS_bind (wpS_get (wpS_pure ?_))));have:=fin r st5 sg hr;rw[show (failedOf st5).isNone=true from leaf r st5 sg hr];exact this
     · refine wpS_bind (wpS_mhi C T (by omega) (by omega) k0 g0 gl fun r st5 sg hr=>?_);refine wpS_bind (wpS_modify (wpS_bind (wpS_get (wpS_pure ?_))));have:=fin r st5 sg hr;rw[show (failedOf st5).isNone=true from leaf r st5 sg hr];exact this
end
noncomputable def tsA(a:Array Keyed)(p:Nat):Keyed:=a.getD p (Value.none,Value.none)
theorem b0g{a:Array Keyed}{p:Nat}(h:p<a.size):a[p]?=some (tsA a p):=by unfold tsA;rw[d0r,c7o h];rfl
theorem a5u{a:Array Keyed}{p:Nat}(h:p<a.size):tsA a p∈a.toList:=by
 have:=b0g h;rw[← c8a] at this;exact c5p this
theorem b4n{a b:Array Keyed}{p q:Nat}(h:a[p]?=b[q]?):tsA a p=tsA b q:=by unfold tsA;rw[d0r,d0r,h]
section
variable {M:Model} {A:Around} {E:Value→Shared→Prop} {s:Shared} {κ:SortKind} {It:Keyed→Prop} {lt:Keyed→Keyed→Bool}
noncomputable def Sg(lt:Keyed→Keyed→Bool)(a:Array Keyed)(lo n:Nat):Prop:=∀ p q,p<q→q<n→lt (tsA a (lo+q)) (tsA a (lo+p))=false
theorem Sg.run{a:Array Keyed}{lo n:Nat}(h:Sg lt a lo n)(hn:lo+n≤a.size):Run lt a.toList lo n:=by
 have la:a.toList.length=a.size:=c5o;refine⟨by rw[la];exact hn,c7t.mpr fun p q hp hq hpq=>?_⟩;rw[c6u,c6n,la] at hp hq;have e:∀ p (h:p<((a.toList.drop lo).take n).length),((a.toList.drop lo).take n)[p]=tsA a (lo+p):=fun p h=>by
   have h':=h;rw[c6u,c6n,la] at h';have e1:((a.toList.drop lo).take n)[p]?=some (tsA a (lo+p)):=by rw[b0m (by omega),c8a];exact b0g (by omega)
   rw[c5j h] at e1;exact c6e.inj e1
 rw[e,e];exact h p q hpq (by omega)
structure SB(κ:SortKind)(l₀:List Keyed)(st:SortSt):Prop where
 kind:c8t st=κ
 fail:failedOf st=none
 perm:(arrOf st).toList.Perm l₀
theorem SB.size{l₀:List Keyed}{st:SortSt}(h:SB κ l₀ st):(arrOf st).size=l₀.length:=by rw[← c5o];exact h.perm.length_eq
noncomputable def Dst(lt:Keyed→Keyed→Bool)(l:List Keyed):Prop:=l.Pairwise fun x y=>lt x y=true∨lt y x=true
theorem Dst.perm{l l':List Keyed}(h:Dst lt l)(p:l'.Perm l):Dst lt l':=p.symm.pairwise h fun {x y} k=>k.symm
theorem Dst.at{a:Array Keyed}(h:Dst lt a.toList){p q:Nat}(hp:p<a.size)(hq:q<a.size)(ne:p≠q):lt (tsA a p) (tsA a q)=true∨lt (tsA a q) (tsA a p)=true:=by
 have la:a.toList.length=a.size:=c5o;have e:∀ p (h:p<a.size),a.toList[p]'(by omega (config:={}))=tsA a p:=fun p h=>by
   have:=b0g h;rw[← c8a,c5j (by omega)] at this;exact c6e.inj this
 rcases Nat.lt_or_gt_of_ne ne with k | k
 · have:=c7t.mp h p q (by omega) (by omega) k;rw[e p hp,e q hq] at this;exact this
 · have:=c7t.mp h q p (by omega) (by omega) k;rw[e p hp,e q hq] at this;exact this.symm
theorem b2j(C:Asks M A E s κ It lt){st:SortSt}{i j:Nat}{Q:Option Bool→SortSt→Prop}(hk:c8t st=κ)(hit:∀ x∈(arrOf st).toList,It x)(hi:i<(arrOf st).size)(hj:j<(arrOf st).size)(q:Q (some (lt (tsA (arrOf st) i) (tsA (arrOf st) j))) st):wpS M A E s (ltAt' i j) Q st:=by
 rw[ltAt'_eq];refine wpS_bind (wpS_get ?_);refine wpS_bind (a1r (b0g hi) (wpS_bind (a1r (b0g hj) ?_)));exact C.ask _ _ _ _ (hit _ (a5u hi)) (hit _ (a5u hj)) hk q
theorem b8e(C:Asks M A E s κ It lt){a:Array Keyed}(hit:∀ x∈a.toList,It x){lo n:Nat}(hn:lo+n≤a.size)(h:∀ k,1≤k→k<n→lt (tsA a (lo+k)) (tsA a (lo+k - 1))=false):Sg lt a lo n:=fun p q=>by
 induction q with
 | zero=>intro h1;omega
 | succ q ih=>
   intro hpq hq;have s1:=h (q+1) (by omega) hq;rw[show lo+(q+1) - 1=lo+q by omega] at s1;by_cases e:p=q
   · subst e;exact s1
   · exact C.trans _ (tsA a (lo+q)) _ (hit _ (a5u (by omega))) (hit _ (a5u (by omega))) (hit _ (a5u (by omega))) (ih (by omega) (by omega)) s1
theorem c1a(C:Asks M A E s κ It lt){l₀:List Keyed}{lo nrem:Nat}{st:SortSt}{Q:Option Nat→SortSt→Prop}(hB:SB κ l₀ st)(hD:Dst lt l₀)(iI:∀ x∈l₀,It x)(h1:1≤nrem)(hn:lo+nrem≤l₀.length)(hQ:∀ (n:Nat) (st':SortSt),1≤n→n≤nrem→SB κ l₀ st'→pendingOf st'=pendingOf st→(∀ p,p<lo→(arrOf st')[p]?=(arrOf st)[p]?)→Sg lt (arrOf st') lo n→Q (some n) st'):wpS M A E s (countRun' lo nrem) Q st:=by
 have hsz:=hB.size;have hit:∀ x∈(arrOf st).toList,It x:=fun x hx=>iI x (hB.perm.mem_iff.mp hx);have hDs:=hD.perm hB.perm;rw[countRun'_eq];dsimp only;refine wpS_bind (wpS_mono (wpS_forRange (I:=fun t c st'=>st'=st∧c=(none,t)∧(∀ k,1≤k→k<t→lt (tsA (arrOf st) (lo+k)) (tsA (arrOf st) (lo+k - 1))=false)) (Q:=fun c st'=>st'=st∧∃ w,c=(none,w)∧1≤w∧w≤nrem∧(∀ k,1≤k→k<w→lt (tsA (arrOf st) (lo+k)) (tsA (arrOf st) (lo+k - 1))=false)∧(w<nrem→lt (tsA (arrOf st) (lo+w)) (tsA (arrOf st) (lo+w - 1))=true)) ?_ ?_ ⟨rfl,rfl,fun k h1 h2=>by omega⟩) ?_)
 · rintro t c st' ht1 ht2 ⟨rfl,rfl,hc⟩;refine wpS_bind (b2j C hB.kind hit (by rw[hsz];omega) (by rw[hsz];omega) ?_);dsimp only;cases e:lt (tsA (arrOf st') (lo+t)) (tsA (arrOf st') (lo+t - 1)) with
   | true=>rw[if_pos rfl];exact wpS_pure ⟨rfl,t,rfl,ht1,by omega,hc,fun _=>e⟩
   | false=>
     rw[if_neg (by simp)];refine wpS_pure ⟨rfl,rfl,fun k k1 k2=>?_⟩;by_cases ek:k=t
     · subst ek;exact e
     · exact hc k k1 (by omega)
 · rintro c st' ⟨rfl,rfl,hc⟩;exact⟨rfl,_,rfl,by omega,by omega,hc,fun h=>by omega⟩
 · rintro c st' ⟨rfl,n,rfl,n1,n2,hc,hlast⟩;dsimp only;have sg:=b8e C hit (lo:=lo) (n:=n) (by omega) hc;by_cases c1:n=nrem
   · rw[if_pos (by simpa using c1)];exact wpS_pure (hQ n st' n1 n2 hB rfl (fun _ _=>rfl) sg)
   rw[if_neg (by simpa using c1)];by_cases c2:n > 1
   · rw[if_pos c2];refine wpS_bind (b2j C hB.kind hit (by rw[hsz];omega) (by rw[hsz];omega) ?_);dsimp only;have e:=sg 0 (n - 1) (by omega) (by omega);rw[Nat.add_zero,show lo+(n - 1)=lo+n - 1 by omega] at e;have e2:lt (tsA (arrOf st') lo) (tsA (arrOf st') (lo+n - 1))=true:=by
       rcases hDs.at (p:=lo) (q:=lo+n - 1) (by rw[hsz];omega) (by rw[hsz];omega) (by omega) with z | z
       · exact z
       · rw[e] at z;cases z
     rw[e2,if_pos rfl];exact wpS_pure (hQ n st' n1 n2 hB rfl (fun _ _=>rfl) sg)
   rw[if_neg c2];obtain rfl:n=1:=by omega
   refine wpS_bind (wpS_lift (wpAny_rule ⟨rfl,?_⟩));have hd1:=hlast (by omega);rw[show lo+1 - 1=lo by omega] at hd1;refine wpS_bind (wpS_mono (wpS_forRange (I:=fun t c st2=>st2=st'∧c=(none,t,0)∧(∀ k,1≤k→k<t→lt (tsA (arrOf st') (lo+k)) (tsA (arrOf st') (lo+k - 1))=true)) (Q:=fun c st2=>st2=st'∧∃ n,c=(none,n,0)∧2≤n∧n≤nrem∧(∀ k,1≤k→k<n→lt (tsA (arrOf st') (lo+k)) (tsA (arrOf st') (lo+k - 1))=true)) ?_ ?_ ⟨rfl,rfl,fun k h1 h2=>?_⟩) ?_)
   · rintro t c st2 ht1 ht2 ⟨rfl,rfl,hc⟩;refine wpS_bind (b2j C (i:=lo+t) (j:=lo+t - 1) hB.kind hit (by rw[hsz];omega) (by rw[hsz];omega) ?_);dsimp only;cases e:lt (tsA (arrOf st2) (lo+t)) (tsA (arrOf st2) (lo+t - 1)) with
     | true=>
       rw[if_pos rfl,if_neg (by omega)];refine wpS_pure ⟨rfl,rfl,fun k k1 k2=>?_⟩;by_cases ek:k=t
       · subst ek;exact e
       · exact hc k k1 (by omega)
     | false=>
       rw[if_neg (by simp)];refine wpS_bind (b2j C (i:=lo+t - 1) (j:=lo+t) hB.kind hit (by rw[hsz];omega) (by rw[hsz];omega) ?_);dsimp only;have e2:lt (tsA (arrOf st2) (lo+t - 1)) (tsA (arrOf st2) (lo+t))=true:=by
         rcases hDs.at (p:=lo+t - 1) (q:=lo+t) (by rw[hsz];omega) (by rw[hsz];omega) (by omega) with z | z
         · exact z
         · rw[e] at z;cases z
       rw[e2,if_pos rfl];exact wpS_pure ⟨rfl,t,rfl,by omega,by omega,hc⟩
   · rintro c st2 ⟨rfl,rfl,hc⟩;exact⟨rfl,_,rfl,by omega,by omega,hc⟩
   · obtain rfl:k=1:=by omega
     rw[show lo+1 - 1=lo by omega];exact hd1
   · rintro c st2 ⟨rfl,n,rfl,m1,m2,hd⟩;dsimp only;rw[if_neg (by omega)];refine wpS_bind ?_;rw[reverseSlice'_eq];refine wpS_modify ?_;have hB2:SB κ l₀ (setArr st2 (mirror (arrOf st2) lo (lo+n) ((lo+n - lo) / 2))):=⟨hB.kind,hB.fail,(Array.perm_iff_toList_perm.mp (mirror_perm _ _ _ _)).trans hB.perm⟩
     have hg:∀ k,(arrOf (setArr st2 (mirror (arrOf st2) lo (lo+n) ((lo+n - lo) / 2))))[k]?=if lo≤k∧k<lo+n then (arrOf st2)[lo+(lo+n) - 1 - k]? else (arrOf st2)[k]?:=fun k=>getElem?_mirror_all (by rw[hsz];omega) k
     have hpd:pendingOf (setArr st2 (mirror (arrOf st2) lo (lo+n) ((lo+n - lo) / 2)))=pendingOf st2:=rfl;generalize setArr st2 (mirror (arrOf st2) lo (lo+n) ((lo+n - lo) / 2))=st3 at *;have hsz3:=hB2.size;have hit3:∀ x∈(arrOf st3).toList,It x:=fun x hx=>iI x (hB2.perm.mem_iff.mp hx);refine wpS_bind (wpS_mono (wpS_forRange (I:=fun t c st'=>st'=st3∧c=(none,t)∧(∀ k,n≤k→k<t→lt (tsA (arrOf st3) (lo+k)) (tsA (arrOf st3) (lo+k - 1))=false)) (Q:=fun c st'=>st'=st3∧∃ w,c=(none,w)∧n≤w∧w≤nrem∧(∀ k,n≤k→k<w→lt (tsA (arrOf st3) (lo+k)) (tsA (arrOf st3) (lo+k - 1))=false)∧(w<nrem→lt (tsA (arrOf st3) (lo+w)) (tsA (arrOf st3) (lo+w - 1))=true)) ?_ ?_ ⟨rfl,rfl,fun k h1 h2=>by omega⟩) ?_)
     · rintro t c st' ht1 ht2 ⟨rfl,rfl,hc⟩;refine wpS_bind (b2j C hB2.kind hit3 (by rw[hsz3];omega) (by rw[hsz3];omega) ?_);dsimp only;cases e:lt (tsA (arrOf st') (lo+t)) (tsA (arrOf st') (lo+t - 1)) with
       | true=>rw[if_pos rfl];exact wpS_pure ⟨rfl,t,rfl,ht1,by omega,hc,fun _=>e⟩
       | false=>
         rw[if_neg (by simp)];refine wpS_pure ⟨rfl,rfl,fun k k1 k2=>?_⟩;by_cases ek:k=t
         · subst ek;exact e
         · exact hc k k1 (by omega)
     · rintro c st' ⟨rfl,rfl,hc⟩;exact⟨rfl,_,rfl,by omega,by omega,hc,fun h=>by omega⟩
     · rintro c st' ⟨rfl,r,rfl,r1,r2,hc3,_⟩;refine wpS_pure (hQ r st' (by omega) r2 hB2 hpd (fun p hp=>?_) (b8e C hit3 (by omega) fun k k1 k2=>?_))
       · rw[hg,if_neg (by omega)]
       · by_cases kn:n≤k
         · exact hc3 k kn k2
         · have g1:tsA (arrOf st') (lo+k)=tsA (arrOf st2) (lo+n - 1 - k):=b4n (by rw[hg,if_pos (by omega)];congr 1;omega);have g2:tsA (arrOf st') (lo+k - 1)=tsA (arrOf st2) (lo+n - 1 - k+1):=b4n (by rw[hg,if_pos (by omega)];congr 1;omega);rw[g1,g2];have:=hd (n - k) (by omega) (by omega);rw[show lo+(n - k)=lo+n - 1 - k+1 by omega,Nat.add_sub_cancel] at this;exact C.asym _ _ (hit _ (a5u (by rw[hsz];omega))) (hit _ (a5u (by rw[hsz];omega))) this
structure Kp(κ:SortKind)(l₀:List Keyed)(lo:Nat)(st st':SortSt):Prop where
 sb:SB κ l₀ st'
 pend:pendingOf st'=pendingOf st
 low:∀ p,p<lo→(arrOf st')[p]?=(arrOf st)[p]?
theorem Sg.le(C:Asks M A E s κ It lt){a:Array Keyed}(hit:∀ x∈a.toList,It x){lo n:Nat}(h:Sg lt a lo n)(hn:lo+n≤a.size){p q:Nat}(hpq:p≤q)(hq:q<n):lt (tsA a (lo+q)) (tsA a (lo+p))=false:=by
 by_cases e:p=q
 · subst e;exact C.irr _ (hit _ (a5u (by omega)))
 · exact h p q (by omega) hq
theorem wpS_ins(C:Asks M A E s κ It lt){l₀:List Keyed}{lo n ok:Nat}{st:SortSt}{Q:Bool→SortSt→Prop}(hB:SB κ l₀ st)(iI:∀ x∈l₀,It x)(hok1:1≤ok)(hok:ok≤n)(hn:lo+n≤l₀.length)(hS:Sg lt (arrOf st) lo ok)(hQ:∀ st':SortSt,Kp κ l₀ lo st st'→Sg lt (arrOf st') lo n→Q true st'):wpS M A E s (binarySort' lo n ok) Q st:=by
 rw[binarySort'_eq];refine wpS_bind (wpS_mono (wpS_forRange (I:=fun t c st'=>c=(none,())∧Kp κ l₀ lo st st'∧Sg lt (arrOf st') lo t) (Q:=fun c st'=>c=(none,())∧Kp κ l₀ lo st st'∧Sg lt (arrOf st') lo n) ?_ ?_ ⟨rfl,⟨hB,rfl,fun _ _=>rfl⟩,by rw[Nat.max_eq_left hok1];exact hS⟩) ?_)
 · rintro k c st1 hk1 hk2 ⟨rfl,kp,sg⟩;have hsz:=kp.sb.size;have hit:∀ x∈(arrOf st1).toList,It x:=fun x hx=>iI x (kp.sb.perm.mem_iff.mp hx);have iG:∀ p,p<l₀.length→It (tsA (arrOf st1) p):=fun p hp=>hit _ (a5u (by rw[hsz];exact hp));dsimp only;refine wpS_bind (wpS_mono (wpS_forRange (I:=fun t c st'=>st'=st1∧∃ l r,c=(none,l,r)∧l≤r∧r≤k∧r - l≤k - t∧(∀ p,p<l→lt (tsA (arrOf st1) (lo+k)) (tsA (arrOf st1) (lo+p))=false)∧(∀ p,r≤p→p<k→lt (tsA (arrOf st1) (lo+p)) (tsA (arrOf st1) (lo+k))=false)) (Q:=fun c st'=>st'=st1∧∃ l r,c=(none,l,r)∧l≤k∧(∀ p,p<l→lt (tsA (arrOf st1) (lo+k)) (tsA (arrOf st1) (lo+p))=false)∧(∀ p,l≤p→p<k→lt (tsA (arrOf st1) (lo+p)) (tsA (arrOf st1) (lo+k))=false)) ?_ ?_ ⟨rfl,0,k,rfl,by omega,by omega,by omega,fun p hp=>by omega,fun p h1 h2=>by omega⟩) ?_)
   · rintro t c st' ht1 ht2 ⟨rfl,l,r,rfl,h1,h2,h3,hl,hr⟩;dsimp only;by_cases e:l≥r
     · rw[if_pos e];obtain rfl:l=r:=by omega
       exact wpS_pure ⟨rfl,l,l,rfl,h2,hl,hr⟩
     · rw[if_neg e];refine wpS_bind (b2j C (i:=lo+k) (j:=lo+(l+r) / 2) kp.sb.kind hit (by rw[hsz];omega) (by rw[hsz];omega) ?_);dsimp only;cases b:lt (tsA (arrOf st') (lo+k)) (tsA (arrOf st') (lo+(l+r) / 2)) with
       | true=>
         rw[if_pos rfl];refine wpS_pure ⟨rfl,l,(l+r) / 2,rfl,by omega,by omega,by omega,hl,fun p p1 p2=>?_⟩;exact C.trans _ (tsA (arrOf st') (lo+(l+r) / 2)) _ (iG _ (by omega)) (iG _ (by omega)) (iG _ (by omega)) (C.asym _ _ (iG _ (by omega)) (iG _ (by omega)) b) (sg.le C hit (by rw[hsz];omega) p1 p2)
       | false=>
         rw[if_neg (by simp)];refine wpS_pure ⟨rfl,(l+r) / 2+1,r,rfl,by omega,h2,by omega,fun p hp=>?_,hr⟩;exact C.trans _ (tsA (arrOf st') (lo+(l+r) / 2)) _ (iG _ (by omega)) (iG _ (by omega)) (iG _ (by omega)) (sg.le C hit (by rw[hsz];omega) (by omega) (by omega)) b
   · rintro c st' ⟨rfl,l,r,rfl,h1,h2,h3,hl,hr⟩;rw[c9h] at h3;obtain rfl:l=r:=by omega
     exact⟨rfl,l,l,rfl,h2,hl,hr⟩
   · rintro c st' ⟨rfl,l,r,rfl,hlk,hl,hr⟩;dsimp only;refine wpS_bind ?_;rw[moveDown'_eq];refine wpS_modify ?_;have hg:∀ p,(arrOf (setArr st' (bubble (arrOf st') (lo+k) (lo+k - (lo+l)))))[p]?=if p=lo+l then (arrOf st')[lo+k]? else if lo+l<p∧p≤lo+k then (arrOf st')[p - 1]? else (arrOf st')[p]?:=fun p=>by
       have:=getElem?_bubble (xs:=arrOf st') (src:=lo+k) (by rw[hsz];omega) (lo+k - (lo+l)) (by omega) p;rw[show lo+k - (lo+k - (lo+l))=lo+l by omega] at this;exact this
     have kp2:Kp κ l₀ lo st (setArr st' (bubble (arrOf st') (lo+k) (lo+k - (lo+l)))):=⟨⟨kp.sb.kind,kp.sb.fail,(Array.perm_iff_toList_perm.mp (bubble_perm _ _ _)).trans kp.sb.perm⟩,kp.pend,fun p hp=>by rw[hg,if_neg (by omega),if_neg (by omega)];exact kp.low p hp⟩
     generalize setArr st' (bubble (arrOf st') (lo+k) (lo+k - (lo+l)))=st2 at *;refine wpS_pure ⟨rfl,kp2,fun p q hpq hq=>?_⟩;have g1:tsA (arrOf st2) (lo+l)=tsA (arrOf st') (lo+k):=b4n (by rw[hg,if_pos rfl]);have g2:∀ p,p<l→tsA (arrOf st2) (lo+p)=tsA (arrOf st') (lo+p):=fun p hp=>b4n (by rw[hg,if_neg (by omega),if_neg (by omega)]);have g3:∀ p,l<p→p≤k→tsA (arrOf st2) (lo+p)=tsA (arrOf st') (lo+(p - 1)):=fun p hp hk=>b4n (by rw[hg,if_neg (by omega),if_pos (by omega)];congr 1;omega);rcases Nat.lt_trichotomy p l with hp | rfl | hp
     · rw[g2 p hp];rcases Nat.lt_trichotomy q l with hq' | rfl | hq'
       · rw[g2 q hq'];exact sg p q hpq (by omega)
       · rw[g1];exact hl p hp
       · rw[g3 q hq' (by omega)];exact sg p (q - 1) (by omega) (by omega)
     · rw[g1,g3 q hpq (by omega)];exact hr (q - 1) (by omega) (by omega)
     · rw[g3 p hp (by omega),g3 q (by omega) (by omega)];exact sg (p - 1) (q - 1) (by omega) (by omega)
 · rintro c st1 ⟨rfl,kp,sg⟩;rw[show max (max ok 1) n=n by omega] at sg;exact⟨rfl,kp,sg⟩
 · rintro c st1 ⟨rfl,kp,sg⟩;exact wpS_pure (hQ st1 kp sg)
noncomputable def Ch(lt:Keyed→Keyed→Bool)(l:List Keyed):Nat→List (Nat×Nat×Nat)→Nat→Prop
 | b,[],e=>b=e
 | b,(x,n,_)::r,e=>x=b∧1≤n∧Run lt l b n∧Ch lt l (b+n) r e
theorem Ch.app{l:List Keyed}:∀ {P Q:List (Nat×Nat×Nat)} {b e:Nat},Ch lt l b (P++Q) e↔∃ m,Ch lt l b P m∧Ch lt l m Q e
 | [],Q,b,e=>⟨fun h=>⟨b,rfl,h⟩,fun⟨m,h1,h2⟩=>by cases h1;exact h2⟩
 | (x,n,w)::P,Q,b,e=>by
   constructor
   · rintro⟨h1,h2,h3,h4⟩;obtain⟨m,h5,h6⟩:=Ch.app.mp h4;exact⟨m,⟨h1,h2,h3,h5⟩,h6⟩
   · rintro⟨m,⟨h1,h2,h3,h5⟩,h6⟩;exact⟨h1,h2,h3,Ch.app.mpr ⟨m,h5,h6⟩⟩
theorem Ch.le{l:List Keyed}:∀ {P:List (Nat×Nat×Nat)} {b e:Nat},Ch lt l b P e→b+P.length≤e
 | [],b,e,h=>by cases h;simp
 | (x,n,w)::P,b,e,⟨h1,h2,h3,h4⟩=>by have:=Ch.le h4;simp only[c6y];omega
theorem Ch.keep{l l':List Keyed}(hl:l'.length=l.length):∀ {P:List (Nat×Nat×Nat)} {b e:Nat},Ch lt l b P e→(∀ p,b≤p→p<e→l'[p]?=l[p]?)→Ch lt l' b P e
 | [],b,e,h,_=>h
 | (x,n,w)::P,b,e,⟨h1,h2,h3,h4⟩,hk=>by
   have hle:=Ch.le h4;refine⟨h1,h2,⟨by rw[hl];exact h3.le,?_⟩,Ch.keep hl h4 fun p p1 p2=>hk p (by omega) p2⟩;have:(l'.drop b).take n=(l.drop b).take n:=by
     refine c7y fun i=>?_;by_cases hi:i<n
     · rw[b0m hi,b0m hi];exact hk _ (by omega) (by omega)
     · rw[d0d,if_neg hi,d0d,if_neg hi]
   rw[this];exact h3.srt
theorem b6k{l l':List Keyed}{n p:Nat}(h:l'.take n=l.take n)(hp:p<n):l'[p]?=l[p]?:=by
 have:=congrArg (fun z=>z[p]?) h;simp only[d0d,if_pos hp] at this;exact this
theorem b1i{l l':List Keyed}{n p:Nat}(h:l'.drop n=l.drop n)(hp:n≤p):l'[p]?=l[p]?:=by
 have:=congrArg (fun z=>z[p - n]?) h;simp only[c8d] at this
 rwa [show n+(p - n)=p by omega] at this
theorem Ch.merge{l l':List Keyed}{P1 P2:List (Nat×Nat×Nat)}{sa na w nb w2 sb b e:Nat}(h:Ch lt l b (P1++(sa,na,w)::(sb,nb,w2)::P2) e) :
   sb=sa+na∧1≤na∧1≤nb∧Run lt l sa na∧Run lt l (sa+na) nb∧(Mrg lt l l' sa (na+nb)→Ch lt l' b (P1++(sa,na+nb,w)::P2) e):=by
 obtain⟨m,h1,e1,n1,r1,e2,n2,r2,h2⟩:=Ch.app.mp h;obtain rfl:=e1;obtain rfl:=e2;refine⟨rfl,n1,n2,r1,r2,fun g=>Ch.app.mpr ⟨sa,h1.keep g.len fun p _ p2=>b6k g.fst p2,rfl,by omega,g.run,?_⟩⟩;rw[show sa+(na+nb)=sa+na+nb by omega];exact h2.keep g.len fun p p1 _=>b1i g.lst (by omega)
structure SP(lt:Keyed→Keyed→Bool)(κ:SortKind)(l₀:List Keyed)(lo:Nat)(st:SortSt):Prop where
 sb:SB κ l₀ st
 ch:Ch lt (arrOf st).toList 0 (pendingOf st).toList lo
theorem split2{α:Type}{P:List α}{i:Nat}(h:i+1<P.length):∃ P1 x y P2,P=P1++x::y::P2∧P1.length=i:=by
 refine⟨P.take i,P[i]'(by omega (config:={})),P[i+1]'h,P.drop (i+2),?_,by rw[c6u];omega⟩
 conv=>lhs;rw[← c7a i P]
 congr 1;rw[c9o (by omega),c9o h]
theorem a7c(C:Asks M A E s κ It lt){l₀:List Keyed}{lo i:Nat}{st:SortSt}{Q:Bool→SortSt→Prop}(iI:∀ x∈l₀,It x)(h:SP lt κ l₀ lo st)(hi:i+1<(pendingOf st).size)(hQ:∀ st':SortSt,SP lt κ l₀ lo st'→(pendingOf st').size+1=(pendingOf st).size→1≤(pendingOf st').size→(∀ p,lo≤p→(arrOf st').toList[p]?=(arrOf st).toList[p]?)→Q true st'):wpS M A E s (mergeAt' i) Q st:=by
 obtain⟨P1,⟨sa,na,w⟩,⟨sb,nb,w2⟩,P2,eP,eI⟩:=split2 (P:=(pendingOf st).toList) (i:=i) (by rw[c5o];exact hi);have hc:=h.ch;rw[eP] at hc;have hlen:(pendingOf st).size=P1.length+2+P2.length:=by rw[← c5o,eP];simp;omega
 obtain⟨rfl,n1,n2,r1,r2,mg⟩:=Ch.merge (l':=(arrOf st).toList) hc;have g1:(pendingOf st)[i]?=some (sa,na,w):=by rw[← c8a,eP,← eI];simp
 have g2:(pendingOf st)[i+1]?=some (sa+na,nb,w2):=by rw[← c8a,eP,← eI,c6d (by omega)];simp
 refine b6i C g1 g2 h.sb.kind (fun x hx=>iI x (h.sb.perm.mem_iff.mp hx)) r1 r2 n1 n2 h.sb.fail fun st' k1 k2 k3 k4=>?_;have eP':(pendingOf st').toList=P1++(sa,na+nb,w)::P2:=by
   rw[k3,Array.toList_eraseIdxIfInBounds,Array.toList_setIfInBounds,eP,← eI];simp only[List.set_append_right _ _ (c5v _),Nat.sub_self,List.set_cons_zero];rw[List.eraseIdx_append_of_length_le (by omega),show P1.length+1 - P1.length=1 by omega];rfl
 refine hQ st' ⟨⟨k1,k2,k4.perm.trans h.sb.perm⟩,by rw[eP'];exact (Ch.merge (l':=(arrOf st').toList) hc).2.2.2.2.2 k4⟩ ?_ ?_ ?_
 · rw[hlen,← c5o,eP'];simp;omega
 · rw[← c5o,eP'];simp;omega
 · intro p hp;obtain⟨m,h1,e1,n1',r1',e2,n2',r2',h2⟩:=Ch.app.mp hc;have:=Ch.le h2;exact b1i k4.lst (by omega)
theorem Ch.pw{l:List Keyed}{f:Nat×Nat×Nat→Nat×Nat×Nat}(hf:∀ x,(f x).1=x.1∧(f x).2.1=x.2.1):∀ {P:List (Nat×Nat×Nat)} {b e:Nat} (i:Nat),Ch lt l b P e→Ch lt l b (P.modify i f) e
 | [],b,e,i,h=>by simpa using h
 | (x,n,w)::P,b,e,0,⟨h1,h2,h3,h4⟩=>by
   obtain⟨f1,f2⟩:=hf (x,n,w);rw[List.modify_zero_cons];revert f1 f2;generalize f (x,n,w)=z;obtain⟨x',n',w'⟩:=z;rintro rfl rfl;exact⟨h1,h2,h3,h4⟩
 | (x,n,w)::P,b,e,i+1,⟨h1,h2,h3,h4⟩=>by
   rw[List.modify_succ_cons];exact⟨h1,h2,h3,Ch.pw hf i h4⟩
theorem b6h(C:Asks M A E s κ It lt){l₀:List Keyed}{st:SortSt}{Q:Unit→SortSt→Prop}(iI:∀ x∈l₀,It x)(hD:Dst lt l₀)(hB:SB κ l₀ st)(hp:pendingOf st = #[])(h1:1≤l₀.length)(hQ:∀ st':SortSt,SB κ l₀ st'→(arrOf st').toList.Pairwise (fun x y=>lt y x=false)→Q () st'):wpS M A E s sortRuns' Q st:=by
 have hsz:=hB.size;rw[sortRuns'_eq];refine wpS_bind (wpS_get ?_);rw[hsz];refine wpS_bind (wpS_mono (wpS_forRange (I:=fun t c st'=>∃ lo,c=(none,lo)∧t≤lo∧lo≤l₀.length∧SP lt κ l₀ lo st') (Q:=fun c st'=>c=(none,l₀.length)∧SP lt κ l₀ l₀.length st') ?_ ?_ ⟨0,rfl,c7c _,c7c _,hB,by rw[hp];rfl⟩) ?_)
 · rintro t c st1 _ ht ⟨lo,rfl,h2,h3,sp⟩;dsimp only;by_cases c1:lo≥l₀.length
   · rw[if_pos c1];obtain rfl:lo=l₀.length:=by omega
     exact wpS_pure ⟨rfl,sp⟩
   rw[if_neg c1];refine wpS_bind (c1a C sp.sb hD iI (by omega) (by omega) fun f st2 f1 f2 hB2 hp2 hlow2 sg2=>?_);dsimp only;have hz2:=hB2.size;have spOf:∀ st3:SortSt,SB κ l₀ st3→pendingOf st3=pendingOf st1→(∀ p,p<lo→(arrOf st3)[p]?=(arrOf st1)[p]?)→SP lt κ l₀ lo st3:=fun st3 b3 p3 l3=>⟨b3,by
     rw[p3];exact sp.ch.keep (by rw[c5o,c5o,b3.size,sp.sb.size]) fun p _ p2=>by rw[c8a,c8a];exact l3 p p2⟩
   by_cases c2:f<minRun' l₀.length l₀.length 0
   · rw[if_pos c2];refine wpS_bind (wpS_lift (wpAny_rule ⟨rfl,?_⟩));refine wpS_bind (wpS_ins C hB2 iI f1 (by omega) (by omega) sg2 fun st3 kp3 sg3=>?_);rw[if_neg (by simp)];have nn1:1≤min (l₀.length - lo) (minRun' l₀.length l₀.length 0):=by omega
     have nn2:lo+min (l₀.length - lo) (minRun' l₀.length l₀.length 0)≤l₀.length:=by omega
     have sp3:=spOf st3 kp3.sb (kp3.pend.trans hp2) (fun p hp=>(kp3.low p hp).trans (hlow2 p hp));have rn:=sg3.run (by rw[kp3.sb.size];omega);refine wpS_bind (wpS_get ?_);have push:∀ st6:SortSt,SP lt κ l₀ lo st6→Run lt (arrOf st6).toList lo (min (l₀.length - lo) (minRun' l₀.length l₀.length 0))→SP lt κ l₀ (lo+(min (l₀.length - lo) (minRun' l₀.length l₀.length 0))) (setPending st6 ((pendingOf st6).push (lo,(min (l₀.length - lo) (minRun' l₀.length l₀.length 0)),0))):=fun st6 sp6 r6=>⟨⟨sp6.sb.kind,sp6.sb.fail,sp6.sb.perm⟩,by
       show Ch lt (arrOf st6).toList 0 ((pendingOf st6).push (lo,(min (l₀.length - lo) (minRun' l₀.length l₀.length 0)),0)).toList (lo+(min (l₀.length - lo) (minRun' l₀.length l₀.length 0)));rw[d0n];exact Ch.app.mpr ⟨lo,sp6.ch,rfl,nn1,r6,rfl⟩⟩
     cases hb:(pendingOf st3).back? with
     | none=>
       exact wpS_bind (wpS_modify (wpS_pure ⟨_,rfl,by omega,by omega,push st3 sp3 rn⟩))
     | some bk=>
       obtain⟨s1,n1,w1⟩:=bk;dsimp only;refine wpS_bind (wpS_mono (wpS_forRange (I:=fun _ c st'=>c=(none,())∧SP lt κ l₀ lo st'∧Run lt (arrOf st').toList lo (min (l₀.length - lo) (minRun' l₀.length l₀.length 0))) (Q:=fun c st'=>c=(none,())∧SP lt κ l₀ lo st'∧Run lt (arrOf st').toList lo (min (l₀.length - lo) (minRun' l₀.length l₀.length 0))) ?_ (fun c st' h=>h) ⟨rfl,sp3,rn⟩) ?_)
       · rintro t' c st4 _ _ ⟨rfl,sp4,r4⟩;refine wpS_bind (wpS_get ?_);by_cases c5:(pendingOf st4).size > 1
         · rw[if_pos c5,c7o (show (pendingOf st4).size - 2<(pendingOf st4).size by omega)];dsimp only;refine a5j (wpS_pure ⟨rfl,sp4,r4⟩) ?_;refine wpS_bind (a7c C iI sp4 (by omega) fun st5 sp5 _ _ k5=>?_);rw[if_neg (by simp)];refine wpS_pure ⟨rfl,sp5,?_⟩;have hl5:(arrOf st5).toList.length=(arrOf st4).toList.length:=by rw[c5o,c5o,sp5.sb.size,sp4.sb.size]
           exact (Ch.keep (lt:=lt) hl5 (P:=[(lo,(min (l₀.length - lo) (minRun' l₀.length l₀.length 0)),0)]) (b:=lo) (e:=lo+(min (l₀.length - lo) (minRun' l₀.length l₀.length 0))) ⟨rfl,nn1,r4,rfl⟩ fun p p1 _=>k5 p p1).2.2.1
         · rw[if_neg c5];exact wpS_pure ⟨rfl,sp4,r4⟩
       · rintro c st4 ⟨rfl,sp4,r4⟩;dsimp only;refine wpS_bind (wpS_modify ?_);have sp5:∀ g:Nat×Nat×Nat→Nat×Nat×Nat,(∀ x,(g x).1=x.1∧(g x).2.1=x.2.1)→SP lt κ l₀ lo (setPending st4 ((pendingOf st4).modify ((pendingOf st4).size - 1) g)):=fun g hg=>⟨⟨sp4.sb.kind,sp4.sb.fail,sp4.sb.perm⟩,by
           show Ch lt (arrOf st4).toList 0 ((pendingOf st4).modify ((pendingOf st4).size - 1) g).toList lo;rw[Array.toList_modify];exact Ch.pw hg _ sp4.ch⟩
         exact wpS_bind (wpS_modify (wpS_pure ⟨_,rfl,by omega,by omega,push _ (sp5 _ fun x=>⟨rfl,rfl⟩) r4⟩))
   · rw[if_neg c2];have nn1:=f1;have sp3:=spOf st2 hB2 hp2 hlow2;have rn:=sg2.run (by rw[hz2];omega);refine wpS_bind (wpS_get ?_);have push:∀ st6:SortSt,SP lt κ l₀ lo st6→Run lt (arrOf st6).toList lo (f)→SP lt κ l₀ (lo+(f)) (setPending st6 ((pendingOf st6).push (lo,(f),0))):=fun st6 sp6 r6=>⟨⟨sp6.sb.kind,sp6.sb.fail,sp6.sb.perm⟩,by
       show Ch lt (arrOf st6).toList 0 ((pendingOf st6).push (lo,(f),0)).toList (lo+(f));rw[d0n];exact Ch.app.mpr ⟨lo,sp6.ch,rfl,nn1,r6,rfl⟩⟩
     cases hb:(pendingOf st2).back? with
     | none=>
       exact wpS_bind (wpS_modify (wpS_pure ⟨_,rfl,by omega,by omega,push st2 sp3 rn⟩))
     | some bk=>
       obtain⟨s1,n1,w1⟩:=bk;dsimp only;refine wpS_bind (wpS_mono (wpS_forRange (I:=fun _ c st'=>c=(none,())∧SP lt κ l₀ lo st'∧Run lt (arrOf st').toList lo (f)) (Q:=fun c st'=>c=(none,())∧SP lt κ l₀ lo st'∧Run lt (arrOf st').toList lo (f)) ?_ (fun c st' h=>h) ⟨rfl,sp3,rn⟩) ?_)
       · rintro t' c st4 _ _ ⟨rfl,sp4,r4⟩;refine wpS_bind (wpS_get ?_);by_cases c5:(pendingOf st4).size > 1
         · rw[if_pos c5,c7o (show (pendingOf st4).size - 2<(pendingOf st4).size by omega)];dsimp only;refine a5j (wpS_pure ⟨rfl,sp4,r4⟩) ?_;refine wpS_bind (a7c C iI sp4 (by omega) fun st5 sp5 _ _ k5=>?_);rw[if_neg (by simp)];refine wpS_pure ⟨rfl,sp5,?_⟩;have hl5:(arrOf st5).toList.length=(arrOf st4).toList.length:=by rw[c5o,c5o,sp5.sb.size,sp4.sb.size]
           exact (Ch.keep (lt:=lt) hl5 (P:=[(lo,(f),0)]) (b:=lo) (e:=lo+(f)) ⟨rfl,nn1,r4,rfl⟩ fun p p1 _=>k5 p p1).2.2.1
         · rw[if_neg c5];exact wpS_pure ⟨rfl,sp4,r4⟩
       · rintro c st4 ⟨rfl,sp4,r4⟩;dsimp only;refine wpS_bind (wpS_modify ?_);have sp5:∀ g:Nat×Nat×Nat→Nat×Nat×Nat,(∀ x,(g x).1=x.1∧(g x).2.1=x.2.1)→SP lt κ l₀ lo (setPending st4 ((pendingOf st4).modify ((pendingOf st4).size - 1) g)):=fun g hg=>⟨⟨sp4.sb.kind,sp4.sb.fail,sp4.sb.perm⟩,by
           show Ch lt (arrOf st4).toList 0 ((pendingOf st4).modify ((pendingOf st4).size - 1) g).toList lo;rw[Array.toList_modify];exact Ch.pw hg _ sp4.ch⟩
         exact wpS_bind (wpS_modify (wpS_pure ⟨_,rfl,by omega,by omega,push _ (sp5 _ fun x=>⟨rfl,rfl⟩) r4⟩))
 · rintro c st1 ⟨lo,rfl,h2,h3,sp⟩;rw[c9h] at h2;obtain rfl:lo=l₀.length:=by omega
   exact⟨rfl,sp⟩
 · rintro c st1 ⟨rfl,sp⟩;dsimp only;refine wpS_bind (wpS_mono (wpS_forRange (I:=fun t c st'=>c=(none,())∧SP lt κ l₀ l₀.length st'∧(pendingOf st').size≤l₀.length+1 - t) (Q:=fun c st'=>c=(none,())∧SP lt κ l₀ l₀.length st'∧(pendingOf st').size≤1) ?_ ?_ ⟨rfl,sp,?_⟩) ?_)
   · rintro t c st2 _ ht ⟨rfl,sp,hs⟩;refine wpS_bind (wpS_get ?_);by_cases c1:(pendingOf st2).size≤1
     · rw[if_pos c1];exact wpS_pure ⟨rfl,sp,c1⟩
     rw[if_neg c1];have key:∀ (i:Nat),i+1<(pendingOf st2).size→wpS M A E s (mergeAt' i) (fun a st'=>a=true∧SP lt κ l₀ l₀.length st'∧(pendingOf st').size≤l₀.length+1 - (t+1)) st2:=fun i hi=>a7c C iI sp hi fun st3 h3 h4 h5 _=>⟨rfl,h3,by omega⟩
     refine wpS_bind (wpS_mono (key _ ?_) ?_)
     · have:∀ (c:Prop) [Decidable c],(if c then (pendingOf st2).size - 2 - 1 else (pendingOf st2).size - 2)+1<(pendingOf st2).size:=fun c _=>by
         by_cases h:c
         · rw[if_pos h];omega
         · rw[if_neg h];omega
       exact this _
     · rintro b st3 ⟨rfl,h3,h4⟩;rw[if_neg (by simp)];exact wpS_pure ⟨rfl,h3,h4⟩
   · rintro c st2 ⟨rfl,sp,hs⟩;rw[c9h] at hs;exact⟨rfl,sp,by omega⟩
   · have:=Ch.le sp.ch;rw[c5o] at this;omega
   · rintro c st2 ⟨rfl,sp,hs⟩;refine wpS_pure (hQ st2 sp.sb ?_);have hc:=sp.ch;have hz:=sp.sb.size;rcases e:(pendingOf st2).toList with _ | ⟨⟨x,n,w⟩,_ | ⟨y,r⟩⟩
     · rw[e] at hc;have:0=l₀.length:=hc;omega
     · rw[e] at hc;obtain⟨h4,h5,h6,h7⟩:=hc;have h8:0+n=l₀.length:=h7;have:=h6.srt;rw[List.drop_zero,c6x (by rw[c5o];omega)] at this;exact this
     · have:(pendingOf st2).size=(pendingOf st2).toList.length:=c5o.symm;rw[e] at this;simp at this;omega
end
end Cv
namespace L2
open PySem PySem.Spec PyProof.Rows
section
variable {κ:Type} [DecidableEq κ]
noncomputable def valV(kvs:List (κ×V))(k:κ):Option V:=(kvs.find? fun kv=>decide (kv.1=k)).map (·.2)
theorem valV_nil{k:κ}:valV ([]:List (κ×V)) k=none:=rfl
end
end L2
namespace Cv
open PySem PySem.Spec PyProof.Rows L2
section
variable {X:Cx}
theorem a3p(K:c5k)(h:X.K=K:=by rfl):a6x X (.type "list") (fun xs H Q=>∃ p ys,xs=[.ref p]∧(SqL K H p ys∨SqT K H p ys)∧∀ l,H l=none→Q (.ref l) (upd H l (.lst ys))):=by subst h;exact b5x
end
noncomputable def PtV(H:Hp)(v:V)(x y:Rat):Prop:=∃ a vx vy,v=.ref a∧H a=some (.tup [vx,vy])∧ShV H vx x∧ShV H vy y
theorem PtV.same{H H':Hp}{v:V}{x y:Rat}(h:PtV H v x y)(e:Same H H'):PtV H' v x y:=by
 obtain⟨a,vx,vy,rfl,h,h1,h2⟩:=h;exact⟨a,vx,vy,rfl,e _ _ h,h1.same e,h2.same e⟩
noncomputable def RwV(H:Hp)(v:V)(t b:Int):Prop:=∃ a,v=.ref a∧H a=some (.tup [.int t,.int b])
theorem RwV.same{H H':Hp}{v:V}{t b:Int}(h:RwV H v t b)(e:Same H H'):RwV H' v t b:=by
 obtain⟨a,rfl,h⟩:=h;exact⟨a,rfl,e _ _ h⟩
theorem a3e{H:Hp}{p b:Addr}{o x:HO}(h:H p=none)(e:H b=some x):upd H p o b=some x:=by rw[a0m (a0t e h)];exact e
theorem Bd.zero':Bd 1 (0:Rat):=⟨⟨by decide⟩,⟨by decide⟩⟩
theorem Bd.one':Bd 1 (1:Rat):=⟨⟨by decide⟩,⟨by decide⟩⟩
theorem PtV.tup{H H':Hp}{v:V}{x y:Rat}(h:PtV H v x y)(e:Tup H H'):PtV H' v x y:=by
 obtain⟨a,vx,vy,rfl,h,h1,h2⟩:=h;exact⟨a,vx,vy,rfl,e _ _ h,h1.tup e,h2.tup e⟩
theorem RwV.tup{H H':Hp}{v:V}{x y:Int}(h:RwV H v x y)(e:Tup H H'):RwV H' v x y:=by
 obtain⟨a,rfl,h⟩:=h;exact⟨a,rfl,e _ _ h⟩
theorem SqL.same'{K:c5k}{H H':Hp}{a:Addr}{xs:List V}(h:SqL K H a xs)(e:Same H H'):SqL K H' a xs:=e.seq h
theorem SqT.same'{K:c5k}{H H':Hp}{a:Addr}{xs:List V}(h:SqT K H a xs)(e:Same H H'):SqT K H' a xs:=SqT.same e h
noncomputable def RwQ(H:Hp)(v:V)(r:Rat)(n:Nat):Prop:=∃ t b:Int,RwV H v t b∧0<b∧(t:Rat)=r*(b:Rat)∧Sz n t∧Sz n b
theorem RwQ.same{H H':Hp}{v:V}{r:Rat}{n:Nat}(h:RwQ H v r n)(e:Same H H'):RwQ H' v r n:=by
 obtain⟨t,b,h1,h2⟩:=h;exact⟨t,b,h1.same e,h2⟩
theorem a9c{b:Int}(h:0<b):(b:Rat)≠0:=by
 intro z;have:b=0:=by exact_mod_cast z
 omega
theorem mulN{n m:Nat}{i j:Int}(h1:Sz n i)(h2:Sz m j)(h:n+m≤100000000):c5i i j:=mulB h1 h2 h
end Cv
namespace Cv
abbrev Pt:=Rat×Rat
noncomputable def btw(t a b:Rat):Rat:=a+t*(b - a)
noncomputable def btwP(t:Rat)(p q:Pt):Pt:=(btw t p.1 q.1,btw t p.2 q.2)
noncomputable def nxP(t:Rat)(ps:List Pt):List Pt:=c8v (btwP t) ps (ps.drop 1)
noncomputable def rowP(t:Rat)(ps:List Pt):Nat→List Pt
 | 0=>ps
 | r+1=>nxP t (rowP t ps r)
theorem a3n(t:Rat)(ps:List Pt):(nxP t ps).length=ps.length - 1:=by
 unfold nxP;rw[c8r,c6n];omega
theorem a3o(t:Rat)(ps:List Pt)(i:Nat){p q:Pt}(h1:ps[i]?=some p)(h2:ps[i+1]?=some q):(nxP t ps)[i]?=some (btwP t p q):=by
 unfold nxP;rw[c8h,c8d,h1,Nat.add_comm 1 i,h2]
theorem a9z(t:Rat)(ps:List Pt):∀ r,(rowP t ps r).length=ps.length - r
 | 0=>rfl
 | r+1=>by
   show (nxP t (rowP t ps r)).length=_;rw[a3n,a9z t ps r];omega
noncomputable def ptP(t:Rat)(ps:List Pt):Pt:=((rowP t ps (ps.length - 1))[0]?).getD (0,0)
theorem ptP_get(t:Rat)(ps:List Pt)(h:1≤ps.length):rowP t ps (ps.length - 1)=[ptP t ps]:=by
 have hl:=a9z t ps (ps.length - 1);have e:(rowP t ps (ps.length - 1)).length=1:=by omega
 match hq:rowP t ps (ps.length - 1),e with
 | [x],_=>unfold ptP;rw[hq];rfl
noncomputable def Ov(D:Int)(n:Nat)(x:Rat):Prop:=∃ m:Int,x*(D:Rat)=(m:Rat)∧Sz n m
theorem Ov.mono{D:Int}{n k:Nat}{x:Rat}(h:Ov D n x)(hk:n≤k):Ov D k x:=by
 obtain⟨m,e,z⟩:=h;exact⟨m,e,z.mono hk⟩
theorem Ov.bd{D:Int}{n d:Nat}{x:Rat}(h:Ov D n x)(hD:D≠0)(hd:Sz d D):Bd (max n d) x:=by
 obtain⟨m,e,z⟩:=h;rw[b5p hD e];exact Bd.of z hd hD
noncomputable def OvP(D:Int)(n:Nat)(p:Pt):Prop:=Ov D n p.1∧Ov D n p.2
end Cv
namespace Cv
open PySem PySem.Spec PyProof.Rows L2
structure PtsV(H:Hp)(vs:List V)(ps:List Pt):Prop where
 len:vs.length=ps.length
 get:∀ (i:Nat) v p,vs[i]?=some v→ps[i]?=some p→PtV H v p.1 p.2
theorem PtsV.tup{H H':Hp}{vs:List V}{ps:List Pt}(h:PtsV H vs ps)(t:Tup H H'):PtsV H' vs ps:=⟨h.len,fun i v p e1 e2=>(h.get i v p e1 e2).tup t⟩
theorem PtsV.same{H H':Hp}{vs:List V}{ps:List Pt}(h:PtsV H vs ps)(t:Same H H'):PtsV H' vs ps:=h.tup t.tup
theorem PtsV.nil(H:Hp):PtsV H [] []:=⟨rfl,fun i v p e _=>by simp at e⟩
theorem PtsV.snoc{H:Hp}{vs:List V}{ps:List Pt}{v:V}{p:Pt}(h:PtsV H vs ps)(hv:PtV H v p.1 p.2):PtsV H (vs++[v]) (ps++[p]):=by
 refine⟨by simp[h.len],fun i w q e1 e2=>?_⟩;by_cases hi:i<vs.length
 · rw[c5y hi] at e1;rw[c5y (by rw[← h.len];exact hi)] at e2;exact h.get i w q e1 e2
 · rw[c6d (by omega)] at e1;rw[c6d (by rw[← h.len];omega),← h.len] at e2;cases hk:i - vs.length with
   | zero=>
     rw[hk] at e1 e2;simp at e1 e2;subst e1 e2;exact hv
   | succ k=>rw[hk] at e1;simp at e1
theorem PtsV.at{H:Hp}{vs:List V}{ps:List Pt}(h:PtsV H vs ps){i:Nat}{p:Pt}(hp:ps[i]?=some p):∃ v,vs[i]?=some v∧PtV H v p.1 p.2:=by
 have hi:i<ps.length:=(c5m.mp hp).1;have e:vs[i]?=some (vs[i]'(by rw[h.len];exact hi)):=c5j _;exact⟨_,e,h.get i _ p e hp⟩
theorem b1v{α:Type}(xs:List α)(v:α)(h:xs[xs.length - 1]?=some v)(hl:1≤xs.length):atI xs (-1)=some v:=by
 rcases List.eq_nil_or_concat xs with rfl | ⟨ys,y,rfl⟩
 · simp at hl
 · have:(ys++[y])[ys.length]?=some v:=by simpa using h
   have e:y=v:=by simpa using this
   subst e;have:=atI_last ys y;simpa using this
theorem a1v{α:Type}{xs:List α}{j:Nat}{i:Int}{v:α}(e:i=(j:Int))(h:xs[j]?=some v):atI xs i=some v:=by subst e;exact b7i h
theorem cut_from{α:Type}(f:α→V)(xs:List α)(k:Nat)(h:k≤xs.length):cutV (xs.map f) (some (k:Int)) none=(xs.drop k).map f:=by
 unfold cutV;have e:HT.sIx (xs.map f).length 0 (some (k:Int))=k:=by
   have:=HT.b6t (xs.map f).length 0 k;rw[c5l] at this;rw[c5l];exact this.trans (by omega)
 rw[e,HT.b3l,← List.map_drop];refine c6x ?_;rw[c5l,c6n,c5l];omega
theorem b5t{α:Type}(f:α→V)(xs:List α)(k:Int)(n:Nat)(e:k=(n:Int))(h:n≤xs.length):cutV (xs.map f) (some k) none=(xs.drop n).map f:=by subst e;exact cut_from f xs n h
theorem a5r{B m:Int}{n:Nat}(hB:B≠0)(h:Sz n m):Ov B n (c5r m B):=by
 refine⟨m,?_,h⟩;rw[c9e];have hb':(B:Rat)≠0:=by
   intro z;exact hB (by exact_mod_cast z)
 grind
structure Mp where
 a:Rat
 b:Rat
 c:Rat
 d:Rat
 e:Rat
 f:Rat
noncomputable def MpV(H:Hp)(v:V)(m:Mp):Prop:=∃ x v0 v1 v2 v3 v4 v5,v=.ref x∧H x=some (.tup [v0,v1,v2,v3,v4,v5])∧ShV H v0 m.a∧ShV H v1 m.b∧ShV H v2 m.c∧ShV H v3 m.d∧ShV H v4 m.e∧ShV H v5 m.f
theorem MpV.tup{H H':Hp}{v:V}{m:Mp}(h:MpV H v m)(t:Tup H H'):MpV H' v m:=by
 obtain⟨x,v0,v1,v2,v3,v4,v5,rfl,h,h0,h1,h2,h3,h4,h5⟩:=h;exact⟨x,v0,v1,v2,v3,v4,v5,rfl,t _ _ h,h0.tup t,h1.tup t,h2.tup t,h3.tup t,h4.tup t,h5.tup t⟩
theorem MpV.same{H H':Hp}{v:V}{m:Mp}(h:MpV H v m)(t:Same H H'):MpV H' v m:=h.tup t.tup
theorem ixN_of{n:Nat}{k:Int}(h0:0≤k)(h1:k<(n:Int)):ixN n k=some k.toNat:=by
 unfold ixN;rw[if_pos h0,if_pos h1]
theorem a2g{H H':Hp}{D:Addr}{o:HO}(h:H D=none)(s:Same H H'):Same H (upd H' D o):=fun b u e=>by rw[a0m (a0t e h)];exact s b u e
end Cv
namespace Cv
noncomputable def a1g:List Int→Int
 | []=>1
 | b::r=>b*a1g r
theorem b5a(xs ys:List Int):a1g (xs++ys)=a1g xs*a1g ys:=by
 induction xs with
 | nil=>simp[a1g]
 | cons x r ih=>simp only[List.cons_append,a1g,ih,c9r]
theorem b2r(xs:List Int)(y:Int):a1g (xs++[y])=a1g xs*y:=by rw[b5a];simp[a1g]
theorem a4y{xs:List Int}(h:∀ x∈xs,0<x):0<a1g xs:=by
 induction xs with
 | nil=>decide
 | cons x r ih=>exact c7q (h x (.head _)) (ih fun y hy=>h y (.tail _ hy))
noncomputable def axR(tops bs:List Int):List Rat:=tops.map fun x=>c5r x (a1g bs)
theorem c3w{y x u:Int}(hc:c6o y x=1)(h:y∣x*u):y∣u:=by
 have h2:y.natAbs∣x.natAbs*u.natAbs:=by rw[← d0q];exact Int.natAbs_dvd_natAbs.mpr h
 exact Int.natAbs_dvd_natAbs.mp (Nat.Coprime.dvd_of_dvd_mul_left hc h2)
theorem c4j(a b:Int)(hb:0<b):∃ g x y:Int,(c6o a b:Int)=g∧0<g∧a=g*x∧b=g*y∧c6o x y=1∧0<y∧a.fdiv g=x∧b.fdiv g=y:=by
 have g0:0<(c6o a b:Int):=by
   have:=Int.gcd_pos_of_ne_zero_right a (show b≠0 by omega);omega
 obtain⟨x,hx⟩ : (c6o a b:Int)∣a:=Int.gcd_dvd_left ..;obtain⟨y,hy⟩ : (c6o a b:Int)∣b:=Int.gcd_dvd_right ..;have hc:c6o x y=1:=by
   have h1:c6o a b=c6o ((c6o a b:Int)*x) ((c6o a b:Int)*y):=by rw[← hx,← hy]
   rw[Int.gcd_mul_left,Int.natAbs_natCast] at h1;have h2:0<c6o a b:=by omega
   have h3:c6o a b*1=c6o a b*c6o x y:=by rw[Nat.mul_one];exact h1
   exact (Nat.eq_of_mul_eq_mul_left h2 h3).symm
 generalize (c6o a b:Int)=g at g0 hx hy;have hyp:0<y:=by
   rw[hy] at hb;rcases Int.lt_trichotomy y 0 with h | h | h
   · have:=Int.mul_neg_of_pos_of_neg g0 h;omega
   · rw[h,Int.mul_zero] at hb;omega
   · exact h
 refine⟨g,x,y,rfl,g0,hx,hy,hc,hyp,?_,?_⟩
 · rw[c7f _ (c9n g0),hx];exact c7n _ (by omega)
 · rw[c7f _ (c9n g0),hy];exact c7n _ (by omega)
theorem a4k{q:Rat}{D:Int}{n:Nat}(h:Ov D n q):(q.den:Int)∣D:=by
 obtain⟨m,e,_⟩:=h;have h1:=a3q q;have hd:=b7e q;have e2:(q.num:Rat)*(D:Rat)=(m:Rat)*((q.den:Int):Rat):=by rw[h1,← e];grind
 have e3:q.num*D=m*q.den:=by exact_mod_cast e2
 have hr:c6o q.den q.num=1:=by rw[Int.gcd_comm];exact q.reduced
 exact c3w hr ⟨m,by rw[e3];exact c8n ..⟩
theorem b8u{W d D:Int}(hd:0<d)(h1:W∣D)(h2:d∣D):d∣W*d.fdiv (c6o W d)∧W*d.fdiv (c6o W d)∣D∧0<d.fdiv (c6o W d)∧0<(c6o W d:Int)∧(c6o W d:Int)∣d:=by
 obtain⟨g,x,y,eg,g0,hx,hy,hc,hyp,ex,ey⟩:=c4j W d hd;rw[eg,ey];refine⟨⟨x,by rw[hx,hy];grind⟩,?_,hyp,g0,⟨y,hy⟩⟩;obtain⟨u,hu⟩:=h1;obtain⟨v,hv⟩:=h2;have e:x*u=y*v:=by
   have:g*(x*u)=g*(y*v):=by rw[← c9r,← c9r,← hx,← hy,← hu,hv]
   exact Int.eq_of_mul_eq_mul_left (by omega) this
 obtain⟨w,hw⟩:=c3w (y:=y) (x:=x) (u:=u) (by rw[Int.gcd_comm];exact hc) ⟨v,e⟩;exact⟨w,by rw[hu,hw];grind⟩
theorem b2k{n:Nat}{x D:Int}(hD:D≠0)(h:x∣D)(z:Sz n D):Sz n x:=z.le (Nat.le_of_dvd (by omega) (Int.natAbs_dvd_natAbs.mpr h))
end Cv
namespace Cv
open PySem PySem.Spec PyProof.Rows L2
structure ShL(H:Hp)(vs:List V)(qs:List Rat):Prop where
 len:vs.length=qs.length
 get:∀ (i:Nat) v q,vs[i]?=some v→qs[i]?=some q→ShV H v q
theorem ShL.tup{H H':Hp}{vs:List V}{qs:List Rat}(h:ShL H vs qs)(t:Tup H H'):ShL H' vs qs:=⟨h.len,fun i v q e1 e2=>(h.get i v q e1 e2).tup t⟩
theorem ShL.same{H H':Hp}{vs:List V}{qs:List Rat}(h:ShL H vs qs)(t:Same H H'):ShL H' vs qs:=h.tup t.tup
theorem ShL.at{H:Hp}{vs:List V}{qs:List Rat}(h:ShL H vs qs){i:Nat}{q:Rat}(hq:qs[i]?=some q):∃ v,vs[i]?=some v∧ShV H v q:=by
 have hi:i<qs.length:=(c5m.mp hq).1;have e:vs[i]?=some (vs[i]'(by rw[h.len];exact hi)):=c5j _;exact⟨_,e,h.get i _ q e hq⟩
theorem ShL.atV{H:Hp}{vs:List V}{qs:List Rat}(h:ShL H vs qs){i:Nat}{v:V}(hv:vs[i]?=some v):∃ q,qs[i]?=some q∧ShV H v q:=by
 have hi:i<vs.length:=(c5m.mp hv).1;have e:qs[i]?=some (qs[i]'(by rw[← h.len];exact hi)):=c5j _;exact⟨_,e,h.get i v _ hv e⟩
theorem PtsV.atV{H:Hp}{vs:List V}{ps:List Pt}(h:PtsV H vs ps){i:Nat}{v:V}(hv:vs[i]?=some v):∃ p,ps[i]?=some p∧PtV H v p.1 p.2:=by
 have hi:i<vs.length:=(c5m.mp hv).1;have e:ps[i]?=some (ps[i]'(by rw[← h.len];exact hi)):=c5j _;exact⟨_,e,h.get i v _ hv e⟩
noncomputable def AxV(H:Hp)(v:V)(n:Nat)(tops bs:List Int):Prop:=∃ a lt lb,v=.ref a∧H a=some (.tup [.ref lt,.ref lb])∧H lt=some (.lst (tops.map V.int))∧H lb=some (.lst (bs.map V.int))∧(∀ x∈tops,Sz n x)∧(∀ b∈bs,0<b∧Sz 9000 b)∧bs.length≤100∧tops.length≤1000
theorem AxV.same{H H':Hp}{v:V}{n:Nat}{tops bs:List Int}(h:AxV H v n tops bs)(s:Same H H'):AxV H' v n tops bs:=by
 obtain⟨a,lt,lb,e,h1,h2,h3,h4⟩:=h;exact⟨a,lt,lb,e,s _ _ h1,s _ _ h2,s _ _ h3,h4⟩
noncomputable def b8c(K:c5k):Sp:=fun vs H Q _=>∃ (a:Addr) (ws:List V) (qs:List Rat) (D:Int),vs=[.ref a]∧SqL K H a ws∧ShL H ws qs∧0<D∧Sz 9000 D∧(∀ q∈qs,(q.den:Int)∣D)∧qs.length≤40∧
 ∀ (l:Addr) (bs:List Int) (H':Hp),Same H H'→H' l=some (.lst (bs.map V.int))→(∀ b∈bs,0<b∧Sz 9000 b)→(∀ q∈qs,(q.den:Int)∣a1g bs)→a1g bs∣D→bs.length≤qs.length→Q (.ref l) H'
noncomputable def a7p(K:c5k):Sp:=fun vs H Q _=>∃ (a:Addr) (bs:List Int),vs=[.ref a]∧SqL K H a (bs.map V.int)∧(∀ b∈bs,0<b∧Sz 9000 b)∧bs.length≤100∧Q (.int (a1g bs)) H
theorem prod_sz{bs:List Int}(h:∀ b∈bs,0<b∧Sz 9000 b):Sz (9000*bs.length+1) (a1g bs):=by
 induction bs with
 | nil=>exact⟨by decide⟩
 | cons b r ih=>
   show Sz _ (b*a1g r);exact ((h b (.head _)).2.mul (ih fun c hc=>h c (.tail _ hc))).mono (by rw[c6y];omega)
theorem top_of{q:Rat}{W:Int}(hW:0<W)(h:(q.den:Int)∣W):c5r (q.num*W.fdiv q.den) W=q:=by
 have hd:0<(q.den:Int):=by have:=q.den_pos;omega
 obtain⟨w,hw⟩:=h;have e:W.fdiv q.den=w:=by
   rw[c7f _ (c9n hd)]
   conv=>lhs;rw[hw]
   exact c7n _ (by omega)
 rw[e];symm;refine b5p (by omega) ?_;have h1:=a3q q;rw[hw];simp only[c6b];rw[h1];grind
theorem c2d{n:Nat}{W d:Int}(hW:0<W)(hd:0<d)(h:d∣W)(z:Sz n W):Sz n (W.fdiv d):=by
 obtain⟨w,hw⟩:=h;have e:W.fdiv d=w:=by
   rw[c7f _ (c9n hd)]
   conv=>lhs;rw[hw]
   exact c7n _ (by omega)
 rw[e];exact b2k (by omega) ⟨d,by rw[hw];exact c8n ..⟩ z
theorem ints_at{bs:List Int}{i:Nat}{x:V}(h:(bs.map V.int)[i]?=some x):∃ b,bs[i]?=some b∧x=.int b:=by
 rw[c5t] at h;cases e:bs[i]? with
 | none=>rw[e] at h;cases h
 | some b=>rw[e] at h;cases h;exact⟨b,rfl,rfl⟩
theorem b4o{α:Type}{bs:List α}{i:Nat}{b:α}(h:bs[i]?=some b):bs.take (i+1)=bs.take i++[b]:=by rw[d0p,h];rfl
theorem b4h(t b:List Int):(axR t b).length=t.length:=by unfold axR;rw[c5l]
theorem ints_of{α:Type}{ys:List V}{qs:List α}{f:α→Int}(hl:ys.length=qs.length)(h:∀ (i:Nat) v,ys[i]?=some v→∀ q,qs[i]?=some q→v=.int (f q)):ys=(qs.map f).map V.int:=by
 refine c7y fun i=>?_;rw[c5t,c5t];cases e:ys[i]? with
 | none=>
   have:qs[i]?=none:=c6m (by have:=List.getElem?_eq_none_iff.mp e;omega);rw[this];rfl
 | some v=>
   have hi:i<qs.length:=by have:=(c5m.mp e).1;omega
   have e2:qs[i]?=some qs[i]:=c5j hi;rw[h i v e _ e2,e2];rfl
theorem axR_tops{qs:List Rat}{bs:List Int}(hb:0<a1g bs)(h:∀ q∈qs,(q.den:Int)∣a1g bs):axR (qs.map fun q=>q.num*(a1g bs).fdiv q.den) bs=qs:=by
 unfold axR;rw[d0b]
 conv=>rhs;rw[← List.map_id qs]
 refine c7x fun q hq=>?_;exact top_of hb (h q hq)
theorem ShL.map{H:Hp}{ys:List V}{ps:List Pt}{f:Pt→Rat}(hl:ys.length=ps.length)(h:∀ (i:Nat) v,ys[i]?=some v→∀ p,ps[i]?=some p→ShV H v (f p)):ShL H ys (ps.map f):=by
 refine⟨by rw[hl,c5l],fun i v q e1 e2=>?_⟩;rw[c5t] at e2;cases e3:ps[i]? with
 | none=>rw[e3] at e2;cases e2
 | some p=>rw[e3] at e2;cases e2;exact h i v e1 p e3
theorem b5l{t:List Int}{i:Nat}{x:Int}(h:t[i]?=some x):((t.map V.int)[i]?).getD V.non=.int x:=by rw[c5t,h];rfl
noncomputable def a2r(ts:List Rat)(ps:List Pt):List Pt:=ts.foldl (fun r t=>nxP t r) ps
noncomputable def polP(ts:List Rat)(ps:List Pt):Pt:=((a2r ts ps)[0]?).getD (0,0)
theorem a7e(ts:List Rat)(t:Rat)(ps:List Pt):a2r (ts++[t]) ps=nxP t (a2r ts ps):=by unfold a2r;rw[List.foldl_append];rfl
theorem a8r(ts:List Rat)(ps:List Pt):(a2r ts ps).length=ps.length - ts.length:=by
 induction ts generalizing ps with
 | nil=>simp[a2r]
 | cons t r ih=>
   show (a2r r (nxP t ps)).length=_;rw[ih,a3n,c6y];omega
theorem a6u(t:Rat)(ps:List Pt):∀ r,a2r (c5q r t) ps=rowP t ps r
 | 0=>rfl
 | r+1=>by
   rw[List.replicate_succ',a7e,a6u t ps r];rfl
theorem b3m(ts:List Rat)(ps:List Pt)(h:ps.length=ts.length+1):a2r ts ps=[polP ts ps]:=by
 have hl:=a8r ts ps;have e:(a2r ts ps).length=1:=by omega
 match hq:a2r ts ps,e with
 | [x],_=>unfold polP;rw[hq];rfl
noncomputable def strP(s t:Rat)(ps:List Pt)(k:Nat):Pt:=polP (c5q (ps.length - 1 - k) s++c5q k t) ps
noncomputable def a6l(t:Rat)(ps:List Pt):List Pt:=(c7s ps.length).map fun r=>((rowP t ps r)[0]?).getD (0,0)
noncomputable def b1c(t:Rat)(ps:List Pt):List Pt:=(c7s ps.length).map fun k=>((rowP t ps (ps.length - 1 - k))[k]?).getD (0,0)
theorem flat_rep{α:Type}(n:Nat)(x:α):(c5q n [x]).flatten=c5q n x:=by
 induction n with
 | zero=>rfl
 | succ n ih=>rw[c7j,d0j,ih,c7j];rfl
theorem c0n(t:Rat)(ps:List Pt):(a6l t ps).length=ps.length:=by unfold a6l;rw[c5l,c7z]
theorem c3o(t:Rat)(ps:List Pt):(b1c t ps).length=ps.length:=by unfold b1c;rw[c5l,c7z]
theorem btw_comm(s t a b c:Rat):btw s (btw t a b) (btw t b c)=btw t (btw s a b) (btw s b c):=by unfold btw;grind
theorem nxP_comm(s t:Rat)(ps:List Pt):nxP s (nxP t ps)=nxP t (nxP s ps):=by
 have hl:(nxP s (nxP t ps)).length=(nxP t (nxP s ps)).length:=by simp only[a3n]
 refine c7y fun i=>?_;by_cases hi:i+2<ps.length
 · have e0:ps[i]?=some (ps[i]'(by omega (config:={}))):=c5j _;have e1:ps[i+1]?=some (ps[i+1]'(by omega (config:={}))):=c5j _;have e2:ps[i+1+1]?=some (ps[i+1+1]'(by omega (config:={}))):=c5j _;rw[a3o s _ i (a3o t ps i e0 e1) (a3o t ps (i+1) e1 e2),a3o t _ i (a3o s ps i e0 e1) (a3o s ps (i+1) e1 e2)];unfold btwP;simp only[btw_comm]
 · have h1:(nxP s (nxP t ps))[i]?=none:=c6m (by simp only[a3n];omega);have h2:(nxP t (nxP s ps))[i]?=none:=c6m (by simp only[a3n];omega);rw[h1,h2]
theorem a2m(t:Rat)(ts:List Rat)(ps:List Pt):a2r (t::ts) ps=a2r ts (nxP t ps):=rfl
theorem b0q{ts us:List Rat}(h:ts.Perm us)(ps:List Pt):a2r ts ps=a2r us ps:=by
 induction h generalizing ps with
 | nil=>rfl
 | cons x _ ih=>rw[a2m,a2m];exact ih _
 | swap x y l=>rw[a2m,a2m,a2m,a2m,nxP_comm]
 | trans _ _ ih1 ih2=>rw[ih1,ih2]
theorem b5b{ts us:List Rat}(h:ts.Perm us)(ps:List Pt):polP ts ps=polP us ps:=by unfold polP;rw[b0q h ps]
theorem c4s(xs:List V)(k:Int)(n:Nat)(e:k=(n:Int)):cutV xs none (some k)=xs.take n:=by
 subst e;unfold cutV;rw[HT.b6t,HT.b3l,List.drop_zero,Nat.sub_zero];rw[List.take_eq_take_iff];omega
end Cv
namespace Cv
noncomputable def comb(u:Rat)(A B:List Pt):List Pt:=c8v (btwP u) A B
theorem b4f(u:Rat)(A B:List Pt):(comb u A B).length=min A.length B.length:=by unfold comb;rw[c8r]
theorem b0e{u:Rat}{A B:List Pt}{i:Nat}{a b:Pt}(h1:A[i]?=some a)(h2:B[i]?=some b):(comb u A B)[i]?=some (btwP u a b):=by unfold comb;rw[c8h,h1,h2]
theorem btw_mix(u s t a b:Rat):btw (btw u s t) a b=btw u (btw s a b) (btw t a b):=by unfold btw;grind
theorem btw_swap(u t a b c d:Rat):btw t (btw u a b) (btw u c d)=btw u (btw t a c) (btw t b d):=by unfold btw;grind
theorem nxP_mix(u s t:Rat)(ps:List Pt):nxP (btw u s t) ps=comb u (nxP s ps) (nxP t ps):=by
 refine c7y fun i=>?_;by_cases hi:i+1<ps.length
 · have e0:ps[i]?=some (ps[i]'(by omega (config:={}))):=c5j _;have e1:ps[i+1]?=some (ps[i+1]'(by omega (config:={}))):=c5j _;rw[a3o _ ps i e0 e1,b0e (a3o s ps i e0 e1) (a3o t ps i e0 e1)];unfold btwP;simp only[btw_mix]
 · rw[c6m (by rw[a3n];omega),c6m (by rw[b4f,a3n,a3n];omega)]
theorem nxP_comb(t u:Rat)(A B:List Pt)(h:A.length=B.length):nxP t (comb u A B)=comb u (nxP t A) (nxP t B):=by
 refine c7y fun i=>?_;by_cases hi:i+1<A.length
 · have a0:A[i]?=some (A[i]'(by omega (config:={}))):=c5j _;have a1:A[i+1]?=some (A[i+1]'(by omega (config:={}))):=c5j _;have b0:B[i]?=some (B[i]'(by omega (config:={}))):=c5j _;have b1:B[i+1]?=some (B[i+1]'(by omega (config:={}))):=c5j _;rw[a3o t _ i (b0e a0 b0) (b0e a1 b1),b0e (a3o t A i a0 a1) (a3o t B i b0 b1)];unfold btwP;simp only[btw_swap]
 · rw[c6m (by rw[a3n,b4f];omega),c6m (by rw[b4f,a3n,a3n];omega)]
theorem b0r(u:Rat):∀ (ts:List Rat) (A B:List Pt),A.length=B.length→a2r ts (comb u A B)=comb u (a2r ts A) (a2r ts B)
 | [],_,_,_=>rfl
 | t::r,A,B,h=>by
   rw[a2m,a2m,a2m,nxP_comb t u A B h];exact b0r u r _ _ (by rw[a3n,a3n,h])
theorem polP_mix(u s t:Rat)(ts:List Rat)(ps:List Pt)(h:ps.length=ts.length+2):polP (btw u s t::ts) ps=btwP u (polP (s::ts) ps) (polP (t::ts) ps):=by
 have e:a2r (btw u s t::ts) ps=comb u (a2r (s::ts) ps) (a2r (t::ts) ps):=by
   rw[a2m,nxP_mix,b0r u ts _ _ (by rw[a3n,a3n])];rfl
 have h1:=b3m (s::ts) ps (by rw[c6y];omega);have h2:=b3m (t::ts) ps (by rw[c6y];omega);have h3:=b3m (btw u s t::ts) ps (by rw[c6y];omega);rw[h1,h2,h3] at e;simp[comb] at e;exact e
noncomputable def strL(s t:Rat)(ps:List Pt):List Pt:=(c7s ps.length).map (strP s t ps)
theorem b7s(s t:Rat)(ps:List Pt):(strL s t ps).length=ps.length:=by unfold strL;rw[c5l,c7z]
theorem perm_mid(r n k:Nat)(w s t:Rat):(c5q r w++(c5q (n+1) s++c5q k t)).Perm (s::(c5q r w++(c5q n s++c5q k t))):=by
 rw[c7j,List.cons_append];exact List.perm_middle
theorem perm_end(r n k:Nat)(w s t:Rat):(c5q r w++(c5q n s++c5q (k+1) t)).Perm (t::(c5q r w++(c5q n s++c5q k t))):=by
 rw[c7j,← c6i];refine List.perm_middle.trans ?_;rw[c6i]
theorem b3c(u s t:Rat)(ps:List Pt):∀ r k,r+k<ps.length→(rowP u (strL s t ps) r)[k]?=some (polP (c5q r (btw u s t)++(c5q (ps.length - 1 - r - k) s++c5q k t)) ps)
 | 0,k,h=>by
   show (strL s t ps)[k]?=_;unfold strL;rw[c5t,d0x (by omega)];rfl
 | r+1,k,h=>by
   have h1:=b3c u s t ps r k (by omega);have h2:=b3c u s t ps r (k+1) (by omega);show (nxP u (rowP u (strL s t ps) r))[k]?=_;rw[a3o u _ k h1 h2];have e1:ps.length - 1 - r - k=(ps.length - 1 - (r+1) - k)+1:=by omega
   have e2:ps.length - 1 - r - (k+1)=ps.length - 1 - (r+1) - k:=by omega
   rw[e1,e2,b5b (perm_mid r _ k _ s t) ps,b5b (perm_end r _ k _ s t) ps];have hm:=polP_mix u s t (c5q r (btw u s t)++(c5q (ps.length - 1 - (r+1) - k) s++c5q k t)) ps (by simp;omega);rw[← hm];rw[c7j,List.cons_append]
theorem c1g(u s t:Rat)(ps:List Pt)(h:1≤ps.length):ptP u (strL s t ps)=ptP (btw u s t) ps:=by
 have h1:=b3c u s t ps (ps.length - 1) 0 (by omega);have h2:=ptP_get u (strL s t ps) (by rw[b7s];exact h);rw[b7s] at h2;rw[h2] at h1;have e0:ps.length - 1 - (ps.length - 1) - 0=0:=by omega
 rw[e0] at h1;simp only[List.replicate_zero,c8z,List.getElem?_cons_zero,c6e.injEq] at h1;rw[h1];have h3:=a6u (btw u s t) ps (ps.length - 1);unfold polP ptP;rw[h3]
theorem btw_zero(a b:Rat):btw 0 a b=a:=by unfold btw;grind
theorem btw_one(a b:Rat):btw 1 a b=b:=by unfold btw;grind
theorem nxP_zero(ps:List Pt)(i:Nat)(h:i+1<ps.length):(nxP 0 ps)[i]?=ps[i]?:=by
 have e0:ps[i]?=some (ps[i]'(by omega (config:={}))):=c5j _;have e1:ps[i+1]?=some (ps[i+1]'(by omega (config:={}))):=c5j _;rw[a3o 0 ps i e0 e1,e0];unfold btwP;simp only[btw_zero]
theorem nxP_one(ps:List Pt)(i:Nat)(h:i+1<ps.length):(nxP 1 ps)[i]?=ps[i+1]?:=by
 have e0:ps[i]?=some (ps[i]'(by omega (config:={}))):=c5j _;have e1:ps[i+1]?=some (ps[i+1]'(by omega (config:={}))):=c5j _;rw[a3o 1 ps i e0 e1,e1];unfold btwP;simp only[btw_one]
theorem b4x(ps:List Pt):∀ r i,r+i<ps.length→(a2r (c5q r 0) ps)[i]?=ps[i]?
 | 0,i,h=>rfl
 | r+1,i,h=>by
   rw[List.replicate_succ',a7e,nxP_zero _ i (by rw[a8r,c7i];omega)];exact b4x ps r i (by omega)
theorem b8h(ps:List Pt):∀ r i,r+i<ps.length→(a2r (c5q r 1) ps)[i]?=ps[i+r]?
 | 0,i,h=>rfl
 | r+1,i,h=>by
   rw[List.replicate_succ',a7e,nxP_one _ i (by rw[a8r,c7i];omega),b8h ps r (i+1) (by omega)];congr 1;omega
theorem a7s(ts us:List Rat)(ps:List Pt):a2r (ts++us) ps=a2r us (a2r ts ps):=by unfold a2r;rw[List.foldl_append]
theorem c0m(t:Rat)(ps:List Pt):a6l t ps=strL 0 t ps:=by
 unfold a6l strL;refine c7x fun k hk=>?_;have hk':=c9t.mp hk;unfold strP polP;rw[b0q (List.perm_append_comm) ps,a7s,a6u t ps k,b4x _ _ 0 (by rw[a9z];omega)]
theorem c3n(t:Rat)(ps:List Pt):b1c t ps=strL t 1 ps:=by
 unfold b1c strL;refine c7x fun k hk=>?_;have hk':=c9t.mp hk;unfold strP polP;rw[a7s,a6u t ps,b8h _ _ 0 (by rw[a9z];omega),Nat.zero_add]
theorem first_pt(u t:Rat)(ps:List Pt)(h:1≤ps.length):ptP u (a6l t ps)=ptP (t*u) ps:=by
 rw[c0m,c1g u 0 t ps h];congr 1;unfold btw;grind
theorem last_pt(u t:Rat)(ps:List Pt)(h:1≤ps.length):ptP u (b1c t ps)=ptP (btw u t 1) ps:=by
 rw[c3n,c1g u t 1 ps h]
end Cv
namespace Cv
open PySem PySem.Spec PyProof.Rows L2
theorem ShL.nil(H:Hp):ShL H [] []:=⟨rfl,fun i v q e=>by simp at e⟩
theorem ShL.snoc{H:Hp}{vs:List V}{qs:List Rat}{v:V}{q:Rat}(h:ShL H vs qs)(hv:ShV H v q):ShL H (vs++[v]) (qs++[q]):=by
 refine⟨by rw[c5n,c5n,h.len];rfl,fun i x y e1 e2=>?_⟩;have hl:=h.len;by_cases hi:i<vs.length
 · rw[c5y hi] at e1;rw[c5y (by omega)] at e2;exact h.get i x y e1 e2
 · rw[c6d (by omega)] at e1 e2;rw[hl] at e1;match hj:i - qs.length,e1,e2 with
   | 0,e1,e2=>cases e1;cases e2;exact hv
   | j+1,e1,e2=>simp at e1
theorem len2{α:Type}{l:List α}(h:l.length=2):∃ x y,l=[x,y]:=by
 match l,h with
 | [x,y],_=>exact⟨x,y,rfl⟩
noncomputable def ch:Nat→Nat→Nat
 | _,0=>1
 | 0,_+1=>0
 | n+1,k+1=>ch n k+ch n (k+1)
noncomputable def sm(f:Nat→Rat):Nat→Rat
 | 0=>0
 | n+1=>sm f n+f n
theorem c0l{K:c5k}{J:It}{H1:Hp}{n:Nat}{f f':Nat→V}{g:TG}{tb:TS}{D:Ends}{σ:L2.St}(hJ:a8i K J H1 n f f')(Pv:Nat→L2.St→Hp→Prop)(h0:Pv 0 σ H1)(hS:∀ i σ H,Pv i σ H→Same H1 H)(hs:∀ i a σ H H',i<n→Pv i σ H→Same H H'→SqT K H' a [f i,f' i]→g (.ref a) σ H' fun σ2 H2=>tb { D with nx:=Pv (i+1),ct:=Pv (i+1),bk:=D.nx } σ2 H2)(hd:∀ σ H,Pv n σ H→D.nx σ H) :
   ∃ W:Nat→Nat→L2.St→Hp→Prop,(∃ m,W 0 m σ H1)∧∀ i m σ H,W i m σ H→
     (J.stop i H∧D.nx σ H)∨(J.go i H∧∃ N:L2.St→Hp→Prop,(∀ σ' H',N σ' H'→∃ m',m' < m∧W (i+1) m' σ' H')∧∀ x H',J.yld i H x H'→g x σ H' fun σ2 H2=>tb { D with nx:=N,ct:=N,bk:=D.nx } σ2 H2):=by
 refine⟨fun i m σ H=>m=n - i∧i≤n∧Pv i σ H,⟨n,by simp,c7c _,h0⟩,?_⟩;rintro i m σ H ⟨rfl,hi,p⟩;have q:=hJ H (hS i σ H p) i;by_cases hlt:i<n
 · refine .inr ⟨(q.1 hlt).1,Pv (i+1),fun σ' H' p'=>⟨n - (i+1),by omega,rfl,hlt,p'⟩,fun x H' y=>?_⟩;obtain⟨s,a,rfl,ht⟩:=(q.1 hlt).2 x H' y;exact hs i a σ H H' hlt p s ht
 · have e:i=n:=by omega
   subst e;exact .inl ⟨q.2 rfl,hd σ H p⟩
theorem b2o{α:Type}(f:Nat→α)(n:Nat):(c7s (n+1)).map f=(c7s n).map f++[f n]:=by rw[List.range_succ,d0f];rfl
theorem cut_rest(xs:List V)(h:1≤xs.length):cutV xs (some 1) none=xs.drop 1:=by
 have:=b5t (fun v:V=>v) xs 1 1 rfl h;simpa using this
section
variable {X:Cx}
theorem c4w(hc:X.calm=true):a6x X (.builtin "sum") (fun xs H Q=>∃ (p:Addr) (ns:List Int),xs=[.ref p]∧SqL X.K H p (ns.map V.int)∧Q (.int ns.sum) H):=by
 intro pins s σ H xs us Q I r h;obtain⟨p,ns,rfl,hq,q⟩:=h;obtain⟨u,rfl,ru⟩:=a7l r;cases ru;obtain⟨its,rv,pl,hz⟩:=I.list hq;have hi:IntsAre its ns:=a8w rv;obtain⟨ys,hx⟩:=hi.allInts.items;have hl':s.heap.IsList p (intItems ys):=hx ▸ pl.isList;refine sum_intListG (show X.A.handled=none from I.ok.hd hc) hl' fun h' tk t' hk=>?_;have e1:ns=ys.toList.map (·.1):=by
   rw[← nums_intItems,← hx];exact (show numsOf its.toArray.toList=ns from hi.numsOf).symm
 have e2:preSum (numAt ys) ys.size=ns.sum:=by
   rw[preSum_eq,c6x (by simp),e1]
 rw[e2];exact⟨.int _,H,I.kept (h':=h') (t':=tk) hk,⟨_,rfl⟩,q⟩
theorem c4x(hc:X.calm=true):a6x X (.builtin "min") (fun xs H Q=>∃ (p:Addr) (ns:List Int),xs=[.ref p]∧SqL X.K H p (ns.map V.int)∧0<ns.length∧∀ M,M∈ns→(∀ a∈ns,M≤a)→Q (.int M) H):=by
 intro pins s σ H xs us Q I r h;obtain⟨p,ns,rfl,hq,hne,q⟩:=h;obtain⟨u,rfl,ru⟩:=a7l r;cases ru;obtain⟨its,rv,pl,hz⟩:=I.list hq;have hi:IntsAre its ns:=a8w rv;obtain⟨ys,e⟩:=hi.allInts.items;have hns:ns=ys.toList.map (·.1):=by rw[← hi.numsOf,← nums_intItems,← e]
 have hsz:0<ys.size:=by have h3:=hne;rw[hns,c5l,c5o] at h3;exact h3
 have hl':s.heap.IsList p (intItems ys):=e ▸ pl.isList;refine min_intList (show X.A.handled=none from I.ok.hd hc) hl' hsz fun v h' tk hv hk=>?_;obtain⟨t,rfl⟩:=intItems_at hv;obtain⟨h1,h2⟩:=argBest_lt (numAt ys) (ys.size - 1);refine⟨.int _,H,I.kept (h':=h') (t':=tk) hk,⟨_,rfl⟩,q _ ?_ fun a ha=>?_⟩
 · rw[hns,numAt_eq];exact getD_mem (by rw[c5l,c5o];omega)
 · rw[hns] at ha;obtain⟨j,hj,rfl⟩:=mem_getD ha;rw[c5l,c5o] at hj;rw[← numAt_eq];exact h2 j (by omega)
theorem c4y(hc:X.calm=true):a6x X (.builtin "max") (fun xs H Q=>∃ (p:Addr) (ns:List Int),xs=[.ref p]∧SqL X.K H p (ns.map V.int)∧0<ns.length∧∀ M,M∈ns→(∀ a∈ns,a≤M)→Q (.int M) H):=by
 intro pins s σ H xs us Q I r h;obtain⟨p,ns,rfl,hq,hne,q⟩:=h;obtain⟨u,rfl,ru⟩:=a7l r;cases ru;obtain⟨its,rv,pl,hz⟩:=I.list hq;have hi:IntsAre its ns:=a8w rv;obtain⟨ys,e⟩:=hi.allInts.items;have hns:ns=ys.toList.map (·.1):=by rw[← hi.numsOf,← nums_intItems,← e]
 have hsz:0<ys.size:=by have h3:=hne;rw[hns,c5l,c5o] at h3;exact h3
 have hl':s.heap.IsList p (intItems ys):=e ▸ pl.isList;refine max_intList (show X.A.handled=none from I.ok.hd hc) hl' hsz fun v h' tk hv hk=>?_;obtain⟨t,rfl⟩:=intItems_at hv;obtain⟨h1,h2⟩:=argBest_gt (numAt ys) (ys.size - 1);refine⟨.int _,H,I.kept (h':=h') (t':=tk) hk,⟨_,rfl⟩,q _ ?_ fun a ha=>?_⟩
 · rw[hns,numAt_eq];exact getD_mem (by rw[c5l,c5o];omega)
 · rw[hns] at ha;obtain⟨j,hj,rfl⟩:=mem_getD ha;rw[c5l,c5o] at hj;rw[← numAt_eq];exact h2 j (by omega)
end
noncomputable def TK(K:c5k)(H:Hp)(a:Addr)(xs:List V):Prop:=H a=some (.tup xs)∨∃ (o:Obj) (its:Array Value) (n:Nat),K.lookup a=some o∧o.cls=.type "tuple" ∧ o.data=.seq its n∧its.size≤sizeLine∧Vals xs its.toList
theorem TK.of{K:c5k}{H:Hp}{a:Addr}{xs:List V}(h:H a=some (.tup xs)):TK K H a xs:=.inl h
theorem TK.sq{K:c5k}{H:Hp}{a:Addr}{xs:List V}(h:TK K H a xs):SqT K H a xs:=by
 rcases h with h | h
 · exact SqT.of h
 · exact .inr h
theorem TK.tup{K:c5k}{H H':Hp}{a:Addr}{xs:List V}(h:TK K H a xs)(t:Tup H H'):TK K H' a xs:=by
 rcases h with h | h
 · exact .inl (t _ _ h)
 · exact .inr h
structure ShK(K:c5k)(H:Hp)(v:V)(q:Rat):Prop where
 ex:∃ a,v=.ref a∧TK K H a [.int q.num,.int (q.den:Int)]
structure PtK(K:c5k)(H:Hp)(v:V)(x y:Rat):Prop where
 ex:∃ a vx vy,v=.ref a∧TK K H a [vx,vy]∧ShK K H vx x∧ShK K H vy y
structure PtsK(K:c5k)(H:Hp)(vs:List V)(ps:List Pt):Prop where
 len:vs.length=ps.length
 get:∀ (i:Nat) v p,vs[i]?=some v→ps[i]?=some p→PtK K H v p.1 p.2
section
variable {K:c5k} {H H':Hp} {v:V} {q x y:Rat} {vs:List V} {ps:List Pt}
theorem ShK.tup(h:ShK K H v q)(t:Tup H H'):ShK K H' v q:=by obtain⟨a,rfl,h⟩:=h;exact⟨a,rfl,h.tup t⟩
theorem ShK.same(h:ShK K H v q)(t:Same H H'):ShK K H' v q:=h.tup t.tup
theorem ShV.k(h:ShV H v q):ShK K H v q:=by obtain⟨a,rfl,h⟩:=h;exact⟨a,rfl,.inl h⟩
theorem PtK.tup(h:PtK K H v x y)(t:Tup H H'):PtK K H' v x y:=by obtain⟨a,vx,vy,rfl,h,h1,h2⟩:=h;exact⟨a,vx,vy,rfl,h.tup t,h1.tup t,h2.tup t⟩
theorem PtK.same(h:PtK K H v x y)(t:Same H H'):PtK K H' v x y:=h.tup t.tup
theorem PtV.k(h:PtV H v x y):PtK K H v x y:=by obtain⟨a,vx,vy,rfl,h,h1,h2⟩:=h;exact⟨a,vx,vy,rfl,.inl h,h1.k,h2.k⟩
theorem PtsK.tup(h:PtsK K H vs ps)(t:Tup H H'):PtsK K H' vs ps:=⟨h.len,fun i v p e1 e2=>(h.get i v p e1 e2).tup t⟩
theorem PtsK.same(h:PtsK K H vs ps)(t:Same H H'):PtsK K H' vs ps:=h.tup t.tup
theorem PtsV.k(h:PtsV H vs ps):PtsK K H vs ps:=⟨h.len,fun i v p e1 e2=>(h.get i v p e1 e2).k⟩
end
theorem a7i{D:Int}{n d:Nat}{p:Pt}(hD:0<D)(zD:Sz d D)(h:OvP D n p)(k:Nat)(h1:n≤k)(h2:d≤k):Bd k p.1∧Bd k p.2:=
 ⟨(h.1.bd (by omega) zD).mono (by omega),(h.2.bd (by omega) zD).mono (by omega)⟩
section
variable {prog:Program} {w:World} {A:Around} {E:Value→Shared→Prop}
theorem b5q{it t:Addr}{itz:Array Value}(hne:t≠it):∀ (n i:Nat) (s:Shared) (Q:List Value→Shared→Prop),s.heap.IsListIter it t i→s.heap.IsList t itz→i+n≤itz.size→
   (∀ h',h'.IsListIter it t (i+n)→Heap.SameBut it s.heap h'→Q ((itz.toList.drop i).take n) { s with heap:=h' })→wpAny (model prog w) A (draw (.ref it) n) Q E s
 | 0,i,s,Q,hit,_,_,hQ=>by
   show wpAny _ _ (pure []) Q E s;exact wpAny_pure (by simpa using hQ s.heap hit (Heap.SameBut.refl ..))
 | n+1,i,s,Q,hit,ht,hle,hQ=>by
   have hl9:i<itz.size:=by omega
   show wpAny _ _ (pyNext (.ref it) >>= _) Q E s;refine wpAny_bind (wpAny_pyNext_list_item hit ht (x:=itz[i]) (by simp[hl9]) fun hA hiA hsA=>?_);refine wpAny_bind (wpAny_holding (b5q hne n (i+1) _ _ hiA (ht.extBut hsA.extBut hne) (by omega) fun hB hiB hsB=>wpAny_pure ?_));have hd:itz.toList.drop i=itz[i]::itz.toList.drop (i+1):=by simp[c9o,hl9]
   have:=hQ hB (by rw[show i+(n+1)=i+1+n by omega];exact hiB) (hsA.trans hsB);rw[hd,c9w] at this;exact this
variable {s:Shared}
theorem a9k{t:Addr}{itz:Array Value}{Q:List Value→Shared→Prop}(hh:A.handled=none)(ht:s.heap.IsList t itz)(hQ:∀ h',Heap.ExtBut s.heap.objs.size s.heap h'→Q itz.toList { s with heap:=h' }):wpAny (model prog w) A (unpackItems (.ref t) itz.size none) Q E s:=by
 have hl9:t≠s.heap.objs.size:=by obtain⟨o,ho,_⟩:=ht;exact c6l (Heap.lt_size ho)
 unfold unpackItems;refine wpAny_bind ?_
 · unfold notIterableAtAll;refine wpAny_bind (wpAny_specialOf ht.typeIs F.slot_list_iter.lookup ?_);refine wpAny_pure ?_;simp only[if_false,c9l];refine wpAny_bind (wpAny_holding (wpAny_pyIter_list ht ?_));refine wpAny_bind (wpAny_holding (b5q hl9 itz.size 0 _ _ ⟨_,Heap.get?_push_size _ rfl,rfl,rfl⟩ (Heap.IsList.push ht _) (by omega) fun hA hiA hsA=>?_));have hal0:List.take itz.size (List.drop 0 itz.toList)=itz.toList:=by
     rw[List.drop_zero];exact c6x (by simp)
   rw[hal0];rw[if_neg (by simp)];have htA:hA.IsList t itz:=(Heap.IsList.push ht _).extBut hsA.extBut hl9;refine wpAny_bind (wpAny_holding (wpAny_pyNext_list_end hh hiA htA (by simp) fun hB heB=>?_));simp only[if_false,c9l,Option.isSome_none];refine wpAny_pure (hQ hB fun b o hb e=>heB b o hb (hsA.extBut b o hb (Heap.get?_push_of_some _ e)))
theorem a9e{env:Env}{elts:List Expr}{x1}{pos:Pos}{t:Addr}{itz:Array Value}{Q:Unit→Shared→Prop}(hh:A.handled=none)(ht:s.heap.IsList t itz)(hn:(assignEach elts env).length=itz.size)(hstar:(assignEach elts env).findIdx? (·.1)=none)(h:∀ h',Heap.ExtBut s.heap.objs.size s.heap h'→wpAny (model prog w) A (assignInOrder ((assignEach elts env).map (·.2)) itz.toList) Q E { s with heap:=h' }) :
   wpAny (model prog w) A (assign (.Tuple elts x1 pos) env (.ref t)) Q E s:=by
 rw[arm_assign_Tuple];refine wpAny_bind (wpAny_standAt ?_);unfold unpack;rw[hn,hstar];exact wpAny_bind (wpAny_holding (a9k hh ht h))
end
section
variable {X:Cx}
noncomputable def gTupL(K:c5k)(n:Nat)(t:TGs):TG:=fun v σ H Q=>∃ a xs,v=.ref a∧SqL K H a xs∧xs.length=n∧t xs σ H Q
theorem pg_lstK(K:c5k){es:List Expr}{k:Nat}{t:TGs}{n:Nat}{pos:Pos}(hc:X.calm=true)(h:PGs X es t)(hK:X.K=K:=by rfl)(hn:(assignEach es X.env).length=n:=by rfl)(hst:(assignEach es X.env).findIdx? (·.1)=none:=by rfl):PG X (.Tuple es k pos) (gTupL K n t):=by
 subst hK;intro pins s σ H v u Q I r hw;obtain⟨a,xs,e1,hq,hl,hw⟩:=hw;subst e1;cases r;obtain⟨its,rv,ht,hz⟩:=I.list hq;refine a9e (I.ok.hd hc) ht.isList (by simp[hn,← hl,rv.length]) hst fun h' hx=>?_;have I1:Inv X pins σ H { s with heap:=h' }:=I.kept (t':=s.toks) fun b o e=>hx b o (c6l (Heap.lt_size e)) e;exact h pins _ σ H xs _ Q I1 (by simpa using rv) hw
theorem b3p(K:c5k){es:List Expr}{k:Nat}{t:TGs}{n:Nat}{pos:Pos}(hc:X.calm=true)(h:PGsi X es t)(hK:X.K=K:=by rfl)(hn:(assignEach es X.env).length=n:=by rfl)(hst:(assignEach es X.env).findIdx? (·.1)=none:=by rfl):PGi X (.Tuple es k pos) (gTupL K n t):=by with_unfolding_all exact pg_lstK (K:=K) (hc:=hc) (h:=h) (hK:=hK) (hn:=hn) (hst:=hst)
end
abbrev Pl:=Int×Int
structure PlsV(H:Hp)(vs:List V)(pl:List Pl):Prop where
 len:vs.length=pl.length
 get:∀ (i:Nat) v p,vs[i]?=some v→pl[i]?=some p→RwV H v p.1 p.2
section
variable {H H':Hp} {vs:List V} {pl:List Pl}
theorem PlsV.tup(h:PlsV H vs pl)(t:Tup H H'):PlsV H' vs pl:=⟨h.len,fun i v p e1 e2=>(h.get i v p e1 e2).tup t⟩
theorem PlsV.same(h:PlsV H vs pl)(t:Same H H'):PlsV H' vs pl:=h.tup t.tup
theorem PlsV.at(h:PlsV H vs pl){i:Nat}{p:Pl}(hp:pl[i]?=some p):∃ a,vs[i]?=some (.ref a)∧H a=some (.tup [.int p.1,.int p.2]):=by
 have hi:i<pl.length:=(c5m.mp hp).1;have e:vs[i]?=some (vs[i]'(by rw[h.len];exact hi)):=c5j _;obtain⟨a,e2,h2⟩:=h.get i _ p e hp;exact⟨a,by rw[e,e2],h2⟩
end
theorem b5d{K:c5k}{a:Addr}{ws:List V}{pl:List Pl}{H1:Hp}(h:SqL K H1 a ws)(hP:PlsV H1 ws pl):a8i K (Itl K a) H1 pl.length (fun i=>.int ((pl[i]?).getD (0,0)).1) (fun i=>.int ((pl[i]?).getD (0,0)).2):=fun H2 s i=>by
 refine⟨fun hi=>?_,fun e=>⟨ws,s.seq h,by rw[hP.len];omega⟩⟩;obtain⟨b,e1,hb⟩:=hP.at (c5j hi);refine⟨⟨ws,_,s.seq h,e1⟩,fun x H' y=>?_⟩;obtain⟨rfl,y2⟩:=y;have:=y2 ws (s.seq h);rw[e1] at this;refine⟨L2.Same.refl _,b,(c6e.inj this).symm,SqT.of ?_⟩;show H' b=some (.tup [.int ((pl[i]?).getD (0,0)).1,.int ((pl[i]?).getD (0,0)).2]);rw[c5j hi];exact s _ _ hb
theorem div_le{x y P:Int}(hP:0<P)(h:x≤y):c5r x P≤c5r y P:=by
 have hP':(0:Rat)<(P:Rat):=by exact_mod_cast hP
 have hn:(P:Rat)≠0:=a9c hP;have e:∀ z:Int,c5r z P*(P:Rat)=(z:Rat):=fun z=>by rw[c9e];grind
 refine Rat.le_of_mul_le_mul_right ?_ hP';rw[e,e]
 exact_mod_cast h
structure ClsK(K:c5k)(mg:Str→Option Value)(x:Str)(C:Addr):Prop where
 cl:Cls K C
 makes:PySem.W.makesIn K C=true
 kp:c5w K (.ref C)=true
 at_:mg x=some (.ref C)
structure b4k(K:c5k)(C:Addr)(m q:Str)(st:Stmt)(ps:List Str):Prop where
 ex:∃ (f:Addr) (fd:FuncData),Fun K m q st f fd∧Meth K C m f∧a9t K fd ps []
structure b4j(P:Program)(w:World)(K:c5k)(mg:Str→Option Value)(base:Heap)(CX:CXT)(k:Nat)(C:Addr)(m:Str)(ps:List Str)(sp:Sp):Prop where
 ex:∃ (f:Addr) (fd:FuncData),FnOk P w K mg base CX k f fd ps sp∧Meth K C m f∧a9t K fd ps []
section
variable {P:Program} {w:World} {K:c5k} {mg:Str→Option Value} {base:Heap}
theorem b4k.mk'{C:Addr}{m q:Str}{st:Stmt}{ps:List Str}{f:Addr}{oc:Value}{od an:Option Addr}{osl:Array (Option Value)}{kV doc pm cdv ct:Value}(hm:c7h K (.ref C) m=some (some (.ref f)))(hi:d1e K (.ref f)=true)(l:K.lookup f=some ⟨oc,od,.func (c5z m q (a1a st) (a0x st) (a0f st) .none kV doc pm an cdv ct),osl⟩)(c:c5x K cdv q=true)(k:c5w K (.ref f)=true)(h:∀ (kV doc pm:Value) (an:Option Addr) (cdv ct:Value) (us:List Value),us.length=ps.length→bindArgs (c5z m q (a1a st) (a0x st) (a0f st) .none kV doc pm an cdv ct) ⟨us,[]⟩=pure (ps.zip us)):b4k K C m q st ps:=by
 have F:=fun_mk (st:=st) l c k;exact⟨_,_,F,⟨hm,hi,k⟩,F.binds h⟩
theorem mth_ok{C:Addr}{m q:Str}{st:Stmt}{N ps:List Str}{k:Nat}{sp:Sp}(F:b4k K C m q st ps)(S:a1d N ps (a0f st))(len:∀ vs H Q E,sp vs H Q E→vs.length=ps.length)(hbody:∀ (f:Addr) (cdv:Value) (A:Around) (outer:List Env) (s:Shared) (H:Hp) (vs:List V) (Q:VK) (E:XK),Room k (A.deeper (envOfC q (a0f st) s.heap.objs.size f cdv))→sp vs H Q E→
     ∃ t,PSsi (cxOf CX0 P w K mg base N q (a0f st) f cdv A outer s H E).nox (a0x st) t∧t { nx:=fun _ H'=>Q .non H',rt:=Q } (b0i N vs) H):b4j P w K mg base CX0 (k+1) C m ps sp:=by
 obtain⟨f,fd,F,hm,hb⟩:=F.ex;refine⟨f,fd,F.ok S len fun cdv A outer s H vs Q E hr h=>?_,hm,hb⟩;obtain⟨t,h1,h2⟩:=hbody f cdv A outer s H vs Q E hr h;exact⟨t,by unfold PSsi at h1;exact h1,h2⟩
end
section
variable {X:Cx} {CX:CXT} {k j:Nat} {ps:List Str} {sp:Sp} {E:XK} {x m:Str} {p pos apos:Pos} {o e:Expr} {es:List Expr} {t:TA} {ta:TE} {C:Addr}
noncomputable def tMk(C:Addr)(sp:Sp)(E:XK)(t:TA):TE:=fun σ H Q=>t σ H fun vs H1=>∀ x dx,H1 x=none→H1 dx=none→dx≠x→
 sp (.ref x::vs) (upd (upd H1 dx (.own x)) x (.ins C dx [])) (fun v H2=>v=.non∧Q (.ref x) H2) E
theorem pe_mk(T:ClsK X.K X.mg x C)(D:b4j X.prog X.w X.K X.mg X.base CX k C "__init__" ps sp)(hr:Room j X.A)(hx:a6c CX X E)(ha:PA X (e::es) t)(hk:k+1≤j:=by decide)(hg:Gl X x:=by rfl)(hdb:(x == ("__debug__" : Str))=false:=by decide)(he:starEach (e::es) X.env=(false,eval e X.env)::starEach es X.env:=by rfl)(hpl:(backTo pos (starEach es X.env)).any (·.1)=false:=by rfl) :
   PE X (.Call (.Name x p) (e::es) [] pos) (tMk C sp E t):=by
 obtain⟨f,fd,F,hm,hb⟩:=D.ex;intro pins s σ H Q I h;have q:=pe_make (X:=X) (p:=p) (pos:=pos) ⟨T.makes,hm.at_,hm.fn,T.kp⟩ F (hr.mono hk) hg T.at_ hb .nil hx ha hdb he hpl;refine q pins s σ H Q I ?_;unfold tMk at h;have e:(fun (vs:List V) (H1:Hp)=>∀ x dx,H1 x=none→H1 dx=none→dx≠x→sp (.ref x::(vs++[])) (upd (upd H1 dx (.own x)) x (.ins C dx [])) (fun v H2=>v=.non∧Q (.ref x) H2) E)=fun vs H1=>∀ x dx,H1 x=none→H1 dx=none→dx≠x→sp (.ref x::vs) (upd (upd H1 dx (.own x)) x (.ins C dx [])) (fun v H2=>v=.non∧Q (.ref x) H2) E:=by
   funext vs H1;rw[c8z]
 unfold tMake;rw[e];exact h
noncomputable def tMth(C:Addr)(m:Str)(sp:Sp)(E:XK)(ta:TE)(t:TA):TE:=fun σ H Q=>ta σ H fun x H1=>∃ a dx fs,x=.ref a∧H1 a=some (.ins C dx fs)∧fs.lookup m=none∧t σ H1 fun vs H2=>sp (x::vs) H2 Q E
theorem pe_mth0{pl:Sem Bool}(T:ClsK X.K X.mg x C)(D:b4j X.prog X.w X.K X.mg X.base CX k C m ps sp)(he:PE X o ta)(hr:Room j X.A)(hx:a6c CX X E)(hk:k≤j:=by decide)(ht:eval (.Call (.Attribute o m apos) [] [] pos) X.env=(do
     let ov ← eval o X.env
     standAt apos.atName
     let (f,first) ← holding [ov] (getMethod ov m pl)
     callWith pos f first (backTo pos (starEach [] X.env)) (backToKw pos (keywordEach [] X.env))):=by rfl) :
   PE X (.Call (.Attribute o m apos) [] [] pos) (tMth C m sp E ta tNil):=by
 obtain⟨f,fd,F,hm,hb⟩:=D.ex;intro pins s σ H Q I h;refine pe_meth0 (X:=X) (pos:=pos) (apos:=apos) (pl:=pl) he T.cl hm F (hr.mono hk) hb .nil hx ht pins s σ H Q I ?_;unfold tMth at h;unfold tMeth;simp only[c8z];exact h
theorem pe_mkI(T:ClsK X.K X.mg x C)(D:b4j X.prog X.w X.K X.mg X.base CX k C "__init__" ps sp)(hr:Room j X.A)(hx:a6c CX X E)(ha:PAi X (e::es) t)(hk:k+1≤j:=by decide)(hg:Gl X x:=by rfl)(hdb:(x == ("__debug__" : Str))=false:=by decide)(he:starEach (e::es) X.env=(false,eval e X.env)::starEach es X.env:=by rfl)(hpl:(backTo pos (starEach es X.env)).any (·.1)=false:=by rfl) :
 PEi X (.Call (.Name x p) (e::es) [] pos) (tMk C sp E t):=by with_unfolding_all exact pe_mk T D hr hx ha hk hg hdb he hpl
theorem pe_mth0I{pl:Sem Bool}(T:ClsK X.K X.mg x C)(D:b4j X.prog X.w X.K X.mg X.base CX k C m ps sp)(he:PEi X o ta)(hr:Room j X.A)(hx:a6c CX X E)(hk:k≤j:=by decide)(ht:eval (.Call (.Attribute o m apos) [] [] pos) X.env=(do
   let ov ← eval o X.env
   standAt apos.atName
   let (f,first) ← holding [ov] (getMethod ov m pl)
   callWith pos f first (backTo pos (starEach [] X.env)) (backToKw pos (keywordEach [] X.env))):=by rfl) :
 PEi X (.Call (.Attribute o m apos) [] [] pos) (tMth C m sp E ta tNil):=by with_unfolding_all exact pe_mth0 (pl:=pl) T D he hr hx hk ht
theorem a6h{f:Str}(he:PEi X e ta)(hb:attributeBase e f X.env (eval e X.env)=eval e X.env:=by rfl):PEi X (.Attribute e f pos) (tFld X.K ta f):=by with_unfolding_all exact pe_fld he hb
theorem ps_fldI{f:Str}{pos':Pos}{value:Expr}{tv:TE}(ha:PEi X o ta)(hv:PEi X value tv)(hs:swapsWith value (some (.Attribute o f pos')) pos.line X.env=pure false:=by rfl):PSi X (.Assign [.Attribute o f pos'] value pos) (sFld X.K ta tv f):=by with_unfolding_all exact ps_fld ha hv hs
end
section
variable {prog:Program} {w:World} {A:Around} {E:Value→Shared→Prop} {s:Shared}
theorem alive_ok{a:Addr}{o:Obj}{Q:Option Obj→Shared→Prop}(ho:s.heap.get? a=some o)(h:Q (some o) s):wpAny (model prog w) A (loadIfAlive a) Q E s:=fun Γ p _=>by
 show Sem.wp _ _ (Sem.loadIfAlive a Sem.pure) _ _ _ _;rw[Sem.wp_loadIfAlive,ho];exact h
abbrev ZipK(h:Heap)(z TI TO T:Addr)(b:Bool):Prop:=
 h.get? z=some { cls:=.type "zip",dict:=none,data:=.fields #[rawInt T,.bool b,.bool false,.ref TI,.ref TO],slots:=#[] }
theorem b5k{z TI TO T:Addr}{b:Bool}{o:Obj}{Q:Bool→Shared→Prop}(hz:ZipK s.heap z TI TO T b)(hT:s.heap.get? T=some o)(hQ:∀ h',ZipK h' z TI TO T true→Heap.SameBut z s.heap h'→Q false { s with heap:=h' }) :
   wpAny (model prog w) A (Builtin.SmallTypes.ownedTupleIsFree (.ref z)) Q E s:=by
 unfold Builtin.SmallTypes.ownedTupleIsFree;refine wpAny_bind (wpAny_field hz rfl (x:=rawInt T) rfl ?_);show wpAny _ _ (loadIfAlive ((T:Int)).toNat >>= _) _ _ _;rw[c9q];refine wpAny_bind (alive_ok hT ?_);simp only[Option.isNone_some,c9l,if_false];refine wpAny_bind (wpAny_field hz rfl (x:=.bool b) rfl ?_);cases b with
 | true=>
   show wpAny _ _ (pure false) _ _ _;exact wpAny_pure (hQ s.heap hz (Heap.SameBut.refl ..))
 | false=>
   show wpAny _ _ (setField (.ref z) 1 (.bool true) >>= _) _ _ _;exact wpAny_bind (wpAny_setField_rec hz (by simp) fun h' hz' hs'=>wpAny_pure (hQ h' hz' hs'))
theorem c3s{z TI TO T i1 i2 l1 l2:Addr}{k1 k2:Nat}{b:Bool}{o:Obj}{xs ys:Array Value}{x y:Value}{Q:Value→Shared→Prop}(D:ZipApart z TI TO i1 i2 l1 l2)(hz:ZipK s.heap z TI TO T b)(hT:s.heap.get? T=some o)(hTI:IsPair s.heap TI (.ref i1) (.ref i2))(h1:s.heap.IsListIter i1 l1 k1)(h2:s.heap.IsListIter i2 l2 k2)(hl1:s.heap.IsList l1 xs)(hl2:s.heap.IsList l2 ys)(hx:xs[k1]?=some x)(hy:ys[k2]?=some y)(hQ:∀ h',ZipK h' z TI TO T true→h'.IsListIter i1 l1 (k1+1)→h'.IsListIter i2 l2 (k2+1)→IsPair h' s.heap.objs.size x y→
     (∀ c o,c≠z→c≠i1→c≠i2→s.heap.get? c=some o→h'.get? c=some o)→Q (.ref s.heap.objs.size) { s with heap:=h' }) :
   wpAny (model prog w) A (Builtin.«zip.__next__» ⟨[.ref z],[]⟩) (fun fin s'=>∃ v,fin=.done (.ret v)∧Q v s') E s:=by
 show wpAny _ _ (field (.ref z) 2 >>= _) _ _ _;refine wpAny_bind (wpAny_field hz rfl (x:=.bool false) rfl ?_);show wpAny _ _ (field (.ref z) 3 >>= _) _ _ _;refine wpAny_bind (wpAny_field hz rfl (x:=.ref TI) rfl ?_);refine wpAny_bind (wpAny_seqItems hTI rfl ?_);show wpAny _ _ (Builtin.SmallTypes.ownedTupleIsFree (.ref z) >>= _) _ _ _;refine wpAny_bind (b5k hz hT fun hA zA sA=>?_);simp only[c9l,if_false];refine wpAny_bind ?_;simp only[List.forIn_toArray,List.forIn_cons,List.forIn_nil];refine wpAny_bind (wpAny_bind (wpAny_holding ?_));show wpAny _ _ (Builtin.SmallTypes.nextOf (.ref i1) >>= _) _ _ _;refine wpAny_bind (wpAny_nextOf_list_item (h1.extBut sA.extBut D.i1z) (hl1.extBut sA.extBut D.l1z) hx fun hB iB sB=>wpAny_pure (wpAny_pure ?_));refine wpAny_bind (wpAny_bind (wpAny_holding ?_));show wpAny _ _ (Builtin.SmallTypes.nextOf (.ref i2) >>= _) _ _ _;refine wpAny_bind (wpAny_nextOf_list_item ((h2.extBut sA.extBut D.i2z).extBut sB.extBut D.i12.symm) ((hl2.extBut sA.extBut D.l2z).extBut sB.extBut D.l2i1) hy fun hC iC sC=>wpAny_pure (wpAny_pure (wpAny_pure ?_)));have hsz:hC.objs.size=s.heap.objs.size:=by rw[sC.1,sB.1,sA.1]
 have up:∀ c o,c≠z→c≠i1→c≠i2→s.heap.get? c=some o→hC.get? c=some o:=fun c o c1 c3 c4 e=>sC.extBut _ _ c4 (sB.extBut _ _ c3 (sA.extBut _ _ c1 e));have zC:ZipK hC z TI TO T true:=sC.extBut _ _ D.i2z.symm (sB.extBut _ _ D.i1z.symm zA);have i1C:hC.IsListIter i1 l1 (k1+1):=iB.extBut sC.extBut D.i12;show wpAny _ _ (newTuple [x,y] >>= _) _ _ _;refine wpAny_bind (wpAny_newTuple (wpAny_pure ⟨_,rfl,?_⟩));show Q (.ref hC.objs.size) _;rw[hsz];refine hQ _ (Heap.get?_push_of_some _ zC) (i1C.at fun o e=>Heap.get?_push_of_some _ e) (iC.at fun o e=>Heap.get?_push_of_some _ e) ?_ fun c o c1 c3 c4 e=>Heap.get?_push_of_some _ (up c o c1 c3 c4 e);rw[← hsz];exact Heap.get?_push_size _ rfl
theorem kept_end{z TI TO T i1 i2 l1 l2:Addr}{k1 k2:Nat}{b:Bool}{o:Obj}{xs ys:Array Value}{Q:Fin→Shared→Prop}(hh:A.handled=none)(D:ZipApart z TI TO i1 i2 l1 l2)(hz:ZipK s.heap z TI TO T b)(hT:s.heap.get? T=some o)(hTI:IsPair s.heap TI (.ref i1) (.ref i2))(h1:s.heap.IsListIter i1 l1 k1)(h2:s.heap.IsListIter i2 l2 k2)(hl1:s.heap.IsList l1 xs)(hl2:s.heap.IsList l2 ys)(hend:xs[k1]?=none∨ys[k2]?=none)(hE:∀ h' e,(∀ c o,c≠z→c≠i1→c≠i2→s.heap.get? c=some o→h'.get? c=some o)→(∃ o,h'.get? e=some o∧o.cls=.type "StopIteration")→E (.ref e) { s with heap:=h' }) :
   wpAny (model prog w) A (Builtin.«zip.__next__» ⟨[.ref z],[]⟩) Q E s:=by
 show wpAny _ _ (field (.ref z) 2 >>= _) _ _ _;refine wpAny_bind (wpAny_field hz rfl (x:=.bool false) rfl ?_);show wpAny _ _ (field (.ref z) 3 >>= _) _ _ _;refine wpAny_bind (wpAny_field hz rfl (x:=.ref TI) rfl ?_);refine wpAny_bind (wpAny_seqItems hTI rfl ?_);show wpAny _ _ (Builtin.SmallTypes.ownedTupleIsFree (.ref z) >>= _) _ _ _;refine wpAny_bind (b5k hz hT fun hA zA sA=>?_);simp only[c9l,if_false];refine wpAny_bind ?_;simp only[List.forIn_toArray,List.forIn_cons,List.forIn_nil];refine wpAny_bind (wpAny_bind (wpAny_holding ?_));show wpAny _ _ (Builtin.SmallTypes.nextOf (.ref i1) >>= _) _ _ _;cases hx:xs[k1]? with
 | none=>
   refine wpAny_bind (wpAny_nextOf_list_end hh (h1.extBut sA.extBut D.i1z) (hl1.extBut sA.extBut D.l1z) hx fun hB e sB he=>?_);exact hE hB e (fun c o c1 c3 _ q=>sB _ _ c3 (sA.extBut _ _ c1 q)) he
 | some x=>
   have hy:ys[k2]?=none:=by
     rcases hend with q | q
     · rw[hx] at q;cases q
     · exact q
   refine wpAny_bind (wpAny_nextOf_list_item (h1.extBut sA.extBut D.i1z) (hl1.extBut sA.extBut D.l1z) hx fun hB iB sB=>wpAny_pure (wpAny_pure ?_));refine wpAny_bind (wpAny_bind (wpAny_holding ?_));show wpAny _ _ (Builtin.SmallTypes.nextOf (.ref i2) >>= _) _ _ _;refine wpAny_bind (wpAny_nextOf_list_end hh ((h2.extBut sA.extBut D.i2z).extBut sB.extBut D.i12.symm) ((hl2.extBut sA.extBut D.l2z).extBut sB.extBut D.l2i1) hy fun hC e sC he=>?_);exact hE hC e (fun c o c1 c3 c4 q=>sC _ _ c4 (sB.extBut _ _ c3 (sA.extBut _ _ c1 q))) he
noncomputable def ZSt(z TI TO i1 i2 l1 l2:Addr)(i:Nat)(h:Heap):Prop:=
 (IsZip h z TI TO .none∨∃ T b o,ZipK h z TI TO T b∧h.get? T=some o∧T≠z∧T≠TO∧T≠i1∧T≠i2)∧(∃ a b,IsPair h TO a b)∧IsPair h TI (.ref i1) (.ref i2)∧h.IsListIter i1 l1 i∧h.IsListIter i2 l2 i
theorem zst_item{z TI TO i1 i2 l1 l2:Addr}{i:Nat}{xs ys:Array Value}{x y:Value}{Q:Option Value→Shared→Prop}(D:ZipApart z TI TO i1 i2 l1 l2)(st:ZSt z TI TO i1 i2 l1 l2 i s.heap)(hl1:s.heap.IsList l1 xs)(hl2:s.heap.IsList l2 ys)(hx:xs[i]?=some x)(hy:ys[i]?=some y)(hQ:∀ h',ZSt z TI TO i1 i2 l1 l2 (i+1) h'→IsPair h' s.heap.objs.size x y→(∀ c o,c≠z→c≠TO→c≠i1→c≠i2→s.heap.get? c=some o→h'.get? c=some o)→Q (some (.ref s.heap.objs.size)) { s with heap:=h' }) :
   wpAny (model prog w) A (pyNext (.ref z)) Q E s:=by
 obtain⟨hm,⟨a,b',hTO⟩,hTI,h1,h2⟩:=st;rcases hm with hz | ⟨T,b,o,hz,hT,t1,t2,t3,t4⟩
 · have neT:∀ {c o},s.heap.get? c=some o→s.heap.objs.size≠c:=fun e=>Nat.ne_of_gt (Heap.lt_size e);obtain⟨o1,e1,_⟩:=id h1;obtain⟨o2,e2,_⟩:=id h2;refine wpAny_pyNext_zip_item D hz hTI hTO h1 h2 hl1 hl2 hx hy fun h' a1 a2 a3 a4 a5 a6 a7=>hQ h' ⟨.inr ⟨_,_,_,a1,a5,neT hz,neT hTO,neT e1,neT e2⟩,⟨_,_,a2⟩,a7 _ _ D.TIz D.TITO D.TIi1 D.TIi2 hTI,a3,a4⟩ a5 a7
 · have hTy:s.TypeIs (.ref z) "zip":=⟨_,hz,rfl⟩
   unfold pyNext;refine wpAny_bind (wpAny_attempt (wpAny_callSpecial?_slot (name:=Str.ofString "__next__") hTy F.slot_zip_next
     (wpAny_call_entry F.slot_zip_next hTy F.entry_zip_next (c3s D hz hT hTI h1 h2 hl1 hl2 hx hy fun h' a1 a3 a4 a5 a7=>wpAny_pure (hQ h' ⟨.inr ⟨T,_,o,a1,a7 T o t1 t3 t4 hT,t1,t2,t3,t4⟩,⟨a,b',a7 _ _ D.TOz D.TOi1 D.TOi2 hTO⟩,a7 _ _ D.TIz D.TIi1 D.TIi2 hTI,a3,a4⟩ a5 fun c o c1 _ c3 c4 e=>a7 c o c1 c3 c4 e)) (F.args_zip_next_1 _))))
theorem zst_end{z TI TO i1 i2 l1 l2:Addr}{i:Nat}{xs ys:Array Value}{Q:Option Value→Shared→Prop}(hh:A.handled=none)(D:ZipApart z TI TO i1 i2 l1 l2)(st:ZSt z TI TO i1 i2 l1 l2 i s.heap)(hl1:s.heap.IsList l1 xs)(hl2:s.heap.IsList l2 ys)(hend:xs[i]?=none∨ys[i]?=none)(hQ:∀ h',(∀ c o,c≠z→c≠TO→c≠i1→c≠i2→s.heap.get? c=some o→h'.get? c=some o)→Q none { s with heap:=h' }) :
   wpAny (model prog w) A (pyNext (.ref z)) Q E s:=by
 obtain⟨hm,⟨a,b',hTO⟩,hTI,h1,h2⟩:=st;rcases hm with hz | ⟨T,b,o,hz,hT,t1,t2,t3,t4⟩
 · exact wpAny_pyNext_zip_end hh D hz hTI hTO h1 h2 hl1 hl2 hend hQ
 · have hTy:s.TypeIs (.ref z) "zip":=⟨_,hz,rfl⟩
   unfold pyNext;refine wpAny_bind (wpAny_attempt (wpAny_callSpecial?_slot (name:=Str.ofString "__next__") hTy F.slot_zip_next
     (wpAny_call_entry F.slot_zip_next hTy F.entry_zip_next (kept_end hh D hz hT hTI h1 h2 hl1 hl2 hend fun h' e hk he=>?_) (F.args_zip_next_1 _))))
   obtain⟨oe,ho,hc⟩:=he;refine wpAny_bind (wpAny_isInstance (T := "StopIteration") (b:=true) ⟨oe,ho,hc⟩ isSubtype_stop ?_);exact wpAny_pure (hQ _ fun c o c1 _ c3 c4 q=>hk c o c1 c3 c4 q)
end
theorem SqL.aside{K:c5k}{H:Hp}{a S:Addr}{o:HO}{xs:List V}(h:SqL K H a xs)(ne:a≠S):SqL K (upd H S o) a xs:=by
 rcases h with (h | ⟨ob,h⟩) | h
 · exact .inl (.inl (by rw[a0m ne];exact h))
 · exact .inl (.inr ⟨ob,by rw[a0m ne];exact h⟩)
 · exact .inr h
noncomputable def b6d(H:Hp)(us xs ys:List V):Prop:=∀ (j:Nat) v,us[j]?=some v→∃ T,v=.ref T∧H T=some (.tup [(xs[j]?).getD .non,(ys[j]?).getD .non])
section
variable {X:Cx} {pins:List (Addr×Obj)} {σ:L2.St} {A:Around}
theorem ext_zip{R:Result→Shared→Prop}{z TI TO i1 i2 l1 l2 S:Addr}{xs ys:List V}(hh:A.handled=none)(D:ZipApart z TI TO i1 i2 l1 l2)(n1:l1≠S)(n2:l2≠S)(nf:S∉[z,TI,TO,i1,i2])(hsz:xs.length≤100000)(res:Value) :
   ∀ (k i:Nat) (s:Shared) (H:Hp) (us:List V),min xs.length ys.length - i=k→i≤min xs.length ys.length→Inv X pins σ H s→(∀ b∈[z,TI,TO,i1,i2],FpOk X pins H b)→ZSt z TI TO i1 i2 l1 l2 i s.heap→SqL X.K H l1 xs→SqL X.K H l2 ys→
   H S=some (.lst us)→us.length=i→b6d H us xs ys→
   (∀ s' H' us',Inv X pins σ H' s'→(∀ b o,b≠S→H b=some o→H' b=some o)→H' S=some (.lst us')→us'.length=min xs.length ys.length→b6d H' us' xs ys→R (.ok (.ret res)) s')→
   codeAny (model X.prog X.w) A (.builtin "list.extend.loop" ⟨[.ref S,.ref z,res],[]⟩) R s:=by
 intro k;induction k with
 | zero=>
   intro i s H us hk hi I hf st q1 q2 hS hul hp hR;have hin:i=min xs.length ys.length:=by omega
   obtain⟨its1,rv1,p1,_⟩:=I.list q1;obtain⟨its2,rv2,p2,_⟩:=I.list q2;have r1:=rv1.length;have r2:=rv2.length;refine codeAny_builtin F.entry_extend_loop ?_;rw[Around.under_plainId F.plain_extend_loop _];show wpAny _ A.in1 (pyNext (.ref z) >>= _) _ _ s;refine wpAny_bind (zst_end (A:=A.in1) hh D st p1.isList p2.isList ?_ fun h' kk=>?_)
   · rcases Nat.le_total its1.length its2.length with q | q
     · exact .inl (by simp;omega)
     · exact .inr (by simp;omega)
   have I1:Inv X pins σ H { s with heap:=h',toks:=s.toks }:=c1d I hf fun b o hb e=>by
     simp only[c6f,c6r,or_false,not_or] at hb;exact kk b o hb.1 hb.2.2.1 hb.2.2.2.1 hb.2.2.2.2 e
   exact wpAny_pure (hR _ H us I1 (fun _ _ _ e=>e) hS (by omega) hp)
 | succ k ih=>
   intro i s H us hk hi I hf st q1 q2 hS hul hp hR;have hlt:i<min xs.length ys.length:=by omega
   obtain⟨its1,rv1,p1,_⟩:=I.list q1;obtain⟨its2,rv2,p2,_⟩:=I.list q2;have ex:xs[i]?=some (xs[i]'(by omega (config:={}))):=c5j _;have ey:ys[i]?=some (ys[i]'(by omega (config:={}))):=c5j _;obtain⟨u1,hu1,ru1⟩:=rv1.get ex;obtain⟨u2,hu2,ru2⟩:=rv2.get ey;refine codeAny_builtin F.entry_extend_loop ?_;rw[Around.under_plainId F.plain_extend_loop _];show wpAny _ A.in1 (pyNext (.ref z) >>= _) _ _ s;refine wpAny_bind (zst_item (A:=A.in1) D st p1.isList p2.isList (x:=u1) (y:=u2) (by simpa using hu1) (by simpa using hu2) fun h' st' pr kk=>?_);have hT:H s.heap.objs.size=none:=I.hok.fresh (c5v _);have kk':∀ b o,b∉[z,TI,TO,i1,i2]→s.heap.get? b=some o→h'.get? b=some o:=fun b o hb e=>by
     simp only[c6f,c6r,or_false,not_or] at hb;exact kk b o hb.1 hb.2.2.1 hb.2.2.2.1 hb.2.2.2.2 e
   have I1:=b4m (t':=s.toks) (a:=s.heap.objs.size) (o:=.tup [xs[i]'(by omega (config:={})),ys[i]'(by omega (config:={}))]) (h':=h') I hf kk' (c5v _) ⟨by show 2≤sizeLine;decide,[u1,u2],.cons ru1 (.cons ru2 .nil),⟨_,pr,rfl,_,rfl⟩⟩;have neS:S≠s.heap.objs.size:=a0t hS hT;have hS1:(upd H s.heap.objs.size (.tup [xs[i]'(by omega (config:={})),ys[i]'(by omega (config:={}))])) S=some (.lst us):=by rw[a0m neS];exact hS
   obtain⟨_,its,nn,rv,eS⟩:=(show a5b X.prog X.w _ h' S (.lst us) from I1.hok S _ hS1)
   have rl:=rv.length;show wpAny _ A.in1 (updateSeq S (·.push (.ref s.heap.objs.size)) >>= _) _ _ _;refine wpAny_bind (wpAny_updateSeq eS rfl (wpAny_pure ⟨plainId_quiet F.plain_extend_loop _,?_⟩) (by simp;rw[← rl,hul];exact a0o (by omega) |> c7r) (by simp;rw[← rl,hul];have:=a0o (n:=i) (by omega);omega));have oth:∀ b o,b≠S→h'.get? b=some o→(h'.update S (Obj.mapSeq (·.push (.ref s.heap.objs.size)))).get? b=some o:=fun b o hb e=>(Heap.get?_update_other _ _ (Ne.symm hb)).trans e;have eS2:=Heap.get?_update_self (Obj.mapSeq (·.push (Value.ref s.heap.objs.size))) eS rfl;obtain⟨c',eS3⟩ : ∃ c',(h'.update S (Obj.mapSeq (·.push (Value.ref s.heap.objs.size)))).get? S=some { cls:=.type "list",data:=.seq (its++[Value.ref s.heap.objs.size]).toArray c' }:=⟨_,by rw[eS2];simp[Obj.mapSeq];rfl⟩
   have I2:Inv X pins σ (upd (upd H s.heap.objs.size (.tup [xs[i]'(by omega (config:={})),ys[i]'(by omega (config:={}))])) S (.lst (us++[.ref s.heap.objs.size]))) { s with heap:=h'.update S (Obj.mapSeq (·.push (.ref s.heap.objs.size))),toks:=s.toks }:=by
     refine Inv.write (s:={ s with heap:=h',toks:=s.toks }) (x:=S) (e:=S) I1 ?_ (.inl rfl) oth ⟨_,eS2⟩ ⟨?_,its++[.ref s.heap.objs.size],c',rv.append (.cons (show RelV (.ref s.heap.objs.size) (Value.ref s.heap.objs.size) from rfl) .nil),eS3⟩
     · rw[hS1];trivial
     · rw[c5n];exact c7r (a0o (by simp;omega))
   obtain⟨hm,⟨oa,ob,hTO⟩,hTI,hi1,hi2⟩:=id st;have ltz:z<s.heap.objs.size:=by
     rcases hm with q | ⟨_,_,_,q,_⟩
     · exact Heap.lt_size q
     · exact Heap.lt_size q
   have lt1:i1<s.heap.objs.size:=by obtain⟨_,e,_⟩:=hi1;exact Heap.lt_size e
   have lt2:i2<s.heap.objs.size:=by obtain⟨_,e,_⟩:=hi2;exact Heap.lt_size e
   have ltf:∀ b∈[z,TI,TO,i1,i2],b≠s.heap.objs.size:=fun b hb=>by
     simp only[c6f,c6r,or_false] at hb;rcases hb with rfl | rfl | rfl | rfl | rfl
     · exact c6l ltz
     · exact c6l (Heap.lt_size hTI)
     · exact c6l (Heap.lt_size hTO)
     · exact c6l lt1
     · exact c6l lt2
   have ns:∀ b∈[z,TI,TO,i1,i2],b≠S:=fun b hb e=>nf (e ▸ hb);have a1:l1≠s.heap.objs.size:=by obtain⟨_,e,_⟩:=p1.isList;exact c6l (Heap.lt_size e)
   have a2:l2≠s.heap.objs.size:=by obtain⟨_,e,_⟩:=p2.isList;exact c6l (Heap.lt_size e)
   refine ih (i+1) _ _ (us++[.ref s.heap.objs.size]) (by omega) hlt I2 (fun b hb=>?_) ?_ (Cv.SqL.aside (Cv.SqL.aside q1 a1) n1) (Cv.SqL.aside (Cv.SqL.aside q2 a2) n2) a0d (by rw[c5n,hul];rfl) (fun j v e=>?_) fun s' H' us' I' e1 e2 e3 e4=>hR s' H' us' I' (fun b o hb e=>e1 b o hb ?_) e2 e3 e4
   · obtain⟨f0,fr⟩:=hf b hb;exact⟨by rw[a0m (ns b hb),a0m (ltf b hb)];exact f0,fr⟩
   · obtain⟨hm',⟨pa,pb,hTO'⟩,hTI',hi1',hi2'⟩:=st';refine⟨?_,⟨pa,pb,oth _ _ (ns TO (by simp)) hTO'⟩,oth _ _ (ns TI (by simp)) hTI',hi1'.at fun o e=>oth _ o (ns i1 (by simp)) e,hi2'.at fun o e=>oth _ o (ns i2 (by simp)) e⟩;rcases hm' with q | ⟨T,b,o,q,qT,t1,t2,t3,t4⟩
     · exact .inl (oth _ _ (ns z (by simp)) q)
     · by_cases hTS:T=S
       · exact .inr ⟨T,b,_,oth _ _ (ns z (by simp)) q,by rw[hTS];exact eS2,t1,t2,t3,t4⟩
       · exact .inr ⟨T,b,o,oth _ _ (ns z (by simp)) q,oth _ _ hTS qT,t1,t2,t3,t4⟩
   · by_cases hj:j<us.length
     · rw[c5y hj] at e;obtain⟨T,rfl,hT'⟩:=hp j v e;refine⟨T,rfl,?_⟩;have c1:T≠S:=fun q=>by rw[q,hS] at hT';cases hT'
       rw[a0m c1,a0m (a0t hT' hT)];exact hT'
     · rw[c6d (by omega)] at e;have hj0:j - us.length=0:=by
         cases q:j - us.length with
         | zero=>rfl
         | succ k=>rw[q] at e;simp at e
       rw[hj0] at e;have e':V.ref s.heap.objs.size=v:=by simpa using e
       have hji:j=i:=by omega
       subst hji;refine⟨_,e'.symm,?_⟩;rw[a0m (Ne.symm neS),a0d,ex,ey];rfl
   · rw[a0m hb,a0m (a0t e hT)];exact e
theorem b9n:typeLookup (.type "zip") "__len__" = pure none:=by rw[typeLookup_type,builtinLookup_eq_fast];kernel_rfl
theorem b6g:typeLookup (.type "zip") "__length_hint__" = pure none:=by rw[typeLookup_type,builtinLookup_eq_fast];kernel_rfl
noncomputable def tZipL(K:c5k)(ta:TA):TE:=fun σ H Q=>ta σ H fun vs H1=>∃ (l1 l2:Addr) (xs ys:List V),vs=[.ref l1,.ref l2]∧SqL K H1 l1 xs∧SqL K H1 l2 ys∧xs.length≤100000∧
 ∀ (l:Addr) (us:List V) (H2:Hp),H1 l=none→Same H1 H2→H2 l=some (.lst us)→us.length=min xs.length ys.length→b6d H2 us xs ys→Q (.ref l) H2
theorem list_zip{s:Shared}{H:Hp}{E:Value→Shared→Prop}{z TI TO i1 i2 l1 l2:Addr}{xs ys:List V}{Q:Value→Shared→Prop}(hh:A.handled=none)(D:ZipApart z TI TO i1 i2 l1 l2)(I:Inv X pins σ H s)(hf:∀ b∈[z,TI,TO,i1,i2],FpOk X pins H b)(st:ZSt z TI TO i1 i2 l1 l2 0 s.heap)(hTy:s.TypeIs (.ref z) "zip")(q1:SqL X.K H l1 xs)(q2:SqL X.K H l2 ys)(hsz:xs.length≤100000)(hQ:∀ s' H' us,Inv X pins σ H' s'→H s.heap.objs.size=none→(∀ b o,H b=some o→H' b=some o)→H' s.heap.objs.size=some (.lst us)→us.length=min xs.length ys.length→b6d H' us xs ys→Q (.ref s.heap.objs.size) s') :
   wpAny (model X.prog X.w) A (call (.type "list") [.ref z]) Q E s:=by
 refine callType_codes (Q₁:=fun obj s₁=>obj=.ref s.heap.objs.size∧s₁={ s with heap:=s.heap.push { cls:=.type "list",data:=.seq #[] } }) F.called_list (F.typeCall_list_1 _) F.entry_list_init
   (code_list_new _ ⟨rfl,rfl⟩) fun obj s₁ h₁=>?_
 obtain⟨rfl,rfl⟩:=h₁;have hS:(s.heap.push { cls:=.type "list",data:=.seq #[] }).get? s.heap.objs.size=some { cls:=.type "list",data:=.seq #[] }:=Heap.get?_push_size _ rfl;refine⟨⟨_,hS,rfl⟩,F.args_list_init_2 _ _,?_⟩;show wpAny _ _ (do let old ← Builtin.List.listItems (.ref s.heap.objs.size);Builtin.List.listUpdate (.ref s.heap.objs.size) (fun _=>#[]);letGo old.toList.reverse;Builtin.List.listExtendWith (.ref s.heap.objs.size) (.ref z) .none) _ _ _;refine wpAny_bind ?_;unfold Builtin.List.listItems;refine wpAny_bind (wpAny_seqItems hS rfl (wpAny_pure ?_));show wpAny _ _ (updateSeq s.heap.objs.size (fun _=>#[]) >>= fun _=>letGo (#[]:Array Value).toList.reverse >>= fun _=>Builtin.List.listExtendWith (.ref s.heap.objs.size) (.ref z) .none) _ _ _;refine wpAny_bind (wpAny_updateSeq hS rfl ?_);have hS2:=Heap.get?_update_self (Obj.mapSeq (fun _=>(#[]:Array Value))) hS rfl;refine wpAny_bind (wpAny_letGo ?_);have old1:∀ b o,s.heap.get? b=some o→((s.heap.push { cls:=.type "list",data:=.seq #[] }).update s.heap.objs.size (Obj.mapSeq (fun _=>(#[]:Array Value)))).get? b=some o:=
   fun b o e=>(Heap.get?_update_other _ _ (Nat.ne_of_gt (Heap.lt_size e))).trans (Heap.get?_push_of_some _ e)
 have hTy2:Shared.TypeIs { s with heap:=(s.heap.push { cls:=.type "list",data:=.seq #[] }).update s.heap.objs.size (Obj.mapSeq (fun _=>(#[]:Array Value))) } (.ref z) "zip":=by
   obtain⟨o,ho,hc⟩:=hTy;exact⟨o,old1 _ _ ho,hc⟩
 have ltz:z<s.heap.objs.size:=by obtain⟨o,ho,hc⟩:=hTy;exact Heap.lt_size ho
 unfold Builtin.List.listExtendWith;refine wpAny_bind (wpAny_typeOf hTy2 ?_);have h1:Builtin.List.listSameRef (.ref s.heap.objs.size) (.ref z)=false:=by simp[Builtin.List.listSameRef];exact Nat.ne_of_gt ltz
 have h2:(Value.type "zip" == Value.type "list")=false:=by decide
 have h3:(Value.type "zip" == Value.type "tuple")=false:=by decide
 simp only[h1,h2,h3,Bool.or_false,c9l,if_false];obtain⟨hm,hTO,hTI,hi1,hi2⟩:=id st;have hz0:∃ f0 f1,s.heap.get? z=some { cls:=.type "zip",dict:=none,data:=.fields #[f0,f1,.bool false,.ref TI,.ref TO],slots:=#[] }:=by
   rcases hm with q | ⟨_,_,_,q,_⟩
   · exact⟨_,_,q⟩
   · exact⟨_,_,q⟩
 refine wpAny_bind (wpAny_pyIter_slot hTy2 F.slot_zip_iter (wpAny_call_entry F.slot_zip_iter hTy2 F.entry_zip_iter ?_ (F.args_zip_iter_1 _)));show wpAny _ _ (ret (.ref z)) _ _ _;refine wpAny_pure ⟨_,rfl,"zip",_,hTy2,F.slot_zip_next.lookup,?_⟩;refine wpAny_bind (wpAny_holding ?_);unfold Builtin.List.listLengthHint;refine wpAny_bind (wpAny_specialOf hTy2 b9n ?_);show wpAny _ _ (specialOf (Value.ref z) (Str.ofString "__length_hint__") >>= _) _ _ _;refine wpAny_bind (wpAny_specialOf hTy2 b6g ?_);refine wpAny_pure ?_;show wpAny _ _ (rule "list.extend.makes-room" >>= fun _=>Builtin.List.listTouch (.ref s.heap.objs.size) >>= fun _=>again (.builtin "list.extend.loop" ⟨[.ref s.heap.objs.size,.ref z,.none],[]⟩)) _ _ _;refine wpAny_bind (wpAny_rule ?_);refine wpAny_bind ?_;show wpAny _ _ (updateSeq s.heap.objs.size (·.push .none) >>= fun _=>updateSeq s.heap.objs.size (·.pop)) _ _ _;refine wpAny_bind (wpAny_updateSeq hS2 rfl ?_);have hS3:=Heap.get?_update_self (Obj.mapSeq (·.push Value.none)) hS2 rfl;refine wpAny_updateSeq hS3 rfl ?_;have hS4:=Heap.get?_update_self (Obj.mapSeq (·.pop)) hS3 rfl;have old:∀ b o,s.heap.get? b=some o→((((s.heap.push { cls:=.type "list",data:=.seq #[] }).update s.heap.objs.size (Obj.mapSeq (fun _=>(#[]:Array Value)))).update s.heap.objs.size (Obj.mapSeq (·.push Value.none))).update s.heap.objs.size (Obj.mapSeq (·.pop))).get? b=some o:=
   fun b o e=>(Heap.get?_update_other _ _ (Nat.ne_of_gt (Heap.lt_size e))).trans ((Heap.get?_update_other _ _ (Nat.ne_of_gt (Heap.lt_size e))).trans (old1 b o e))
 have hn:H s.heap.objs.size=none:=I.hok.fresh (c5v _);have I1:=I.laid (t':=s.toks) (o:=.lst []) old (c5v _) ⟨c7c _,[],_,.nil,hS4⟩;obtain⟨its1,rv1,p1,_⟩:=I.list q1;obtain⟨its2,rv2,p2,_⟩:=I.list q2;have a1:l1≠s.heap.objs.size:=by obtain⟨_,e,_⟩:=p1.isList;exact c6l (Heap.lt_size e)
 have a2:l2≠s.heap.objs.size:=by obtain⟨_,e,_⟩:=p2.isList;exact c6l (Heap.lt_size e)
 have ltf:∀ b∈[z,TI,TO,i1,i2],b≠s.heap.objs.size:=fun b hb=>by
   simp only[c6f,c6r,or_false] at hb;rcases hb with rfl | rfl | rfl | rfl | rfl
   · exact c6l ltz
   · exact c6l (Heap.lt_size hTI)
   · obtain⟨_,_,q⟩:=hTO;exact c6l (Heap.lt_size q)
   · obtain⟨_,q,_⟩:=hi1;exact c6l (Heap.lt_size q)
   · obtain⟨_,q,_⟩:=hi2;exact c6l (Heap.lt_size q)
 refine wpAny_pure ⟨plainId_quiet F.plain_extend_loop _,ext_zip (A:=A.in1) hh D a1 a2 (fun hb=>ltf _ hb rfl) hsz .none _ 0 _ _ [] rfl (c7c _) I1 (fun b hb=>?_) ?_ (Cv.SqL.aside q1 a1) (Cv.SqL.aside q2 a2) a0d rfl (fun j v e=>by simp at e) fun s' H' us' I' e1 e2 e3 e4=>?_⟩
 · obtain⟨f0,fr⟩:=hf b hb;exact⟨by rw[a0m (ltf b hb)];exact f0,fr⟩
 · obtain⟨pa,pb,hTO'⟩:=hTO;refine⟨?_,⟨pa,pb,old _ _ hTO'⟩,old _ _ hTI,hi1.at fun o e=>old _ o e,hi2.at fun o e=>old _ o e⟩;rcases hm with q | ⟨T,b,o,q,qT,t⟩
   · exact .inl (old _ _ q)
   · exact .inr ⟨T,b,o,old _ _ q,old _ _ qT,t⟩
 · exact⟨rfl,hQ s' H' us' I' hn (fun b o e=>e1 b o (a0t e hn) (by rw[a0m (a0t e hn)];exact e)) e2 e3 e4⟩
theorem b9u{a b:Expr}{ta:TA}{p p2 pos pos2:Pos}(hg:Gl X "list")(hm:X.mg "list" = none)(hg2:Gl X "zip")(hm2:X.mg "zip" = none)(ha:PA X [a,b] ta)(hc:X.calm=true:=by rfl)(he:starEach [a,b] X.env=(false,eval a X.env)::starEach [b] X.env:=by rfl)(hpl:(backTo pos2 (starEach [b] X.env)).any (·.1)=false:=by rfl)(he2:starEach [.Call (.Name "zip" p2) [a,b] [] pos2] X.env=(false,eval (.Call (.Name "zip" p2) [a,b] [] pos2) X.env)::starEach [] X.env:=by rfl)(hpl2:(backTo pos (starEach [] X.env)).any (·.1)=false:=by rfl) :
   PE X (.Call (.Name "list" p) [.Call (.Name "zip" p2) [a,b] [] pos2] [] pos) (tZipL X.K ta):=by
 intro pins s σ H Q I h;refine wpAny_Call_Name_kw (a9g I hg hm boot_list ?_ (by decide) (by decide));refine c8b ?_ he2 hpl2;rw[he2];refine Calls.spliced_cons ?_;refine wpAny_Call_Name_kw (a9g I hg2 hm2 boot_zip ?_ (by decide) (by decide));refine c8b (thn (ha pos2 pins s σ H _ I h) fun us s1 ⟨vs,H1,I1,r1,w1⟩=>?_) he hpl;obtain⟨l1,l2,xs,ys,rfl,q1,q2,hsz,q⟩:=w1;obtain⟨u1,u2,rfl,e1,e2⟩:=a9w r1;cases e1;cases e2;obtain⟨its1,rv1,p1,hz1⟩:=I1.list q1;obtain⟨its2,rv2,p2,hz2⟩:=I1.list q2;have a1:l1<s1.heap.objs.size:=by obtain⟨_,e,_⟩:=p1.isList;exact Heap.lt_size e
 have a2:l2<s1.heap.objs.size:=by obtain⟨_,e,_⟩:=p2.isList;exact Heap.lt_size e
 refine call_zip_2 p1.isList p2.isList fun h' hz hTI hTO hi1 hi2 hsz' hk=>?_;refine Calls.spliced_nil ?_;have I2:Inv X pins σ H1 { s1 with heap:=h',toks:=s1.toks }:=I1.kept hk;have fp:∀ b∈[s1.heap.objs.size+4,s1.heap.objs.size+2,s1.heap.objs.size+3,s1.heap.objs.size,s1.heap.objs.size+1],FpOk X pins H1 b:=fun c hc=>by
   have hge:s1.heap.objs.size≤c:=by
     simp only[c6f,c6r,or_false] at hc;rcases hc with rfl | rfl | rfl | rfl | rfl<;>omega
   exact I1.fpOk hge (I1.hok.fresh hge)
 refine list_zip (s:={ s1 with heap:=h',toks:=s1.toks }) (I1.ok.hd hc) (zipApart_new a1 a2) I2 fp ⟨.inl hz,⟨_,_,hTO⟩,hTI,hi1,hi2⟩ ⟨_,hz,rfl⟩ q1 q2 hsz fun s' H' us I' hn e1 e2 e3 e4=>?_;exact⟨.ref _,H',I',rfl,q _ us H' hn e1 e2 e3 e4⟩
theorem b0u{a b:Expr}{ta:TA}{p p2 pos pos2:Pos}(hg:Gl X "list")(hm:X.mg "list" = none)(hg2:Gl X "zip")(hm2:X.mg "zip" = none)(ha:PAi X [a,b] ta)(hc:X.calm=true:=by rfl)(he:starEach [a,b] X.env=(false,eval a X.env)::starEach [b] X.env:=by rfl)(hpl:(backTo pos2 (starEach [b] X.env)).any (·.1)=false:=by rfl)(he2:starEach [.Call (.Name "zip" p2) [a,b] [] pos2] X.env=(false,eval (.Call (.Name "zip" p2) [a,b] [] pos2) X.env)::starEach [] X.env:=by rfl)(hpl2:(backTo pos (starEach [] X.env)).any (·.1)=false:=by rfl) :
 PEi X (.Call (.Name "list" p) [.Call (.Name "zip" p2) [a,b] [] pos2] [] pos) (tZipL X.K ta):=by with_unfolding_all exact b9u (hg:=hg) (hm:=hm) (hg2:=hg2) (hm2:=hm2) (ha:=ha) (hc:=hc) (he:=he) (hpl:=hpl) (he2:=he2) (hpl2:=hpl2)
end
theorem PtsV.append{H:Hp}{vs ws:List V}{ps qs:List Pt}(h1:PtsV H vs ps)(h2:PtsV H ws qs):PtsV H (vs++ws) (ps++qs):=by
 have l1:=h1.len;have l2:=h2.len;refine⟨by rw[c5n,c5n];omega,fun i v p e1 e2=>?_⟩;by_cases hi:i<vs.length
 · rw[c5y hi] at e1;rw[c5y (by omega)] at e2;exact h1.get i v p e1 e2
 · rw[c6d (by omega)] at e1 e2;rw[← l1] at e2;exact h2.get _ v p e1 e2
theorem PlsV.snoc{H:Hp}{vs:List V}{pl:List Pl}{v:V}{p:Pl}(h:PlsV H vs pl)(hv:RwV H v p.1 p.2):PlsV H (vs++[v]) (pl++[p]):=by
 refine⟨by simp[h.len],fun i w q e1 e2=>?_⟩;have hl:=h.len;by_cases hi:i<vs.length
 · rw[c5y hi] at e1;rw[c5y (by omega)] at e2;exact h.get i w q e1 e2
 · rw[c6d (by omega)] at e1 e2;rw[← hl] at e2;cases hk:i - vs.length with
   | zero=>
     rw[hk] at e1 e2;simp at e1 e2;subst e1 e2;exact hv
   | succ k=>rw[hk] at e1;simp at e1
theorem PlsV.drop{H:Hp}{vs:List V}{p:List Pl}(h:PlsV H vs p)(n:Nat):PlsV H (vs.drop n) (p.drop n):=by
 have hl:=h.len;refine⟨by rw[c6n,c6n,hl],fun i v r e1 e2=>?_⟩;rw[c8d] at e1 e2;exact h.get _ v r e1 e2
theorem a8g(xs:List V)(k:Int)(n:Nat)(e:k=(n:Int))(h:n≤xs.length):cutV xs (some k) none=xs.drop n:=by
 have:=b5t (fun v:V=>v) xs k n e h;simpa using this
theorem PlsV.take{H:Hp}{vs:List V}{pl:List Pl}(h:PlsV H vs pl)(n:Nat):PlsV H (vs.take n) (pl.take n):=by
 refine⟨by rw[c6u,c6u,h.len],fun i v p e1 e2=>?_⟩;rw[d0d] at e1 e2;by_cases hi:i<n
 · rw[if_pos hi] at e1 e2;exact h.get i v p e1 e2
 · rw[if_neg hi] at e1;cases e1
theorem for_zip{K:c5k}{l1 l2:Addr}{xs ys:List V}{g:TG}{tb:TS}{D:Ends}{σ:L2.St}{H:Hp}(Pv:Nat→L2.St→Hp→Prop)(h0:Pv 0 σ H)(hl:∀ i σ H,Pv i σ H→SqL K H l1 xs∧SqL K H l2 ys)(hs:∀ i a σ H H',i<min xs.length ys.length→Pv i σ H→Same H H'→SqT K H' a [(xs[i]?).getD .non,(ys[i]?).getD .non]→g (.ref a) σ H' fun σ2 H2=>tb { D with nx:=Pv (i+1),ct:=Pv (i+1),bk:=D.nx } σ2 H2)(hd:∀ σ H,Pv (min xs.length ys.length) σ H→D.nx σ H) :
   ∃ W:Nat→Nat→L2.St→Hp→Prop,(∃ m,W 0 m σ H)∧∀ i m σ H,W i m σ H→
     ((Itz K l1 l2).stop i H∧D.nx σ H)∨((Itz K l1 l2).go i H∧∃ N:L2.St→Hp→Prop,(∀ σ' H',N σ' H'→∃ m',m' < m∧W (i+1) m' σ' H')∧∀ x H',(Itz K l1 l2).yld i H x H'→g x σ H' fun σ2 H2=>tb { D with nx:=N,ct:=N,bk:=D.nx } σ2 H2):=by
 refine⟨fun i m σ H=>m=min xs.length ys.length - i∧i≤min xs.length ys.length∧Pv i σ H,⟨min xs.length ys.length,by simp,c7c _,h0⟩,?_⟩;rintro i m σ H ⟨rfl,hi,p⟩;obtain⟨q1,q2⟩:=hl i σ H p;have q:=a7v q1 q2 H (L2.Same.refl _) i;by_cases hlt:i<min xs.length ys.length
 · obtain⟨go,yl⟩:=q.1 hlt;refine .inr ⟨go,Pv (i+1),fun σ' H' p'=>⟨min xs.length ys.length - (i+1),by omega,rfl,hlt,p'⟩,fun x H' y=>?_⟩;obtain⟨s',a,rfl,ht⟩:=yl x H' y;exact hs i a σ H H' hlt p s' ht
 · have e:i=min xs.length ys.length:=by omega
   exact .inl ⟨q.2 e,hd σ H (by rw[← e];exact p)⟩
noncomputable def c1t(K:c5k):Sp:=fun vs H Q _=>∃ (a:Addr) (ws:List V) (qs:List Rat) (D:Int) (m:Nat),vs=[.ref a]∧SqL K H a ws∧ShL H ws qs∧0<D∧Sz 9000 D∧(∀ q∈qs,(q.den:Int)∣D∧Bd m q)∧m≤9000∧qs.length≤40∧
 ∀ v tops bs H',Same H H'→AxV H' v (m+9000) tops bs→axR tops bs=qs→bs.length≤qs.length→a1g bs∣D→Q v H'
noncomputable def b3f(K:c5k):Sp:=fun vs H Q _=>∃ (a:Addr) (ws:List V) (ps:List Pt) (D:Int) (m:Nat),vs=[.ref a]∧SqL K H a ws∧PtsV H ws ps∧0<D∧Sz 9000 D∧(∀ p∈ps,((p.1.den:Int)∣D∧Bd m p.1)∧(p.2.den:Int)∣D∧Bd m p.2)∧m≤9000∧ps.length≤40∧
 ∀ c x y t1 b1 t2 b2 H',Same H H'→H' c=some (.tup [x,y])→AxV H' x (m+9000) t1 b1→AxV H' y (m+9000) t2 b2→axR t1 b1=ps.map (·.1)→axR t2 b2=ps.map (·.2)→b1.length≤ps.length→b2.length≤ps.length→a1g b1∣D→a1g b2∣D→Q (.ref c) H'
end Cv
namespace Cv
noncomputable def hvN(c:List Pl):List Pl:=c8v (fun p q=>((p.1+q.1) / 2,(p.2+q.2) / 2)) c (c.drop 1)
noncomputable def hrow(c:List Pl):Nat→List Pl
 | 0=>c
 | r+1=>hvN (hrow c r)
noncomputable def toP(dx dy:Int)(c:List Pl):List Pt:=c.map fun p=>(c5r p.1 dx,c5r p.2 dy)
noncomputable def Dvs(k:Nat)(c:List Pl):Prop:=∀ p∈c,(2:Int)^k∣p.1∧(2:Int)^k∣p.2
noncomputable def SzQ(n:Nat)(c:List Pl):Prop:=∀ p∈c,Sz n p.1∧Sz n p.2
theorem b1f(c:List Pl):(hvN c).length=c.length - 1:=by
 unfold hvN;rw[c8r,c6n];omega
theorem a6a(c:List Pl):∀ r,(hrow c r).length=c.length - r
 | 0=>rfl
 | r+1=>by
   show (hvN (hrow c r)).length=_;rw[b1f,a6a c r];omega
theorem b7a{c:List Pl}{i:Nat}{p q:Pl}(h1:c[i]?=some p)(h2:c[i+1]?=some q):(hvN c)[i]?=some ((p.1+q.1) / 2,(p.2+q.2) / 2):=by
 unfold hvN;rw[c8h,c8d,h1,Nat.add_comm 1 i,h2]
theorem c4a{c:List Pl}{z:Pl}(h:z∈hvN c):∃ p q,p∈c∧q∈c∧z=((p.1+q.1) / 2,(p.2+q.2) / 2):=by
 obtain⟨i,hi,rfl⟩:=c6k h;have hl:=b1f c;have e1:c[i]?=some (c[i]'(by omega (config:={}))):=c5j _;have e2:c[i+1]?=some (c[i+1]'(by omega (config:={}))):=c5j _;have e3:=b7a e1 e2;rw[c5j hi] at e3;exact⟨_,_,c6z _,c6z _,c6e.inj e3⟩
theorem b8y{k:Nat}{x u:Int}(h1:(2:Int)^(k+1)∣x)(h2:(2:Int)^(k+1)∣u):(2:Int)^k∣(x+u) / 2:=by
 obtain⟨a,rfl⟩:=h1;obtain⟨b,rfl⟩:=h2;refine⟨a+b,?_⟩;rw[Int.pow_succ];have e:(2:Int)^k*2*a+2^k*2*b=2*((2:Int)^k*(a+b)):=by
   rw[Int.mul_add,Int.mul_add];have e1:(2:Int)^k*2*a=2*(2^k*a):=by rw[c8n ((2:Int)^k) 2,c9r]
   have e2:(2:Int)^k*2*b=2*(2^k*b):=by rw[c8n ((2:Int)^k) 2,c9r]
   rw[e1,e2]
 rw[e,c7n _ (by decide)]
theorem hv_dvs{k:Nat}{c:List Pl}(h:Dvs (k+1) c):Dvs k (hvN c):=fun z hz=>by
 obtain⟨p,q,hp,hq,rfl⟩:=c4a hz;exact⟨b8y (h p hp).1 (h q hq).1,b8y (h p hp).2 (h q hq).2⟩
theorem c4f{n:Nat}{x u:Int}(h1:Sz n x)(h2:Sz n u):Sz n ((x+u) / 2):=⟨by
 have a:=h1.lt;have b:=h2.lt;generalize 2^n=N at a b;show ((x+u) / 2).natAbs<N;omega⟩
theorem hv_sz{n:Nat}{c:List Pl}(h:SzQ n c):SzQ n (hvN c):=fun z hz=>by
 obtain⟨p,q,hp,hq,rfl⟩:=c4a hz;exact⟨c4f (h p hp).1 (h q hq).1,c4f (h p hp).2 (h q hq).2⟩
theorem b7b{n:Nat}{c:List Pl}(h:SzQ n c):∀ r,SzQ n (hrow c r)
 | 0=>h
 | r+1=>hv_sz (b7b h r)
theorem b8z{x u d:Int}(h1:(2:Int)∣x)(h2:(2:Int)∣u):c5r ((x+u) / 2) d=btw (1 / 2) (c5r x d) (c5r u d):=by
 obtain⟨a,rfl⟩:=h1;obtain⟨b,rfl⟩:=h2;rw[← Int.mul_add,c7n _ (by decide)];unfold btw;simp only[b1k,c6b,c8i];have e2:((2:Int):Rat)=2:=rfl;rw[e2];grind
theorem a3r(dx dy:Int)(c:List Pl):(toP dx dy c).length=c.length:=by unfold toP;rw[c5l]
theorem hv_toP{dx dy:Int}{c:List Pl}(h:Dvs 1 c):toP dx dy (hvN c)=nxP (1 / 2) (toP dx dy c):=by
 refine c7y fun i=>?_;by_cases hi:i+1<c.length
 · have e1:c[i]?=some (c[i]'(by omega (config:={}))):=c5j _;have e2:c[i+1]?=some (c[i+1]'(by omega (config:={}))):=c5j _;have d1:=h _ (c5p e1);have d2:=h _ (c5p e2);have f1:(toP dx dy c)[i]?=some (c5r (c[i]'(by omega (config:={}))).1 dx,c5r (c[i]'(by omega (config:={}))).2 dy):=by unfold toP;rw[c5t,e1];rfl
   have f2:(toP dx dy c)[i+1]?=some (c5r (c[i+1]'(by omega (config:={}))).1 dx,c5r (c[i+1]'(by omega (config:={}))).2 dy):=by unfold toP;rw[c5t,e2];rfl
   rw[a3o _ _ i f1 f2];unfold toP;rw[c5t,b7a e1 e2];show some (_,_)=some (_,_);rw[b8z d1.1 d2.1,b8z d1.2 d2.2]
 · rw[c6m (by rw[a3r,b1f];omega),c6m (by rw[a3n,a3r];omega)]
theorem c1c{j k:Nat}(h:j≤k):(2:Int)^j∣2^k:=⟨2^(k - j),by rw[← Int.pow_add];congr 1;omega⟩
theorem Dvs.mono{k j:Nat}{c:List Pl}(h:Dvs k c)(hj:j≤k):Dvs j c:=fun p hp=>
 ⟨d0h (c1c hj) (h p hp).1,d0h (c1c hj) (h p hp).2⟩
theorem b0b{M:Nat}{c:List Pl}(h:Dvs M c):∀ r,r≤M→Dvs (M - r) (hrow c r)
 | 0,_=>h
 | r+1,hr=>by
   have:=b0b h r (by omega);refine hv_dvs ?_;rw[show M - (r+1)+1=M - r by omega];exact this
theorem b3u{dx dy:Int}{M:Nat}{c:List Pl}(h:Dvs M c):∀ r,r≤M→toP dx dy (hrow c r)=rowP (1 / 2) (toP dx dy c) r
 | 0,_=>rfl
 | r+1,hr=>by
   show toP dx dy (hvN (hrow c r))=nxP (1 / 2) (rowP (1 / 2) (toP dx dy c) r);rw[hv_toP ((b0b h r (by omega)).mono (by omega)),b3u h r (by omega)]
noncomputable def fhI(c:List Pl):List Pl:=(c7s c.length).map fun r=>((hrow c r)[0]?).getD (0,0)
noncomputable def lhI(c:List Pl):List Pl:=(c7s c.length).map fun k=>((hrow c (c.length - 1 - k))[k]?).getD (0,0)
theorem c4m(c:List Pl):(fhI c).length=c.length:=by unfold fhI;rw[c5l,c7z]
theorem c3l(c:List Pl):(lhI c).length=c.length:=by unfold lhI;rw[c5l,c7z]
theorem b7n(dx dy:Int)(c:List Pl)(i:Nat):((toP dx dy c)[i]?).getD (0,0)=(c5r ((c[i]?).getD (0,0)).1 dx,c5r ((c[i]?).getD (0,0)).2 dy):=by
 unfold toP;rw[c5t];cases c[i]? with
 | none=>show ((0:Rat),(0:Rat))=(c5r 0 dx,c5r 0 dy);rw[Rat.zero_divInt,Rat.zero_divInt]
 | some p=>rfl
theorem c4l{dx dy:Int}{M:Nat}{c:List Pl}(h:Dvs M c)(hM:c.length≤M+1):toP dx dy (fhI c)=a6l (1 / 2) (toP dx dy c):=by
 unfold a6l fhI;rw[a3r];show List.map _ (List.map _ _)=_;rw[d0b];refine c7x fun r hr=>?_;have hr:=c9t.mp hr;rw[← b3u h r (by omega),b7n];rfl
theorem c3k{dx dy:Int}{M:Nat}{c:List Pl}(h:Dvs M c)(hM:c.length≤M+1):toP dx dy (lhI c)=b1c (1 / 2) (toP dx dy c):=by
 unfold b1c lhI;rw[a3r];show List.map _ (List.map _ _)=_;rw[d0b];refine c7x fun k hk=>?_;have hk:=c9t.mp hk;rw[← b3u h (c.length - 1 - k) (by omega),b7n];rfl
theorem b1h{P:Pl→Prop}{c:List Pl}(h0:P (0,0))(h:∀ p∈c,P p)(i:Nat):P ((c[i]?).getD (0,0)):=by
 cases e:c[i]? with
 | none=>exact h0
 | some p=>exact h p (c5p e)
theorem fh_dvs{M:Nat}{c:List Pl}(h:Dvs M c)(hM:c.length≤M+1):Dvs (M - (c.length - 1)) (fhI c):=fun p hp=>by
 unfold fhI at hp;obtain⟨r,hr,rfl⟩:=c6h.mp hp;have hr:=c9t.mp hr;exact b1h (P:=fun p=>(2:Int)^(M - (c.length - 1))∣p.1∧(2:Int)^(M - (c.length - 1))∣p.2) ⟨⟨0,by simp⟩,⟨0,by simp⟩⟩ (fun p hp=>((b0b h r (by omega)).mono (by omega)) p hp) 0
theorem lh_dvs{M:Nat}{c:List Pl}(h:Dvs M c)(hM:c.length≤M+1):Dvs (M - (c.length - 1)) (lhI c):=fun p hp=>by
 unfold lhI at hp;obtain⟨k,hk,rfl⟩:=c6h.mp hp;have hk:=c9t.mp hk;exact b1h (P:=fun p=>(2:Int)^(M - (c.length - 1))∣p.1∧(2:Int)^(M - (c.length - 1))∣p.2) ⟨⟨0,by simp⟩,⟨0,by simp⟩⟩ (fun p hp=>((b0b h (c.length - 1 - k) (by omega)).mono (by omega)) p hp) k
theorem a8l(n:Nat):Sz n 0:=⟨by simpa using Nat.two_pow_pos n⟩
theorem fh_sz{n:Nat}{c:List Pl}(h:SzQ n c):SzQ n (fhI c):=fun p hp=>by
 unfold fhI at hp;obtain⟨r,hr,rfl⟩:=c6h.mp hp;exact b1h (P:=fun p=>Sz n p.1∧Sz n p.2) ⟨a8l n,a8l n⟩ (fun p hp=>b7b h r p hp) 0
theorem lh_sz{n:Nat}{c:List Pl}(h:SzQ n c):SzQ n (lhI c):=fun p hp=>by
 unfold lhI at hp;obtain⟨k,hk,rfl⟩:=c6h.mp hp;exact b1h (P:=fun p=>Sz n p.1∧Sz n p.2) ⟨a8l n,a8l n⟩ (fun p hp=>b7b h _ p hp) k
noncomputable def a1s(css:List (List Pl)):List (List Pl):=css.flatMap fun c=>[fhI c,lhI c]
theorem a7j:∀ (css:List (List Pl)) (i:Nat),(a1s css)[2*i]?=(css[i]?).map fhI∧(a1s css)[2*i+1]?=(css[i]?).map lhI
 | [],i=>by simp[a1s]
 | c::css,0=>by simp[a1s]
 | c::css,i+1=>by
   have ih:=a7j css i;unfold a1s at ih ⊢;rw[List.flatMap_cons];show ((fhI c::lhI c::css.flatMap _))[2*(i+1)]?=_∧((fhI c::lhI c::css.flatMap _))[2*(i+1)+1]?=_;rw[show 2*(i+1)=2*i+1+1 by omega,c9g,c9g,c9g,c9g,c9g];exact ih
theorem b2w(css:List (List Pl)):(a1s css).length=2*css.length:=by
 unfold a1s;induction css with
 | nil=>rfl
 | cons c css ih=>rw[List.flatMap_cons,c5n,ih];show 2+2*css.length=2*(css.length+1);omega
theorem b7c(css:List (List Pl))(c:List Pl):a1s (css++[c])=a1s css++[fhI c,lhI c]:=by
 unfold a1s;rw[List.flatMap_append];simp
noncomputable def lvI(c:List Pl):Nat→List (List Pl)
 | 0=>[c]
 | d+1=>a1s (lvI c d)
theorem b0z(c:List Pl):∀ d,(lvI c d).length=2^d
 | 0=>rfl
 | d+1=>by
   show (a1s (lvI c d)).length=_;rw[b2w,b0z c d,Nat.pow_succ];omega
noncomputable def hp:Nat→Rat
 | 0=>1
 | d+1=>hp d*(1 / 2)
noncomputable def tq(d i:Nat)(u:Rat):Rat:=(((i:Int):Rat)+u)*hp d
structure LvOk(dx dy:Int)(ps:List Pt)(n m d:Nat)(css:List (List Pl)):Prop where
 len:∀ c∈css,c.length=ps.length
 sz:∀ c∈css,SzQ n c
 dv:∀ c∈css,Dvs m c
 pt:∀ i c,css[i]?=some c→∀ u,ptP u (toP dx dy c)=ptP (tq d i u) ps
theorem lv_step{dx dy:Int}{ps:List Pt}{n m d:Nat}{css:List (List Pl)}(h1:1≤ps.length)(h:LvOk dx dy ps n (m+(ps.length - 1)) d css):LvOk dx dy ps n m (d+1) (a1s css):=by
 have mem:∀ e∈a1s css,∃ c∈css,e=fhI c∨e=lhI c:=fun e he=>by
   unfold a1s at he;obtain⟨c,hc,hm⟩:=c9x.mp he;exact⟨c,hc,by simpa using hm⟩
 refine⟨fun e he=>?_,fun e he=>?_,fun e he=>?_,fun i e he u=>?_⟩
 · obtain⟨c,hc,rfl | rfl⟩:=mem e he
   · rw[c4m];exact h.len c hc
   · rw[c3l];exact h.len c hc
 · obtain⟨c,hc,rfl | rfl⟩:=mem e he
   · exact fh_sz (h.sz c hc)
   · exact lh_sz (h.sz c hc)
 · obtain⟨c,hc,rfl | rfl⟩:=mem e he
   · have hl:=h.len c hc;exact (fh_dvs (h.dv c hc) (by omega)).mono (by omega)
   · have hl:=h.len c hc;exact (lh_dvs (h.dv c hc) (by omega)).mono (by omega)
 · obtain⟨j,hj⟩ : ∃ j,i=2*j∨i=2*j+1:=⟨i / 2,by omega⟩
   rcases hj with rfl | rfl
   · rw[(a7j css j).1] at he;cases ec:css[j]? with
     | none=>rw[ec] at he;cases he
     | some c=>
       rw[ec] at he;obtain rfl:fhI c=e:=c6e.inj he;have hc:=c5p ec;have hl:=h.len c hc;rw[c4l (h.dv c hc) (by omega),first_pt u (1 / 2) _ (by rw[a3r];omega),h.pt j c ec];congr 1;unfold tq;show _=_*(hp d*(1 / 2));rw[show ((2*j:Nat):Int)=2*(j:Int) by omega,c6b];have e2:((2:Int):Rat)=2:=rfl;rw[e2];grind
   · rw[(a7j css j).2] at he;cases ec:css[j]? with
     | none=>rw[ec] at he;cases he
     | some c=>
       rw[ec] at he;obtain rfl:lhI c=e:=c6e.inj he;have hc:=c5p ec;have hl:=h.len c hc;rw[c3k (h.dv c hc) (by omega),last_pt u (1 / 2) _ (by rw[a3r];omega),h.pt j c ec];congr 1;unfold tq btw;show _=_*(hp d*(1 / 2));rw[show ((2*j+1:Nat):Int)=2*(j:Int)+1 by omega,c8i,c6b];have e2:((2:Int):Rat)=2:=rfl;have e1:((1:Int):Rat)=1:=rfl;rw[e2,e1];grind
theorem b8s{dx dy:Int}{ps:List Pt}{n:Nat}{c:List Pl}(h1:1≤ps.length)(hc:toP dx dy c=ps)(hz:SzQ n c):∀ L d,d≤L→Dvs (L*(ps.length - 1)) c→LvOk dx dy ps n ((L - d)*(ps.length - 1)) d (lvI c d)
 | L,0,_,hd=>by
   have hl:c.length=ps.length:=by rw[← hc,a3r]
   refine⟨fun e he=>?_,fun e he=>?_,fun e he=>?_,fun i e he u=>?_⟩
   · rw[c6g.mp he];exact hl
   · rw[c6g.mp he];exact hz
   · rw[c6g.mp he];exact hd
   · cases i with
     | zero=>
       cases he;rw[hc];congr 1;unfold tq;show u=(0+u)*1;grind
     | succ i=>simp[lvI] at he
 | L,d+1,hd,hv=>by
   have ih:=b8s h1 hc hz L d (by omega) hv;refine lv_step h1 ?_;rw[show (L - (d+1))*(ps.length - 1)+(ps.length - 1)=(L - d)*(ps.length - 1) by
     rw[show L - d=(L - (d+1))+1 by omega,d0t]]
   exact ih
end Cv
namespace Cv
open PySem PySem.Spec PyProof.Rows L2
noncomputable def wcI(R:Int)(t1 t2:List Int):List Pl:=c8v (fun x y=>(x*R,y*R)) t1 t2
noncomputable def spRoom:Sp:=fun vs H Q _=>∃ n L:Nat,vs=[.int (n:Int),.int (L:Int)]∧1≤n∧n≤1000∧L≤1000∧Q (.int (2^(L*(n - 1)))) H
noncomputable def b7u:Sp:=fun vs H Q _=>∃ x y n t1 b1 t2 b2 R,vs=[x,y,.int R]∧AxV H x n t1 b1∧AxV H y n t2 b2∧t1.length=t2.length∧Sz 100 R∧n≤100000∧
 ∀ (l:Addr) (us:List V) (H':Hp),Same H H'→H l=none→H' l=some (.lst us)→PlsV H' us (wcI R t1 t2)→Q (.ref l) H'
noncomputable def b8a:Sp:=fun vs H Q _=>∃ (a:Addr) (ws:List V) (c:List Pl),vs=[.ref a]∧H a=some (.lst ws)∧PlsV H ws c∧c.length≤1000∧
 ∀ (p l1 l2:Addr) (u1 u2:List V) (H':Hp),Same H H'→H' p=some (.tup [.ref l1,.ref l2])→H l1=none→H l2=none→H' l1=some (.lst u1)→H' l2=some (.lst u2)→PlsV H' u1 (fhI c)→PlsV H' u2 (lhI c)→Q (.ref p) H'
structure CsV(H:Hp)(D:Option Addr)(ys:List V)(css:List (List Pl)):Prop where
 len:ys.length=css.length
 get:∀ (i:Nat) (v:V) (c:List Pl),ys[i]?=some v→css[i]?=some c→∃ (l:Addr) (us:List V),v=.ref l∧some l≠D∧H l=some (.lst us)∧PlsV H us c
theorem CsV.same{H H':Hp}{D:Option Addr}{ys:List V}{css:List (List Pl)}(h:CsV H D ys css)(s:Same H H'):CsV H' D ys css:=
 ⟨h.len,fun i v c e1 e2=>by obtain⟨l,us,r1,r2,r3,r4⟩:=h.get i v c e1 e2;exact⟨l,us,r1,r2,s _ _ r3,r4.same s⟩⟩
theorem CsV.at{H:Hp}{D:Option Addr}{ys:List V}{css:List (List Pl)}(h:CsV H D ys css){i:Nat}{c:List Pl}(hc:css[i]?=some c):∃ (l:Addr) (us:List V),ys[i]?=some (.ref l)∧H l=some (.lst us)∧PlsV H us c:=by
 have hi:i<css.length:=(c5m.mp hc).1;have e:ys[i]?=some (ys[i]'(by rw[h.len];exact hi)):=c5j _;obtain⟨l,us,r1,r2,r3,r4⟩:=h.get i _ c e hc;exact⟨l,us,by rw[e,r1],r3,r4⟩
noncomputable def b8b(K:c5k):Sp:=fun vs H Q _=>∃ (a:Addr) (ys:List V) (css:List (List Pl)),vs=[.ref a]∧H a=some (.lst ys)∧CsV H none ys css∧css.length≤1000∧(∀ c∈css,c.length≤1000)∧
 ∀ (l:Addr) (us:List V) (H':Hp),Same H H'→H l=none→H' l=some (.lst us)→CsV H' none us (a1s css)→Q (.ref l) H'
theorem a7q{α:Type}{ys:List α}{v w:α}{j:Nat}(e:(ys++[v])[j]?=some w):(j<ys.length∧ys[j]?=some w)∨(j=ys.length∧w=v):=by
 by_cases hj:j<ys.length
 · rw[c5y hj] at e;exact .inl ⟨hj,e⟩
 · rw[c6d (by omega)] at e;have hj0:j - ys.length=0:=by
     cases q:j - ys.length with
     | zero=>rfl
     | succ k=>rw[q] at e;simp at e
   rw[hj0] at e;exact .inr ⟨by omega,by simpa using e.symm⟩
theorem CsV.snoc{H:Hp}{D:Option Addr}{ys:List V}{css:List (List Pl)}{l:Addr}{us:List V}{c:List Pl}(h:CsV H D ys css)(hl:some l≠D)(h1:H l=some (.lst us))(h2:PlsV H us c):CsV H D (ys++[.ref l]) (css++[c]):=by
 refine⟨by rw[c5n,c5n,h.len];rfl,fun i v c' e1 e2=>?_⟩;rcases a7q e1 with⟨q1,q2⟩ | ⟨q1,rfl⟩
 · rcases a7q e2 with⟨p1,p2⟩ | ⟨p1,_⟩
   · exact h.get i v c' q2 p2
   · have:=h.len;omega
 · rcases a7q e2 with⟨p1,p2⟩ | ⟨p1,rfl⟩
   · have:=h.len;omega
   · exact⟨l,us,rfl,hl,h1,h2⟩
theorem CsV.upd{H:Hp}{D:Addr}{ys zs ws:List V}{css:List (List Pl)}(h:CsV H (some D) ys css)(hD:H D=some (.lst zs)):CsV (upd H D (.lst ws)) (some D) ys css:=by
 refine⟨h.len,fun i v c e1 e2=>?_⟩;obtain⟨l,us,r1,r2,r3,r4⟩:=h.get i v c e1 e2;have n:l≠D:=fun z=>r2 (by rw[z]);exact⟨l,us,r1,r2,by rw[a0m n];exact r3,r4.tup (Tup.lst hD)⟩
theorem b7d{K:c5k}{a:Addr}{xs:List V}{css:List (List Pl)}{H1:Hp}{wi2:TI}{te:TE}{cs:L2.St}{Q:VK}(hS:H1 a=some (.lst xs))(hC:CsV H1 none xs css)(hn:css.length≤1000)(hh:∀ (l:Addr) (us:List V) (c:List Pl) (o:Option V) (H2:Hp) (R:It→Hp→Prop),c∈css→H2 l=some (.lst us)→PlsV H2 us c→(∀ p l1 l2 u1 u2 H3,Same H2 H3→H3 p=some (.tup [.ref l1,.ref l2])→H2 l1=none→H2 l2=none→H3 l1=some (.lst u1)→H3 l2=some (.lst u2)→PlsV H3 u1 (fhI c)→PlsV H3 u2 (lhI c)→R (Itt K p) H3)→wi2 (some (.ref l)::o::cs) H2 R)(ht:∀ (v:V) (o:Option V) (H2:Hp) (k:VK),k v H2→te (o::some v::cs) H2 k)(hq:∀ D ys H2,H1 D=none→Same H1 H2→H2 D=some (.lst ys)→CsV H2 none ys (a1s css)→Q (.ref D) H2) :
   b6f 2 (Itl K a) H1 (a3u 0) wi2 (a3u 1) te cs Q:=by
 intro D hD;have nil0:CsV (upd H1 D (.lst [])) (some D) [] (a1s (css.take 0)):=⟨by rw[List.take_zero];rfl,fun i v c e=>by simp at e⟩
 have hxl:=hC.len;refine⟨fun i m ys H2=>m=css.length - i∧i≤css.length∧Same H1 H2∧H2 D=some (.lst ys)∧CsV H2 (some D) ys (a1s (css.take i)),⟨css.length,by simp,c7c _,Same.new hD,a0d,nil0⟩,?_⟩;rintro i m ys H2 ⟨rfl,hi,s2,d2,r2⟩;by_cases hlt:i<css.length
 · have ec:css[i]?=some css[i]:=c5j hlt;obtain⟨l,us,el,hl,hP⟩:=(hC.same s2).at ec;refine .inr ⟨⟨xs,_,SqL.of (s2 _ _ hS),el⟩,fun x H' y own ho=>?_⟩;obtain⟨rfl,hy⟩:=y;have hx:=hy xs (SqL.of (s2 _ _ hS));rw[el] at hx;obtain rfl:V.ref l=x:=c6e.inj hx;obtain⟨o1,o2,rfl⟩ : ∃ o1 o2,own=[o1,o2]:=by
     match own,ho with
     | [o1,o2],_=>exact⟨o1,o2,rfl⟩
   refine⟨[some (.ref l),o2],rfl,rfl,hh l us _ o2 H' _ (c6z hlt) hl hP fun p l1 l2 u1 u2 H3 s3 hp f1 f2 g1 g2 P1 P2=>?_⟩;have n1:l1≠D:=fun z=>by rw[z,d2] at f1;cases f1
   have n2:l2≠D:=fun z=>by rw[z,d2] at f2;cases f2
   have e12:a1s (css.take (i+1))=a1s (css.take i)++[fhI css[i]]++[lhI css[i]]:=by
     rw[b4o ec,b7c];simp
   have hsz:=r2.len;rw[b2w,c6u] at hsz;have hfree:H1 D=none:=hD;refine⟨fun j m2 ys2 own2 H6=>m2=2 - j∧j≤2∧(∃ o,own2=[some (.ref l),o])∧Same H1 H6∧H6 p=some (.tup [.ref l1,.ref l2])∧H6 l1=some (.lst u1)∧H6 l2=some (.lst u2)∧PlsV H6 u1 (fhI css[i])∧PlsV H6 u2 (lhI css[i])∧H6 D=some (.lst ys2)∧ys2.length=ys.length+j∧CsV H6 (some D) ys2 (a1s (css.take i)++([fhI css[i],lhI css[i]].take j)),
     ⟨2,rfl,by decide,⟨o2,rfl⟩,s2.trans s3,hp,g1,g2,P1,P2,s3 _ _ d2,rfl,by rw[List.take_zero,c8z];exact r2.same s3⟩,?_⟩
   rintro j m2 ys2 own2 H6 ⟨rfl,hj,⟨o,rfl⟩,s6,hp6,h61,h62,Q1,Q2,d6,hl6,r6⟩;have stepU:∀ ws,Same H1 (upd H6 D (.lst ws)):=fun ws b q e=>by rw[a0m (a0t e hD)];exact s6 _ _ e
   have npD:p≠D:=fun z=>by rw[z,d6] at hp6;cases hp6
   by_cases hj2:j<2
   · refine .inr ⟨⟨_,_,SqT.of hp6,c5j (by exact hj2)⟩,fun x2 H7 y2 ho2=>?_⟩;obtain⟨rfl,hy2⟩:=y2;have hx2:=hy2 _ (SqT.of hp6);refine⟨[some (.ref l),some x2],rfl,rfl,ht _ _ _ _ ?_⟩;refine⟨d6,a0o (by omega),2 - (j+1),by omega,rfl,by omega,⟨_,rfl⟩,stepU _,by rw[a0m npD];exact hp6,by rw[a0m n1];exact h61,by rw[a0m n2];exact h62,Q1.tup (Tup.lst d6),Q2.tup (Tup.lst d6),a0d,by rw[c5n,hl6];rfl,?_⟩;have hj3:j=0∨j=1:=by omega
     rcases hj3 with rfl | rfl
     · obtain rfl:V.ref l1=x2:=c6e.inj hx2;show CsV _ _ _ (a1s (css.take i)++[fhI css[i]]);exact (CsV.upd (by simpa using r6) d6).snoc (fun z=>n1 (c6e.inj z)) (by rw[a0m n1];exact h61) (Q1.tup (Tup.lst d6))
     · obtain rfl:V.ref l2=x2:=c6e.inj hx2;show CsV _ _ _ (a1s (css.take i)++[fhI css[i],lhI css[i]]);have:=(CsV.upd r6 d6 (ws:=ys2++[.ref l2])).snoc (l:=l2) (fun z=>n2 (c6e.inj z)) (by rw[a0m n2];exact h62) (Q2.tup (Tup.lst d6));rw[c6i] at this;exact this
   · have hj3:j=2:=by omega
     subst hj3;refine .inl ⟨⟨_,SqT.of hp6,by show 2≤2;decide⟩,css.length - (i+1),by omega,rfl,by omega,s6,d6,?_⟩;rw[e12,c6i];exact r6
 · have e:i=css.length:=by omega
   subst e;rw[c9y] at r2;refine .inl ⟨⟨xs,SqL.of (s2 _ _ hS),by omega⟩,hq D ys H2 hD s2 d2 ⟨r2.len,fun i v c e1 e2=>?_⟩⟩;obtain⟨l,us,q1,q2,q3,q4⟩:=r2.get i v c e1 e2;exact⟨l,us,q1,fun z=>(by cases z),q3,q4⟩
theorem a8i.congr{K:c5k}{J:It}{H1:Hp}{n m:Nat}{f g f' g':Nat→V}(h:a8i K J H1 n f g)(hn:n=m)(hf:∀ i,i<n→f i=f' i)(hg:∀ i,i<n→g i=g' i):a8i K J H1 m f' g':=fun H2 s i=>by
 subst hn;refine⟨fun hi=>⟨((h H2 s i).1 hi).1,fun x H' y=>?_⟩,(h H2 s i).2⟩;have q:=((h H2 s i).1 hi).2 x H' y;rw[hf i hi,hg i hi] at q;exact q
noncomputable def adr:V→Addr
 | .ref a=>a
 | _=>0
theorem comp_hv{K:c5k}{a b:Addr}{rs:List V}{c:List Pl}{H1:Hp}{te:TE}{cs:L2.St}{Q:VK}(h1:H1 a=some (.lst rs))(hP:PlsV H1 rs c)(h2:H1 b=some (.lst (rs.drop 1)))(hn:c.length≤100000)(he:∀ (H2:Hp) (k:VK) (x y u v:Int),Same H1 H2→(∀ w H3,Same H2 H3→RwV H3 w ((x+u) / 2) ((y+v) / 2)→k w H3)→te (some (.int x)::some (.int y)::some (.int u)::some (.int v)::cs) H2 k)(hq:∀ D ys H2,H1 D=none→Same H1 H2→H2 D=some (.lst ys)→PlsV H2 ys (hvN c)→Q (.ref D) H2) :
   a4o 4 (Itz K a b) H1 (gTup K 2 (a5s (gTup K 2 (a5s (a3u 0) (a5s (a3u 1) gNil))) (a5s (gTup K 2 (a5s (a3u 2) (a5s (a3u 3) gNil))) gNil))) te cs Q:=by
 have hl:=hP.len;have g0:∀ i,i<c.length→rs[i]?=some (.ref (adr ((rs[i]?).getD .non)))∧H1 (adr ((rs[i]?).getD .non))=some (.tup [.int ((c[i]?).getD (0,0)).1,.int ((c[i]?).getD (0,0)).2]):=fun i hi=>by
   obtain⟨z,ez,hz⟩:=hP.at (c5j hi);rw[ez,c5j hi];exact⟨rfl,hz⟩
 have J:=(a7v (SqL.of (K:=K) h1) (SqL.of (K:=K) h2)).congr (m:=c.length - 1) (f':=fun i=>.ref (adr ((rs[i]?).getD .non))) (g':=fun i=>.ref (adr ((rs[i+1]?).getD .non))) (by rw[c6n];omega)
   (fun i hi=>by rw[c6n] at hi;show (rs[i]?).getD .non=_;rw[(g0 i (by omega)).1];rfl)
   (fun i hi=>by rw[c6n] at hi;show ((rs.drop 1)[i]?).getD .non=_;rw[c8d,Nat.add_comm 1 i,(g0 (i+1) (by omega)).1];rfl)
 refine comp22 (fa:=fun i=>adr ((rs[i]?).getD .non)) (ga:=fun i=>adr ((rs[i+1]?).getD .non)) (x:=fun i=>.int ((c[i]?).getD (0,0)).1) (y:=fun i=>.int ((c[i]?).getD (0,0)).2) (u:=fun i=>.int ((c[i+1]?).getD (0,0)).1) (v:=fun i=>.int ((c[i+1]?).getD (0,0)).2) J
   (fun i hi=>SqT.of (g0 i (by omega)).2) (fun i hi=>SqT.of (g0 (i+1) (by omega)).2) (by omega)
   (fun i v H=>RwV H v ((((c[i]?).getD (0,0)).1+((c[i+1]?).getD (0,0)).1) / 2) ((((c[i]?).getD (0,0)).2+((c[i+1]?).getD (0,0)).2) / 2)) (fun _ _ _ _ t h=>h.tup t)
   (fun i H2 k hi s2 hk=>he H2 k _ _ _ _ s2 fun w H3 s3 hw=>hk w H3 s3 hw) (fun D ys H2 hD s2 hd hyl hr=>hq D ys H2 hD s2 hd ⟨by rw[b1f];exact hyl,fun i v p e1 e2=>?_⟩)
 have hi:i<ys.length:=(c5m.mp e1).1;have q:=hr i v e1;have f1:c[i]?=some (c[i]'(by omega (config:={}))):=c5j _;have f2:c[i+1]?=some (c[i+1]'(by omega (config:={}))):=c5j _;rw[b7a f1 f2] at e2;cases e2;rw[f1,f2] at q;exact q
noncomputable def muR(σ:L2.St)(H:Hp):Nat:=match (show List (Option V) from σ)[3]? with
 | some (some (V.ref l))=>(match H l with | some (.lst xs)=>xs.length | _=>0)
 | _=>0
theorem muR_eq{a b c:Option V}{l:Addr}{H:Hp}{xs:List V}(h:H l=some (.lst xs)):muR [a,b,c,some (.ref l)] H=xs.length:=by
 unfold muR;show (match H l with | some (.lst xs)=>xs.length | _=>0)=_;rw[h]
theorem PlsV.rev{H:Hp}{us:List V}{pl:List Pl}(h:PlsV H us pl):PlsV H us.reverse pl.reverse:=by
 have hl:=h.len;refine⟨by rw[c7k,c7k,hl],fun i w q e1 e2=>?_⟩;have hi:i<us.length:=by have:=(c5m.mp e1).1;rwa [c7k] at this
 rw[c8w hi] at e1;rw[c8w (by omega)] at e2;rw[hl] at e1;exact h.get _ w q e1 e2
theorem lh_rev(c:List Pl):((c7s c.length).map fun r=>((hrow c r)[c.length - 1 - r]?).getD (0,0)).reverse=lhI c:=by
 unfold lhI;refine c7y fun i=>?_;by_cases hi:i<c.length
 · rw[c8w (by simp;omega),c5t,c5t,d0x hi,c5l,c7z,d0x (by omega)];show some (((hrow c (c.length - 1 - i))[c.length - 1 - (c.length - 1 - i)]?).getD (0,0))=some (((hrow c (c.length - 1 - i))[i]?).getD (0,0));rw[show c.length - 1 - (c.length - 1 - i)=i by omega]
 · rw[c6m (by simp;omega),c6m (by simp;omega)]
theorem row_last{c:List Pl}{r:Nat}(h:r<c.length){rs:List V}{H:Hp}(hP:PlsV H rs (hrow c r)):∃ v,rs[rs.length - 1]?=some v∧RwV H v (((hrow c r)[c.length - 1 - r]?).getD (0,0)).1 (((hrow c r)[c.length - 1 - r]?).getD (0,0)).2:=by
 have hl:=hP.len;have hr:=a6a c r;have e:(hrow c r)[c.length - 1 - r]?=some ((hrow c r)[c.length - 1 - r]'(by omega (config:={}))):=c5j _;obtain⟨a,ea,ha⟩:=hP.at e;rw[e];refine⟨_,by rw[hl,hr,show c.length - r - 1=c.length - 1 - r by omega];exact ea,a,rfl,ha⟩
theorem b0h{x W D:Int}{m:Nat}(hW:0<W)(hD:0<D)(hWD:W∣D)(ho:Ov D m (c5r x W)):Sz m x:=by
 obtain⟨c,rfl⟩:=hWD;have hc:0<c:=by
   rcases Int.lt_trichotomy c 0 with h | h | h
   · have:=Int.mul_neg_of_pos_of_neg hW h;omega
   · rw[h,Int.mul_zero] at hD;omega
   · exact h
 have w0:(W:Rat)≠0:=fun z=>by have:=Rat.intCast_inj.mp (z.trans (Rat.intCast_zero).symm);omega
 obtain⟨a,ea,za⟩:=ho;rw[b1k,c6b] at ea;have e:((x*c:Int):Rat)=(a:Rat):=by
   rw[← ea,c6b];grind
 have z:Sz m (x*c):=by rw[Rat.intCast_inj.mp e];exact za
 exact z.le (by rw[d0q];exact Nat.le_mul_of_pos_right _ (by omega))
theorem wc_len{R:Int}{t1 t2:List Int}(h:t1.length=t2.length):(wcI R t1 t2).length=t1.length:=by unfold wcI;rw[c8r];omega
theorem wc_toP{R:Int}(hR:R≠0){t1 t2 b1 b2:List Int}{ps:List Pt}(e1:axR t1 b1=ps.map (·.1))(e2:axR t2 b2=ps.map (·.2)):toP (a1g b1*R) (a1g b2*R) (wcI R t1 t2)=ps:=by
 have l1:t1.length=ps.length:=by have:=congrArg c9v e1;rw[b4h,c5l] at this;exact this
 have l2:t2.length=ps.length:=by have:=congrArg c9v e2;rw[b4h,c5l] at this;exact this
 refine c7y fun i=>?_;by_cases hi:i<ps.length
 · have f1:t1[i]?=some (t1[i]'(by omega (config:={}))):=c5j _;have f2:t2[i]?=some (t2[i]'(by omega (config:={}))):=c5j _;have g1:=congrArg (fun l=>l[i]?) e1;have g2:=congrArg (fun l=>l[i]?) e2;simp only[axR,c5t,f1,f2,c5j hi,Option.map_some,c6e.injEq] at g1 g2;unfold toP wcI;rw[c5t,c8h,f1,f2,c5j hi];show some (c5r _ _,c5r _ _)=_;rw[d0v hR,d0v hR,g1,g2]
 · rw[c6m (by rw[a3r,wc_len (by omega)];omega),c6m (by omega)]
theorem wc_mem{R:Int}{t1 t2:List Int}{p:Pl}(h:p∈wcI R t1 t2):∃ x y,x∈t1∧y∈t2∧p=(x*R,y*R):=by
 unfold wcI at h;obtain⟨i,hi,rfl⟩:=c6k h;rw[c8r] at hi;rw[List.getElem_zipWith];exact⟨_,_,c6z _,c6z _,rfl⟩
theorem wc_dvs(k:Nat)(t1 t2:List Int):Dvs k (wcI (2^k) t1 t2):=fun p hp=>by
 obtain⟨x,y,_,_,rfl⟩:=wc_mem hp;exact⟨⟨x,c8n _ _⟩,⟨y,c8n _ _⟩⟩
theorem a4j(k:Nat):Sz (k+1) ((2:Int)^k):=⟨by
 have e:((2:Int)^k).natAbs=2^k:=by
   rw[Int.natAbs_pow];rfl
 rw[e,Nat.pow_succ];have:=Nat.two_pow_pos k;omega⟩
theorem wc_sz{k m:Nat}{t1 t2:List Int}(h1:∀ x∈t1,Sz m x)(h2:∀ x∈t2,Sz m x):SzQ (m+(k+1)) (wcI (2^k) t1 t2):=fun p hp=>by
 obtain⟨x,y,hx,hy,rfl⟩:=wc_mem hp;exact⟨(h1 x hx).mul (a4j k),(h2 y hy).mul (a4j k)⟩
theorem a8k{t b:List Int}{qs:List Rat}{D:Int}{m:Nat}(hW:0<a1g b)(hD:0<D)(hWD:a1g b∣D)(e:axR t b=qs)(ho:∀ q∈qs,Ov D m q):∀ x∈t,Sz m x:=fun x hx=>by
 refine b0h hW hD hWD (ho _ ?_);rw[← e];exact c6h.mpr ⟨x,hx,rfl⟩
theorem a5y(k:Nat):(0:Int)<2^k:=by
 have:=Nat.two_pow_pos k;have e:((2^k:Nat):Int)=(2:Int)^k:=by simp
 rw[← e];omega
structure CvB(H:Hp)(v:V)(l:Addr)(ws:List V)(ps:List Pt)(B:Int)(mo:Nat):Prop where
 ref:v=.ref l
 lst:H l=some (.lst ws)
 pts:PtsV H ws ps
 l1:1≤ps.length
 l2:ps.length≤mo
 ov:∀ p∈ps,OvP B 110 p
theorem CvB.same{H H':Hp}{v:V}{l:Addr}{ws:List V}{ps:List Pt}{B:Int}{mo:Nat}(h:CvB H v l ws ps B mo)(s:Same H H'):CvB H' v l ws ps B mo:=⟨h.ref,s _ _ h.lst,h.pts.same s,h.l1,h.l2,h.ov⟩
noncomputable def spDTwo(K:c5k):Sp:=fun vs H Q _=>∃ (a:Addr) (ns:List Int) (mo:Nat),vs=[.ref a,.int (mo:Int)]∧SqL K H a (ns.map V.int)∧1≤mo∧mo≤8∧
 ∀ (lb l0 l1:Addr) (w0 w1:List V) (p0 p1:List Pt) (B:Int) (H':Hp),Same H H'→H lb=none→H' lb=some (.lst [.ref l0,.ref l1])→CvB H' (.ref l0) l0 w0 p0 B mo→CvB H' (.ref l1) l1 w1 p1 B mo→1≤B→B≤3→Q (.ref lb) H'
theorem a6n{c s f:Int}(h1:c.natAbs≤12)(h2:s.natAbs≤10^30)(h3:f.natAbs≤10^30):Sz 110 (c*s+f)∧Sz 110 (c*s - f):=by
 have e:(c*s).natAbs≤12*10^30:=by rw[d0q];exact c8o h1 h2
 have p:(13:Nat)*10^30<2^110:=by decide
 exact⟨⟨by omega⟩,⟨by omega⟩⟩
theorem PtsV.rev{H:Hp}{us:List V}{ps:List Pt}(h:PtsV H us ps):PtsV H us.reverse ps.reverse:=by
 have hl:=h.len;refine⟨by rw[c7k,c7k,hl],fun i w q e1 e2=>?_⟩;have hi:i<us.length:=by have:=(c5m.mp e1).1;rwa [c7k] at this
 rw[c8w hi] at e1;rw[c8w (by omega)] at e2;rw[hl] at e1;exact h.get _ w q e1 e2
theorem CsV.drop{H:Hp}{D:Option Addr}{ys:List V}{css:List (List Pl)}(h:CsV H D ys css):CsV H none ys css:=
 ⟨h.len,fun i v c e1 e2=>by obtain⟨l,us,q1,q2,q3,q4⟩:=h.get i v c e1 e2;exact⟨l,us,q1,(fun z=>by cases z),q3,q4⟩⟩
end Cv
namespace Cv
noncomputable def cr(p q:Int×Int):Int:=p.1*q.2 - p.2*q.1
noncomputable def dt(w d:Int×Int):Int:=w.1*d.1+w.2*d.2
theorem b3z(p:Int×Int):cr p p=0:=by unfold cr;grind
theorem b5u(p q:Int×Int):cr q p=- cr p q:=by unfold cr;grind
noncomputable def amid(r l:Int×Int):Int×Int:=(l.2 - r.2,r.1 - l.1)
theorem c5e(r l f:Int×Int):dt (amid r l) f=cr r f+cr f l:=by unfold dt amid cr;grind
theorem cone_eq1(r l f d:Int×Int):cr r l*cr d f=cr d l*cr r f+cr r d*cr l f:=by unfold cr;grind
theorem cone_eq2(r l f d:Int×Int):cr r l*cr f d=cr d l*cr f r+cr r d*cr f l:=by unfold cr;grind
theorem b2s{a b:Int}(ha:0<a)(h:0≤a*b):0≤b:=by
 rcases Int.lt_or_le b 0 with z | z
 · have:=Int.mul_neg_of_pos_of_neg ha z;omega
 · exact z
theorem c4u{r l f d:Int×Int}(h:0<cr r l)(h1:0<cr r f)(h2:cr f l<0)(d1:0≤cr r d)(d2:0≤cr d l):0≤cr d f:=by
 refine b2s h ?_;rw[cone_eq1];have a:=c8p d2 (show 0≤cr r f by omega);have b:=c8p d1 (show 0≤cr l f by rw[b5u];omega);omega
theorem c0q{r l f d:Int×Int}(h:0<cr r l)(h1:0<cr f l)(h2:cr r f<0)(d1:0≤cr r d)(d2:0≤cr d l):0≤cr f d:=by
 refine b2s h ?_;rw[cone_eq2];have a:=c8p d2 (show 0≤cr f r by rw[b5u];omega);have b:=c8p d1 (show 0≤cr f l by omega);omega
noncomputable def cone(r l d:Int×Int):Bool:=decide (0≤cr r d) && decide (0≤cr d l)
theorem b9i{α:Type}{p q:α→Bool}{L:List α}{f:α}(h:∀ d∈L,p d=true→q d=true)(hf:f∈L)(hq:q f=true)(hp:p f=false):L.countP p<L.countP q:=by
 induction L with
 | nil=>cases hf
 | cons a L ih=>
   have le:L.countP p≤L.countP q:=List.countP_mono_left (fun d hd z=>h d (c6w _ hd) z);rw[List.countP_cons,List.countP_cons];rcases c6f.mp hf with rfl | hf'
   · rw[hp,hq];simp;omega
   · have:=ih (fun d hd=>h d (c6w _ hd)) hf';have ha:=h a c9k;cases hpa:p a with
     | false=>simp;split<;>omega
     | true=>rw[ha hpa];simp;omega
noncomputable def muP(L:List (Int×Int))(same:Bool)(r l:Int×Int):Nat:=if same then L.length+1 else L.length - L.countP (cone r l)
theorem b8q{L:List (Int×Int)}{r l r' l':Int×Int}:muP L false r' l' < muP L true r l:=by
 unfold muP;simp;omega
theorem mu_left{L:List (Int×Int)}{r l f:Int×Int}(hf:f∈L)(h:0<cr r l)(hw:dt (amid r l) f≤0)(h1:0<cr r f):muP L false r f<muP L false r l:=by
 rw[c5e] at hw;have h2:cr f l<0:=by omega
 have lt:=b9i (p:=cone r l) (q:=cone r f) (L:=L) (f:=f) (fun d _ z=>by
   unfold cone at z ⊢;simp only[c8k,decide_eq_true_eq] at z ⊢;exact⟨z.1,c4u h h1 h2 z.1 z.2⟩) hf (by unfold cone;simp[b3z];omega) (by unfold cone;simp;intro _;omega)
 have b:=List.countP_le_length (p:=cone r f) (l:=L);unfold muP;simp;omega
theorem mu_right{L:List (Int×Int)}{r l f:Int×Int}(hf:f∈L)(h:0<cr r l)(hw:dt (amid r l) f≤0)(h1:0<cr f l):muP L false f l<muP L false r l:=by
 rw[c5e] at hw;have h2:cr r f<0:=by omega
 have lt:=b9i (p:=cone r l) (q:=cone f l) (L:=L) (f:=f) (fun d _ z=>by
   unfold cone at z ⊢;simp only[c8k,decide_eq_true_eq] at z ⊢;exact⟨c0q h h1 h2 z.1 z.2,z.2⟩) hf (by unfold cone;simp[b3z];omega) (by unfold cone;simp;intro z;omega)
 have b:=List.countP_le_length (p:=cone f l) (l:=L);unfold muP;simp;omega
end Cv
namespace Cv
open PySem PySem.Spec PyProof.Rows L2
section
variable {X:Cx}
noncomputable def rIndex:V→List V→Hp→VK→Prop:=fun x vs H Q=>∃ (l:Addr) (ms:List Int) (y:Int) (j:Nat),x=.ref l∧vs=[.int y]∧H l=some (.lst (ms.map V.int))∧ms[j]?=some y∧(∀ m,m<j→ms[m]?≠some y)∧Q (.int (j:Int)) H
noncomputable def isI(y:Int):Value→Bool
 | .int i _=>i == y
 | _=>false
theorem b8r:MtM X "list.index" rIndex:=by
 intro pins s σ H x vs v us Q I rx rv h;obtain⟨l,ms,y,j,rfl,rfl,hH,hj,hno,q⟩:=h;cases rx;obtain⟨u,rfl,ru⟩:=rv.one;obtain⟨tk,rfl⟩:=ru;obtain⟨z,its,n,r,hl,e⟩:=I.lstM hH;rw[c5l] at hl z;have hat:∀ (m:Nat) (i:Int),ms[m]?=some i→∃ t,its[m]?=some (.int i t):=fun m i hm=>by
   obtain⟨u,e1,e2⟩:=Vals.get r (show (ms.map V.int)[m]?=some (.int i) by rw[c5t,hm];rfl);obtain⟨t,rfl⟩:=e2;exact⟨t,e1⟩
 have hjl:j<ms.length:=(c5m.mp hj).1;have hss:sizeLine<2^62:=by decide
 refine call_meets F.slot_list_index ⟨_,e,rfl⟩ F.entry_list_index (F.args_list_index_2 _ _) (PySem.SeqAt.list_indexAt l its.toArray n none #[] (.int y tk) (isI y) j (by rw[c6c];omega) (by omega) ?_ ?_) ⟨e,?_,?_⟩
 · obtain⟨t,et⟩:=hat j y hj;have:its.toArray[j]'(by rw[c6c];omega)=.int y t:=by
     rw[List.getElem_toArray];exact (c5m.mp et).2
   rw[this];simp[isI]
 · intro m hm hmj;rw[c6c] at hm;obtain⟨t,et⟩:=hat m (ms[m]'(by omega (config:={}))) (c5j _);have:its.toArray[m]'(by rw[c6c];omega)=.int (ms[m]'(by omega (config:={}))) t:=by
     rw[List.getElem_toArray];exact (c5m.mp et).2
   rw[this];have hne:=hno m hmj;rw[c5j (by omega)] at hne;simp only[isI];exact beq_eq_false_iff_ne.mpr (fun z=>hne (by rw[z]))
 · intro w hw;obtain⟨m,hm,rfl⟩:=c6k (List.mem_toArray.mp hw);obtain⟨t,et⟩:=hat m (ms[m]'(by omega (config:={}))) (c5j _);rw[(c5m.mp et).2];exact (MeetsSeq.EqGives.int _ _ _ _).at _ _
 · exact⟨.int (j:Int),_,I.tok _,⟨_,rfl⟩,q⟩
noncomputable def tAsg2(te:TE)(g1 g2:TG):TS:=fun D σ H=>te σ H fun x H1=>g1 x σ H1 fun σ' H'=>g2 x σ' H' D.nx
theorem ps_asg2{t1 t2 e:Expr}{te:TE}{g1 g2:TG}{pos:Pos}(he:PE X e te)(hg1:PG X t1 g1)(hg2:PG X t2 g2)(hs:swapsWithSole [t1,t2] e pos.line X.env=pure false:=by rfl)(hw:swappedStores [t1,t2] e X.env=pure none:=by rfl)(h1:(assignEach [t1,t2] X.env).map (·.2)=[assign t1 X.env,assign t2 X.env]:=by rfl):PS X (.Assign [t1,t2] e pos) (tAsg2 te g1 g2):=by
 intro pins s σ H D I h;refine wpAny_Assign_stores (thn (he pins s σ H _ I h) fun v s1 ⟨x,H1,I1,r1,q1⟩=>?_) hs hw;rw[h1];exact wpAny_bind (wpAny_holding (thn (hg1 pins s1 σ H1 x v _ I1 r1 q1) fun _ s2 ⟨σ2,H2,I2,q2⟩=>thn (hg2 pins s2 σ2 H2 x v _ I2 r1 q2) fun _ s3 q=>q))
theorem ps_asg2I{t1 t2 e:Expr}{te:TE}{g1 g2:TG}{pos:Pos}(he:PEi X e te)(hg1:PGi X t1 g1)(hg2:PGi X t2 g2)(hs:swapsWithSole [t1,t2] e pos.line X.env=pure false:=by rfl)(hw:swappedStores [t1,t2] e X.env=pure none:=by rfl)(h1:(assignEach [t1,t2] X.env).map (·.2)=[assign t1 X.env,assign t2 X.env]:=by rfl):PSi X (.Assign [t1,t2] e pos) (tAsg2 te g1 g2):=by with_unfolding_all exact ps_asg2 (he:=he) (hg1:=hg1) (hg2:=hg2) (hs:=hs) (hw:=hw) (h1:=h1)
end
theorem kPair{K:c5k}{H:Hp}{B:Addr}{d:Option Addr}{s:Array (Option Value)}{n:Nat}{i j:Int}{t1 t2:Tok}(l:K.lookup B=some ⟨.type "tuple",d,.seq #[.int i t1,.int j t2] n,s⟩):SqT K H B [.int i,.int j]:=
 .inr ⟨_,_,_,l,rfl,rfl,by show 2≤sizeLine;decide,.cons ⟨_,rfl⟩ (.cons ⟨_,rfl⟩ .nil)⟩
theorem kFour{K:c5k}{H:Hp}{A B1 B2 B3 B4:Addr}{d:Option Addr}{s:Array (Option Value)}{n:Nat}(l:K.lookup A=some ⟨.type "tuple",d,.seq #[.ref B1,.ref B2,.ref B3,.ref B4] n,s⟩):SqT K H A [.ref B1,.ref B2,.ref B3,.ref B4]:=
 .inr ⟨_,_,_,l,rfl,rfl,by show 4≤sizeLine;decide,.cons rfl (.cons rfl (.cons rfl (.cons rfl .nil)))⟩
noncomputable def SzW(n:Nat)(p:Pl):Prop:=Sz n p.1∧Sz n p.2
noncomputable def c1u(K:c5k):Sp:=fun vs H Q _=>∃ (a b:Addr) (ws:List V) (pl:List Pl) (w:Pl),vs=[.ref a,.ref b]∧H a=some (.lst ws)∧PlsV H ws pl∧SqT K H b [.int w.1,.int w.2]∧SzQ 2000 pl∧SzW 2010 w∧pl.length≤1000∧
 ∀ (l:Addr) (H':Hp),Same H H'→H l=none→H' l=some (.lst ((pl.map (dt w)).map V.int))→Q (.ref l) H'
noncomputable def b3d(K:c5k):Sp:=fun vs H Q _=>∃ (a b:Addr) (ws us:List V) (pl ql:List Pl) (i j:Nat) (p q:Pl),vs=[.ref a,.ref b,.int (i:Int),.int (j:Int)]∧H a=some (.lst ws)∧PlsV H ws pl∧H b=some (.lst us)∧PlsV H us ql∧pl[i]?=some p∧ql[j]?=some q∧
 ∀ (c:Addr) (H':Hp),Same H H'→H' c=some (.tup [.int (q.1 - p.1),.int (q.2 - p.2),.int (i:Int),.int (j:Int)])→Q (.ref c) H'
noncomputable def b6m(K:c5k):Sp:=fun vs H Q _=>∃ (a b:Addr) (p q:Pl) (i j m n:Int),vs=[.ref a,.ref b]∧H a=some (.tup [.int p.1,.int p.2,.int i,.int j])∧H b=some (.tup [.int q.1,.int q.2,.int m,.int n])∧SzW 2010 p∧SzW 2010 q∧Q (.int (cr p q)) H
noncomputable def c1l(K:c5k):Sp:=fun vs H Q _=>∃ (a b d:Addr) (ws us:List V) (pl ql:List Pl) (w:Pl),vs=[.ref a,.ref b,.ref d]∧H a=some (.lst ws)∧PlsV H ws pl∧H b=some (.lst us)∧PlsV H us ql∧SqT K H d [.int w.1,.int w.2]∧SzQ 2000 pl∧SzQ 2000 ql∧SzW 2010 w∧1≤pl.length∧1≤ql.length∧pl.length≤1000∧ql.length≤1000∧
 ∀ (c f:Addr) (i j:Nat) (p q:Pl) (H':Hp),Same H H'→H' c=some (.tup [.int (dt w p),.int (dt w q),.ref f])→H' f=some (.tup [.int (q.1 - p.1),.int (q.2 - p.2),.int (i:Int),.int (j:Int)])→pl[i]?=some p→ql[j]?=some q→(∀ p'∈pl,dt w p'≤dt w p)→(∀ q'∈ql,dt w q≤dt w q')→Q (.ref c) H'
theorem b9e{ms:List Int}{y:Int}(h:y∈ms):∃ j:Nat,ms[j]?=some y∧∀ m,m<j→ms[m]?≠some y:=by
 induction ms with
 | nil=>cases h
 | cons a ms ih=>
   by_cases e:a=y
   · exact⟨0,by rw[e];rfl,fun m hm=>by omega⟩
   · rcases c6f.mp h with z | z
     · exact absurd z.symm e
     · obtain⟨j,h1,h2⟩:=ih z;refine⟨j+1,by simpa using h1,fun m hm=>?_⟩;cases m with
       | zero=>simpa using e
       | succ m=>have:=h2 m (by omega);simpa using this
theorem ints_dt{us:List V}{pl:List Pl}{w:Pl}(hl:us.length=pl.length)(h:∀ (i:Nat) v,us[i]?=some v→v=V.int (dt w ((pl[i]?).getD (0,0)))):us=(pl.map (dt w)).map V.int:=by
 refine c7y fun i=>?_;rw[c5t,c5t];by_cases hi:i<us.length
 · have e:us[i]?=some us[i]:=c5j hi;have e2:pl[i]?=some (pl[i]'(by omega (config:={}))):=c5j _;have:=h i _ e;rw[e2] at this;rw[e,this,e2];rfl
 · rw[c6m (by omega),c6m (by omega)];rfl
abbrev Stp:=Pl×Int×Int
noncomputable def StV(H:Hp)(v:V)(s:Stp):Prop:=∃ a:Addr,v=.ref a∧H a=some (.tup [.int s.1.1,.int s.1.2,.int s.2.1,.int s.2.2])
theorem StV.same{H H':Hp}{v:V}{s:Stp}(h:StV H v s)(e:Same H H'):StV H' v s:=by
 obtain⟨a,rfl,h⟩:=h;exact⟨a,rfl,e _ _ h⟩
noncomputable def b1l(s:Stp):d0o:=.tuple [.int s.1.1,.int s.1.2,.int s.2.1,.int s.2.2]
theorem a8f{s t:Stp}:b1l s=b1l t↔s=t:=by
 obtain⟨⟨a,b⟩,c,d⟩:=s;obtain⟨⟨a',b'⟩,c',d'⟩:=t;unfold b1l;simp;constructor
 · rintro⟨h1,h2,h3,h4⟩;exact⟨⟨h1,h2⟩,h3,h4⟩
 · rintro⟨⟨h1,h2⟩,h3,h4⟩;exact⟨h1,h2,h3,h4⟩
theorem b0d(s:Stp)(n:Nat):c7m (n+2) (b1l s)=true:=by
 simp[b1l,c7m]
theorem dnSt{K:c5k}{H:Hp}{v:V}{s:Stp}(h:StV H v s):Dn K H (b1l s) v:=by
 obtain⟨a,rfl,h⟩:=h;unfold b1l;simp only[Dn,a9s];exact⟨a,_,rfl,SqT.of h,_,_,rfl,rfl,_,_,rfl,rfl,_,_,rfl,rfl,_,_,rfl,rfl,rfl⟩
noncomputable def wayA(r l:Stp):Pl:=if r=l then r.1 else amid r.1 l.1
noncomputable def spAmid(K:c5k):Sp:=fun vs H Q _=>∃ (x y:V) (r l:Stp),vs=[x,y]∧StV H x r∧StV H y l∧
 ∀ (c:Addr) (H':Hp),Same H H'→H' c=some (.tup [.int (wayA r l).1,.int (wayA r l).2])→Q (.ref c) H'
structure StsV(H:Hp)(vs:List V)(ss:List Stp):Prop where
 len:vs.length=ss.length
 get:∀ (i:Nat) v s,vs[i]?=some v→ss[i]?=some s→StV H v s
theorem StsV.same{H H':Hp}{vs:List V}{ss:List Stp}(h:StsV H vs ss)(e:Same H H'):StsV H' vs ss:=⟨h.len,fun i v s e1 e2=>(h.get i v s e1 e2).same e⟩
theorem StsV.at{H:Hp}{vs:List V}{ss:List Stp}(h:StsV H vs ss){i:Nat}{s:Stp}(e:ss[i]?=some s):∃ a,vs[i]?=some (.ref a)∧H a=some (.tup [.int s.1.1,.int s.1.2,.int s.2.1,.int s.2.2]):=by
 have hi:i<ss.length:=(c5m.mp e).1;have e1:vs[i]?=some (vs[i]'(by rw[h.len];exact hi)):=c5j _;obtain⟨a,e2,h2⟩:=h.get i _ s e1 e;exact⟨a,by rw[e1,e2],h2⟩
noncomputable def b2z(ss:List Stp):Prop:=(∃ r,ss=[r]∧r.1=(0,0))∨(∃ r f,ss=[r,f]∧cr r.1 f.1=0∧dt r.1 f.1≤0∧r.1≠(0,0))∨(∃ r l f,ss=[r,l,f]∧0<cr r.1 l.1∧cr r.1 f.1≤0∧cr f.1 l.1≤0)
noncomputable def a7b(pl ql:List Pl)(s:Stp):Prop:=∃ (i j:Nat) (p q:Pl),pl[i]?=some p∧ql[j]?=some q∧s=((q.1 - p.1,q.2 - p.2),(i:Int),(j:Int))
noncomputable def b3e(K:c5k):Sp:=fun vs H Q _=>∃ (a b:Addr) (ws us:List V) (pl ql:List Pl) (n:Nat),vs=[.ref a,.ref b]∧H a=some (.lst ws)∧PlsV H ws pl∧H b=some (.lst us)∧PlsV H us ql∧SzQ n pl∧SzQ n ql∧1≤n∧n≤2000∧1≤pl.length∧1≤ql.length∧pl.length≤1000∧ql.length≤1000∧
 (∀ (c d e:Addr) (w p q:Pl) (H':Hp),Same H H'→H' c=some (.tup [.ref d,.ref e])→H' d=some (.tup [.int w.1,.int w.2,.int (dt w p+dt w q)])→H' e=some (.lst [])→SzW (n+2) w→p∈pl→q∈ql→dt w p<dt w q→(∀ p'∈pl,dt w p'≤dt w p)→(∀ q'∈ql,dt w q≤dt w q')→Q (.ref c) H')∧
 (∀ (c e:Addr) (vs:List V) (ss:List Stp) (H':Hp),Same H H'→H' c=some (.tup [.non,.ref e])→H' e=some (.lst vs)→StsV H' vs ss→(∀ s∈ss,a7b pl ql s)→b2z ss→Q (.ref c) H')
theorem while_gh{c:TT}{tb:TS}{D:Ends}{σ:L2.St}{H:Hp}(Pv:Nat→L2.St→Hp→Prop){m0:Nat}(h0:Pv m0 σ H)(hs:∀ m σ H,Pv m σ H→c σ H fun b H1=>if b=true then tb { D with nx:=fun σ' H'=>∃ m',m' < m∧Pv m' σ' H',ct:=fun σ' H'=>∃ m',m' < m∧Pv m' σ' H',bk:=D.nx } σ H1 else D.nx σ H1)(mono:∀ σ H Q Q',(∀ b H1,Q b H1→Q' b H1)→c σ H Q→c σ H Q'):b7p c tb D σ H:=by
 refine⟨Pv,⟨_,h0⟩,?_⟩;intro m σ H p;refine mono σ H _ _ (fun b H1 q=>?_) (hs m σ H p);cases b with
 | true=>exact⟨_,fun σ' H' z=>z,q⟩
 | false=>exact q
noncomputable def allSt(pl ql:List Pl):List Pl:=pl.flatMap fun p=>ql.map fun q=>(q.1 - p.1,q.2 - p.2)
theorem a7b.mem{pl ql:List Pl}{s:Stp}(h:a7b pl ql s):s.1∈allSt pl ql:=by
 obtain⟨i,j,p,q,h1,h2,rfl⟩:=h;exact c9x.mpr ⟨p,c5p h1,c6h.mpr ⟨q,c5p h2,rfl⟩⟩
theorem a7b.sz{n:Nat}{pl ql:List Pl}{s:Stp}(h:a7b pl ql s)(zp:SzQ n pl)(zq:SzQ n ql):SzW (n+1) s.1:=by
 obtain⟨i,j,p,q,h1,h2,rfl⟩:=h;have a:=zp _ (c5p h1);have b:=zq _ (c5p h2);exact⟨Sz.mono (Sz.sub b.1 a.1) (by omega),Sz.mono (Sz.sub b.2 a.2) (by omega)⟩
noncomputable def RLok(r l:Stp):Prop:=(r=l∧r.1≠(0,0))∨0<cr r.1 l.1
noncomputable def mS(L:List Pl)(r l:Stp):Nat:=muP L (decide (r=l)) r.1 l.1
theorem RLok.ne{r l:Stp}(h:0<cr r.1 l.1):r≠l:=fun e=>by subst e;rw[b3z] at h;omega
theorem wayA_sz{n:Nat}{r l:Stp}(hr:SzW n r.1)(hl:SzW n l.1):SzW (n+1) (wayA r l):=by
 unfold wayA;split
 · exact⟨Sz.mono hr.1 (by omega),Sz.mono hr.2 (by omega)⟩
 · exact⟨Sz.mono (Sz.sub hl.2 hr.2) (by omega),Sz.mono (Sz.sub hr.1 hl.1) (by omega)⟩
theorem dt_sub(w p q:Pl):dt w (q.1 - p.1,q.2 - p.2)=dt w q - dt w p:=by unfold dt;grind
theorem c1i{L:List Pl}{r l f:Stp}(hf:f.1∈L)(h:RLok r l)(hw:dt (wayA r l) f.1≤0)(h1:0<cr r.1 f.1):RLok r f∧mS L r f<mS L r l:=by
 refine⟨.inr h1,?_⟩;have e1:decide (r=f)=false:=decide_eq_false (RLok.ne h1);rcases h with⟨rfl,h0⟩ | h
 · unfold mS;rw[e1,decide_eq_true rfl];exact b8q
 · have e2:decide (r=l)=false:=decide_eq_false (RLok.ne h);have e3:wayA r l=amid r.1 l.1:=if_neg (RLok.ne h);unfold mS;rw[e1,e2];rw[e3] at hw;exact mu_left hf h hw h1
theorem b9q{L:List Pl}{r l f:Stp}(hf:f.1∈L)(h:RLok r l)(hw:dt (wayA r l) f.1≤0)(h1:0<cr f.1 l.1):RLok f l∧mS L f l<mS L r l:=by
 refine⟨.inr h1,?_⟩;have e1:decide (f=l)=false:=decide_eq_false (RLok.ne h1);rcases h with⟨rfl,h0⟩ | h
 · unfold mS;rw[e1,decide_eq_true rfl];exact b8q
 · have e2:decide (r=l)=false:=decide_eq_false (RLok.ne h);have e3:wayA r l=amid r.1 l.1:=if_neg (RLok.ne h);unfold mS;rw[e1,e2];rw[e3] at hw;exact mu_right hf h hw h1
theorem end_two{r f:Stp}(h:RLok r r)(hw:dt (wayA r r) f.1≤0)(h1:¬ 0<cr r.1 f.1)(h2:¬ 0<cr f.1 r.1):b2z [r,f]:=by
 rcases h with⟨_,h0⟩ | h
 · have e3:wayA r r=r.1:=if_pos rfl;rw[e3] at hw;rw[b5u] at h2;exact .inr (.inl ⟨r,f,rfl,by omega,hw,h0⟩)
 · rw[b3z] at h;omega
theorem c4n{r l f:Stp}(h:RLok r l)(hn:r≠l)(h1:¬ 0<cr r.1 f.1)(h2:¬ 0<cr f.1 l.1):b2z [r,l,f]:=by
 rcases h with⟨h0,_⟩ | h
 · exact absurd h0 hn
 · exact .inr (.inr ⟨r,l,f,rfl,h,by omega,by omega⟩)
theorem SzQ.mono{n m:Nat}{c:List Pl}(h:SzQ n c)(e:n≤m):SzQ m c:=fun p hp=>⟨(h p hp).1.mono e,(h p hp).2.mono e⟩
theorem datPl2(x y:Int)(n:Nat):c7m (n+2) (.tuple [.int x,.int y])=true:=by simp[c7m]
theorem dnPl2{K:c5k}{H:Hp}{a:Addr}{x y:Int}(h:SqT K H a [.int x,.int y]):Dn K H (.tuple [.int x,.int y]) (.ref a):=by
 simp only[Dn,a9s];exact⟨a,_,rfl,h,_,_,rfl,rfl,_,_,rfl,rfl,rfl⟩
theorem StV.tup{H H':Hp}{v:V}{s:Stp}(h:StV H v s)(e:Tup H H'):StV H' v s:=by
 obtain⟨a,rfl,h⟩:=h;exact⟨a,rfl,e _ _ h⟩
noncomputable def tnI:List Stp→List Int
 | [_]=>[1]
 | [r,f]=>[-r.1.1*f.1.1 - r.1.2*f.1.2,r.1.1*r.1.1+r.1.2*r.1.2]
 | [r,l,f]=>[cr l.1 f.1,cr f.1 r.1,cr r.1 l.1]
 | _=>[]
noncomputable def a6d(ss:List Stp):Prop:=(∃ r,ss=[r]∧r.1=(0,0))∨(∃ r f,ss=[r,f]∧cr r.1 f.1=0∧r.1.1*f.1.1≤0∧r.1.2*f.1.2≤0∧r.1≠(0,0))∨(∃ r l f,ss=[r,l,f]∧0<cr r.1 l.1∧cr r.1 f.1≤0∧cr f.1 l.1≤0)
theorem b4p(a:Int):0≤a*a:=by
 rcases Int.le_total 0 a with h | h
 · exact c8p h h
 · have:=c8p (show 0≤-a by omega) (show 0≤-a by omega);grind
theorem c1x{a b c d:Int}(h:a*d - b*c=0)(h2:a*c+b*d≤0):a*c≤0:=by
 rcases Int.lt_or_le 0 (a*c) with z | z
 · exfalso;have e:(b*d)*(a*c)=(b*c)*(b*c):=by
     have:a*d=b*c:=by omega
     grind
   have p:=b4p (b*c);rw[← e] at p;have:b*d<0:=by omega
   have:=Int.mul_neg_of_neg_of_pos this z;omega
 · exact z
theorem b2z.s{ss:List Stp}(h:b2z ss):a6d ss:=by
 rcases h with h | ⟨r,f,e,h1,h2,h3⟩ | h
 · exact .inl h
 · refine .inr (.inl ⟨r,f,e,h1,?_,?_,h3⟩)
   · exact c1x h1 h2
   · refine c1x (a:=r.1.2) (b:=r.1.1) (c:=f.1.2) (d:=f.1.1) ?_ ?_
     · unfold cr at h1;grind
     · unfold dt at h2;omega
 · exact .inr (.inr h)
noncomputable def Meas(A B C D:Int)(s s':Stp):Prop:=s'.1.1*A=s.1.1*B∧s'.1.2*C=s.1.2*D
theorem b0y{a b:Int}(ha:0<a)(h:a*b≤0):b≤0:=by
 rcases Int.lt_or_le 0 b with z | z
 · have:=c7q ha z;omega
 · exact z
theorem a7g{a b:Int}(ha:0<a)(h:0<a*b):0<b:=by
 rcases Int.lt_or_le 0 b with z | z
 · exact z
 · have:=c9b z (show 0≤a by omega);simp at this;omega
theorem b3s{A B C D:Int}{s s' t t':Stp}(h:Meas A B C D s s')(k:Meas A B C D t t'):(A*C)*cr s'.1 t'.1=(B*D)*cr s.1 t.1:=by
 obtain⟨h1,h2⟩:=h;obtain⟨k1,k2⟩:=k;unfold cr;have e1:(s'.1.1*A)*(t'.1.2*C)=(s.1.1*B)*(t.1.2*D):=by rw[h1,k2]
 have e2:(s'.1.2*C)*(t'.1.1*A)=(s.1.2*D)*(t.1.1*B):=by rw[h2,k1]
 grind
theorem c3e{A B C D:Int}(hA:0<A)(hB:0<B)(hC:0<C)(hD:0<D){s s':Stp}(h:Meas A B C D s s'):s'.1=(0,0)↔s.1=(0,0):=by
 obtain⟨h1,h2⟩:=h;constructor
 · intro e;have a1:s'.1.1=0:=by rw[e]
   have a2:s'.1.2=0:=by rw[e]
   rw[a1,Int.zero_mul] at h1;rw[a2,Int.zero_mul] at h2;have b1:s.1.1=0:=by rcases c9c.mp h1.symm with z | z;exact z;omega
   have b2:s.1.2=0:=by rcases c9c.mp h2.symm with z | z;exact z;omega
   exact Prod.ext b1 b2
 · intro e;have a1:s.1.1=0:=by rw[e]
   have a2:s.1.2=0:=by rw[e]
   rw[a1,Int.zero_mul] at h1;rw[a2,Int.zero_mul] at h2;have b1:s'.1.1=0:=by rcases c9c.mp h1 with z | z;exact z;omega
   have b2:s'.1.2=0:=by rcases c9c.mp h2 with z | z;exact z;omega
   exact Prod.ext b1 b2
theorem c3d{A B:Int}(hA:0<A)(hB:0<B){x x' y y':Int}(h:x' * A=x*B)(k:y' * A=y*B)(z:x*y≤0):x' * y'≤0:=by
 have e:(A*A)*(x' * y')=(B*B)*(x*y):=by
   have:(x' * A)*(y' * A)=(x*B)*(y*B):=by rw[h,k]
   grind
 refine b0y (c7q hA hA) ?_;rw[e];have:=c9b z (show 0≤B*B from c8p (by omega) (by omega));simpa using this
theorem a6d.meas{A B C D:Int}(hA:0<A)(hB:0<B)(hC:0<C)(hD:0<D){ss ss':List Stp}(h:a6d ss)(hl:ss'.length=ss.length)(hm:∀ (k:Nat) s s',ss[k]?=some s→ss'[k]?=some s'→Meas A B C D s s'):a6d ss':=by
 have hAC:=c7q hA hC;have hBD:=c7q hB hD;rcases h with⟨r,rfl,h⟩ | ⟨r,f,rfl,h1,h2,h3,h4⟩ | ⟨r,l,f,rfl,h1,h2,h3⟩
 · match ss',hl with
   | [r'],_=>exact .inl ⟨r',rfl,(c3e hA hB hC hD (hm 0 r r' rfl rfl)).mpr h⟩
 · match ss',hl with
   | [r',f'],_=>
     have mr:=hm 0 r r' rfl rfl;have mf:=hm 1 f f' rfl rfl;refine .inr (.inl ⟨r',f',rfl,?_,c3d hA hB mr.1 mf.1 h2,c3d hC hD mr.2 mf.2 h3,fun e=>h4 ((c3e hA hB hC hD mr).mp e)⟩);have e:=b3s mr mf;rw[h1,Int.mul_zero] at e;rcases c9c.mp e with z | z
     · omega
     · exact z
 · match ss',hl with
   | [r',l',f'],_=>
     have mr:=hm 0 r r' rfl rfl;have ml:=hm 1 l l' rfl rfl;have mf:=hm 2 f f' rfl rfl;refine .inr (.inr ⟨r',l',f',rfl,a7g hAC ?_,b0y hAC ?_,b0y hAC ?_⟩)
     · rw[b3s mr ml];exact c7q hBD h1
     · rw[b3s mr mf];have:=c9b h2 (show 0≤B*D by omega);simpa using this
     · rw[b3s mf ml];have:=c9b h3 (show 0≤B*D by omega);simpa using this
noncomputable def dotR(ts:List Int)(cs:List Rat):Rat:=(c8v (fun (t:Int) (c:Rat)=>(t:Rat)*c) ts cs).sum
theorem a5t(t:Int)(ts:List Int)(c:Rat)(cs:List Rat):dotR (t::ts) (c::cs)=(t:Rat)*c+dotR ts cs:=by unfold dotR;simp
theorem dotR_nil(cs:List Rat):dotR [] cs=0:=by unfold dotR;simp
theorem b3w:∀ (ts:List Int) (cs:List Rat) (i:Nat) (t m:Int) (c:Rat),ts[i]?=some t→cs[i]?=some c→dotR (ts.set i (t+m)) cs=dotR ts cs+(m:Rat)*c
 | [],_,i,t,m,c,h,_=>by simp at h
 | _::_,[],i,t,m,c,_,h=>by simp at h
 | a::ts,b::cs,0,t,m,c,h1,h2=>by
   simp at h1 h2;subst h1 h2;rw[List.set_cons_zero,a5t,a5t,c8i];grind
 | a::ts,b::cs,i+1,t,m,c,h1,h2=>by
   rw[List.set_cons_succ,a5t,a5t,b3w ts cs i t m c (by simpa using h1) (by simpa using h2)];grind
theorem b1j:∀ (n:Nat) (cs:List Rat),dotR (c5q n 0) cs=0
 | 0,cs=>dotR_nil cs
 | n+1,[]=>by unfold dotR;simp
 | n+1,c::cs=>by rw[c7j,a5t,b1j n cs];grind
noncomputable def accS(cs:List Rat):List Int→List Nat→Rat
 | t::ts,j::js=>(t:Rat)*cs.getD j 0+accS cs ts js
 | _,_=>0
theorem b1w(cs:List Rat):∀ (ts:List Int) (js:List Nat) (i:Nat) (t:Int) (j:Nat),ts[i]?=some t→js[i]?=some j→accS cs (ts.take (i+1)) (js.take (i+1))=accS cs (ts.take i) (js.take i)+(t:Rat)*cs.getD j 0
 | [],_,i,t,j,h,_=>by simp at h
 | _::_,[],i,t,j,_,h=>by simp at h
 | a::ts,b::js,0,t,j,h1,h2=>by
   simp at h1 h2;subst h1 h2;simp[accS,Rat.add_zero,Rat.zero_add]
 | a::ts,b::js,i+1,t,j,h1,h2=>by
   have:=b1w cs ts js i t j (by simpa using h1) (by simpa using h2);simp only[c9w,accS];rw[this];grind
theorem tn_len{ss:List Stp}(h:a6d ss):(tnI ss).length=ss.length:=by
 rcases h with⟨r,rfl,_⟩ | ⟨r,f,rfl,_⟩ | ⟨r,l,f,rfl,_⟩<;>rfl
theorem tn_nn{ss:List Stp}(h:a6d ss):∀ t∈tnI ss,0≤t:=by
 rcases h with⟨r,rfl,h⟩ | ⟨r,f,rfl,h1,h2,h3,h4⟩ | ⟨r,l,f,rfl,h1,h2,h3⟩
 · intro t ht;simp[tnI] at ht;omega
 · intro t ht;simp only[tnI,c6f,c6r,or_false] at ht;rcases ht with rfl | rfl
   · have:-r.1.1*f.1.1=-(r.1.1*f.1.1):=by grind
     omega
   · have:=b4p r.1.1;have:=b4p r.1.2;omega
 · intro t ht;simp only[tnI,c6f,c6r,or_false] at ht;rcases ht with rfl | rfl | rfl
   · rw[b5u];omega
   · rw[b5u];omega
   · omega
theorem sq_pos{a:Int}(h:a≠0):0<a*a:=by
 have:=b4p a;rcases Int.lt_or_le 0 (a*a) with z | z
 · exact z
 · have e:a*a=0:=by omega
   rcases c9c.mp e with z | z<;>exact absurd z h
theorem tn_pos{ss:List Stp}(h:a6d ss):0<(tnI ss).sum:=by
 have nn:=tn_nn h;rcases h with⟨r,rfl,h⟩ | ⟨r,f,rfl,h1,h2,h3,h4⟩ | ⟨r,l,f,rfl,h1,h2,h3⟩
 · show (0:Int) < [(1:Int)].sum;decide
 · have a:=nn (-r.1.1*f.1.1 - r.1.2*f.1.2) (by simp[tnI]);have b1:=b4p r.1.1;have b2:=b4p r.1.2;have:0<r.1.1*r.1.1+r.1.2*r.1.2:=by
     by_cases e:r.1.1=0
     · have:r.1.2≠0:=fun z=>h4 (Prod.ext e z);have:=sq_pos this;omega
     · have:=sq_pos e;omega
   simp only[tnI,c7u,d0s];omega
 · have a:=nn (cr l.1 f.1) (by simp[tnI]);have b:=nn (cr f.1 r.1) (by simp[tnI]);simp only[tnI,c7u,d0s];omega
theorem tn_zero{ss:List Stp}(h:a6d ss):(c8v (fun (t:Int) (s:Stp)=>t*s.1.1) (tnI ss) ss).sum=0∧(c8v (fun (t:Int) (s:Stp)=>t*s.1.2) (tnI ss) ss).sum=0:=by
 rcases h with⟨r,rfl,h⟩ | ⟨r,f,rfl,h1,h2,h3,h4⟩ | ⟨r,l,f,rfl,h1,h2,h3⟩
 · have a1:r.1.1=0:=by rw[h]
   have a2:r.1.2=0:=by rw[h]
   simp[tnI,a1,a2]
 · unfold cr at h1;simp only[tnI,c8s,List.zipWith_nil_left,c7u,d0s];constructor
   · have:(-r.1.1*f.1.1 - r.1.2*f.1.2)*r.1.1+((r.1.1*r.1.1+r.1.2*r.1.2)*f.1.1+0)=- (r.1.2*(r.1.1*f.1.2 - r.1.2*f.1.1)):=by grind
     rw[this,h1];simp
   · have:(-r.1.1*f.1.1 - r.1.2*f.1.2)*r.1.2+((r.1.1*r.1.1+r.1.2*r.1.2)*f.1.2+0)=r.1.1*(r.1.1*f.1.2 - r.1.2*f.1.1):=by grind
     rw[this,h1];simp
 · simp only[tnI,c8s,List.zipWith_nil_left,c7u,d0s];unfold cr;constructor<;>grind
section
variable {X:Cx}
noncomputable def rGetL(K:c5k):V→V→Hp→VK→Prop:=fun o i H Q=>∃ (p:Addr) (xs:List V) (k:Nat) (v:V),o=.ref p∧i=.int (k:Int)∧SqL K H p xs∧xs[k]?=some v∧Q v H
theorem b5n(K:c5k)(hK:X.K=K:=by rfl):PGet X (rGetL K):=by
 subst hK;intro pins s σ H o i ov iv Q I r1 r2 h;obtain⟨p,xs,k,v,rfl,rfl,hq,he,q⟩:=h;cases r1;obtain⟨t,rfl⟩:=r2;obtain⟨its,r,pl,hz⟩:=I.list hq;obtain⟨w,ew,rw'⟩:=r.get he;have hl:=r.length;have hn:=b5j;have hk:k<xs.length:=(c5m.mp he).1;exact wpAny_getItem_list pl.isList (by omega) (by omega) (by rw[c9q];simpa using ew) ⟨v,H,I,rw',q⟩
theorem b8j{o i e:Expr}{to ti te:TE}{tget:V→V→Hp→VK→Prop}{tip:TIp}{tset:TSet}{op:Operator}{tpos pos:Pos}(ho:PEi X o to)(hi:PEi X i ti)(hg:PGet X tget)(he:PEi X e te)(hp:PIp X op tip)(hs:PSet X tset)(ha:∀ ov iv new,augStore i ov iv new=(do holding [new,ov,iv] (setItem ov iv new);release [new,ov,iv] [];pure .next):=by intros;rfl):PSi X (.AugAssign (.Subscript o i tpos) op e pos) (tAugS to ti te tget tip tset):=by with_unfolding_all exact ps_augS (ho:=ho) (hi:=hi) (hg:=hg) (he:=he) (hp:=hp) (hs:=hs) (ha:=ha)
end
section
variable {K:c5k} {J:It} {H1:Hp} {te:TE} {cs:L2.St} {Q:VK} {n:Nat}
theorem comp4{fa:Nat→Addr}{x y u v:Nat→V}(hJ:a9j J H1 n (fun i=>.ref (fa i)))(hf:∀ i,i<n→SqT K H1 (fa i) [x i,y i,u i,v i])(hn:n≤100000)(R:Nat→V→Hp→Prop)(hR:∀ i v H H',Tup H H'→R i v H→R i v H')(he:∀ i H2 (k:VK),i<n→Same H1 H2→(∀ v H3,Same H2 H3→R i v H3→k v H3)→te (some (x i)::some (y i)::some (u i)::some (v i)::cs) H2 k)(hq:∀ D ys H2,H1 D=none→Same H1 H2→H2 D=some (.lst ys)→ys.length=n→(∀ i v,ys[i]?=some v→R i v H2)→Q (.ref D) H2) :
   a4o 4 J H1 (gTup K 4 (a5s (a3u 0) (a5s (a3u 1) (a5s (a3u 2) (a5s (a3u 3) gNil))))) te cs Q:=by
 intro D hD;refine⟨fun i m ys H2=>m=n - i∧i≤n∧ys.length=i∧Same H1 H2∧H2 D=some (.lst ys)∧∀ j v,ys[j]?=some v→R j v H2,⟨n,by simp,c7c _,rfl,Same.new hD,a0d,fun j v e=>by simp at e⟩,?_⟩;rintro i m ys H2 ⟨rfl,hi,hl,s2,d2,r2⟩;by_cases hlt:i<n
 · refine .inr ⟨((hJ H2 s2 i).1 hlt).1,fun x' H' y' own ho=>?_⟩;obtain⟨rfl,rfl⟩:=((hJ H2 s2 i).1 hlt).2 x' H' y';obtain⟨o1,o2,o3,o4,rfl⟩ : ∃ o1 o2 o3 o4,own=[o1,o2,o3,o4]:=by
     match own,ho with
     | [o1,o2,o3,o4],_=>exact⟨o1,o2,o3,o4,rfl⟩
   refine⟨fa i,_,rfl,SqT.same s2 (hf i hlt),rfl,_,_,rfl,_,_,rfl,_,_,rfl,_,_,rfl,rfl,⟨[some (x i),some (y i),some (u i),some (v i)],rfl,rfl⟩,he i _ _ hlt s2 fun v H3 s3 r3=>⟨s3 _ _ d2,a0o (by omega),n - (i+1),by omega,rfl,hlt,by rw[c5n,hl];rfl,fun b o e=>?_,a0d,fun j w e=>?_⟩⟩
   · rw[a0m (a0t e hD)];exact s3 _ _ (s2 _ _ e)
   · have t3:Tup H3 (upd H3 D (.lst (ys++[v]))):=Tup.lst (s3 _ _ d2);by_cases hj:j<ys.length
     · rw[c5y hj] at e;exact hR _ _ _ _ (s3.tup.trans t3) (r2 j w e)
     · rw[c6d (by omega)] at e;have hj0:j - ys.length=0:=by
         cases q:j - ys.length with
         | zero=>rfl
         | succ k=>rw[q] at e;simp at e
       rw[hj0] at e;have e':v=w:=by simpa using e
       have hji:j=i:=by omega
       rw[← e',hji];exact hR _ _ _ _ t3 r3
 · have e:i=n:=by omega
   subst e;exact .inl ⟨(hJ H2 s2 i).2 rfl,hq D ys H2 hD s2 d2 hl r2⟩
end
noncomputable def spTTN(K:c5k):Sp:=fun vs H Q _=>∃ (a:Addr) (ws:List V) (ss:List Stp),vs=[.ref a]∧H a=some (.lst ws)∧StsV H ws ss∧(∀ s∈ss,SzW 2010 s.1)∧1≤ss.length∧ss.length≤3∧
 ∀ (l:Addr) (H':Hp),Same H H'→H l=none→H' l=some (.lst ((tnI ss).map V.int))→Q (.ref l) H'
noncomputable def a8m:Sp:=fun vs H Q _=>∃ (d:Addr) (w:Pl) (c bx bY rm:Int),vs=[.ref d,.int bx,.int bY,.int rm]∧H d=some (.tup [.int w.1,.int w.2,.int c])∧SzW 9000 w∧Sz 9000 bx∧Sz 9000 bY∧Sz 8000 rm∧0<rm∧
 ∀ (t:Addr) (v1 v2 v3:V) (H':Hp),Same H H'→H' t=some (.tup [v1,v2,v3])→ShV H' v1 ((w.1*bx:Int):Rat)→ShV H' v2 ((w.2*bY:Int):Rat)→ShV H' v3 (c5r c (2*rm))→Q (.ref t) H'
structure Over(ps:List Pt)(pl:List Pl)(X Y:Int):Prop where
 x0:0<X
 y0:0<Y
 eq:toP X Y pl=ps
noncomputable def b7t(K:c5k):Sp:=fun vs H Q _=>∃ (a:Addr) (ws:List V) (ps:List Pt) (D:Int) (n z:Nat),vs=[.ref a]∧H a=some (.lst ws)∧PtsV H ws ps∧0<D∧Sz z D∧z≤9000∧n≤9000∧(∀ p∈ps,OvP D n p)∧ps.length≤40∧
 ∀ (l:Addr) (us:List V) (pl:List Pl) (X Y:Int) (H':Hp),Same H H'→H l=none→H' l=some (.lst us)→PlsV H' us pl→SzQ n pl→Over ps pl X Y→X∣D→Y∣D→Q (.ref l) H'
noncomputable def dotQ(qs cs:List Rat):Rat:=(c8v (fun (t c:Rat)=>t*c) qs cs).sum
structure MeanQ(ps qs:List Pt)(r1 r2:List Rat):Prop where
 l1:r1.length=ps.length
 l2:r2.length=qs.length
 n1:∀ r∈r1,0≤r
 n2:∀ r∈r2,0≤r
 o1:r1.sum=1
 o2:r2.sum=1
 ex:dotQ r1 (ps.map (·.1))=dotQ r2 (qs.map (·.1))
 ey:dotQ r1 (ps.map (·.2))=dotQ r2 (qs.map (·.2))
noncomputable def c1q(K:c5k):Sp:=fun vs H Q _=>∃ (a b e:Addr) (ws us zs:List V) (ps qs:List Pt) (ss:List Stp) (D X Y:Int) (n z:Nat),vs=[.ref a,.ref b,.ref e]∧H a=some (.lst ws)∧PtsV H ws ps∧H b=some (.lst us)∧PtsV H us qs∧H e=some (.lst zs)∧StsV H zs ss∧
 0<D∧Sz z D∧z≤9000∧n≤2000∧(∀ p∈ps,OvP D n p)∧(∀ p∈qs,OvP D n p)∧1≤ps.length∧ps.length≤20∧1≤qs.length∧qs.length≤20∧0<X∧0<Y∧
 (∀ s∈ss,∃ (i j:Nat) (p q:Pt),ps[i]?=some p∧qs[j]?=some q∧s.2=((i:Int),(j:Int))∧(s.1.1:Rat)=(q.1 - p.1)*X∧(s.1.2:Rat)=(q.2 - p.2)*Y)∧a6d ss∧
 ∀ (c l1 l2:Addr) (v1 v2:List V) (r1 r2:List Rat) (H':Hp),Same H H'→H' c=some (.tup [.ref l1,.ref l2])→H l1=none→H l2=none→l1≠l2→H' l1=some (.lst v1)→H' l2=some (.lst v2)→ShL H' v1 r1→ShL H' v2 r2→(∀ r∈r1,Bd (2*n+10) r)→(∀ r∈r2,Bd (2*n+10) r)→MeanQ ps qs r1 r2→Q (.ref c) H'
noncomputable def b0j(K:c5k):Sp:=fun vs H Q _=>∃ (a b:Addr) (ws us:List V) (ps qs:List Pt) (D:Int) (n z:Nat),vs=[.ref a,.ref b]∧H a=some (.lst ws)∧PtsV H ws ps∧H b=some (.lst us)∧PtsV H us qs∧
 0<D∧Sz z D∧z≤3000∧1≤n∧n≤2000∧(∀ p∈ps,OvP D n p)∧(∀ p∈qs,OvP D n p)∧1≤ps.length∧ps.length≤20∧1≤qs.length∧qs.length≤20∧
 (∀ (c:Addr) (v1 v2 v3:V) (q1 q2 q3:Rat) (H':Hp),Same H H'→H' c=some (.tup [.str "line",v1,v2,v3])→ShV H' v1 q1→ShV H' v2 q2→ShV H' v3 q3→Bd (n+z+10) q1→Bd (n+z+10) q2→Bd (2*n+10) q3→(∀ p∈ps,q1*p.1+q2*p.2<q3)→(∀ p∈qs,q3<q1*p.1+q2*p.2)→Q (.ref c) H')∧
 (∀ (c l1 l2:Addr) (v1 v2:List V) (r1 r2:List Rat) (H':Hp),Same H H'→H' c=some (.tup [.str "common",.ref l1,.ref l2])→H l1=none→H l2=none→l1≠l2→H' l1=some (.lst v1)→H' l2=some (.lst v2)→ShL H' v1 r1→ShL H' v2 r2→(∀ r∈r1,Bd (2*n+10) r)→(∀ r∈r2,Bd (2*n+10) r)→MeanQ ps qs r1 r2→Q (.ref c) H')
theorem zip_sz{n:Nat}{t1 t2:List Int}(h1:∀ x∈t1,Sz n x)(h2:∀ x∈t2,Sz n x):SzQ n (t1.zip t2):=fun p hp=>⟨h1 _ (d1a hp).1,h2 _ (d1a hp).2⟩
theorem c0z{t1 t2 b1 b2:List Int}{ps:List Pt}(e1:axR t1 b1=ps.map (·.1))(e2:axR t2 b2=ps.map (·.2)):toP (a1g b1) (a1g b2) (t1.zip t2)=ps:=by
 have h:=wc_toP (R:=1) (by decide) e1 e2;rw[d0m,d0m] at h;have e:wcI 1 t1 t2=t1.zip t2:=by
   unfold wcI;rw[List.zip];congr 1;funext x y;rw[d0m,d0m]
 rw[e] at h;exact h
theorem c2f{H:Hp}{us:List V}{t1 t2:List Int}(hl:us.length=min (t1.map V.int).length (t2.map V.int).length)(h:b6d H us (t1.map V.int) (t2.map V.int)):PlsV H us (t1.zip t2):=by
 rw[c5l,c5l] at hl;refine⟨by rw[hl,List.length_zip],fun i v p e1 e2=>?_⟩;obtain⟨T,rfl,hT⟩:=h i v e1;have hi:i<us.length:=(c5m.mp e1).1;rw[List.getElem?_zip_eq_some] at e2;rw[c5t,c5t,e2.1,e2.2] at hT;exact⟨T,rfl,hT⟩
theorem len3{α:Type}{l:List α}(h:l.length=3):∃ x y z,l=[x,y,z]:=by
 match l,h with
 | [x,y,z],_=>exact⟨x,y,z,rfl⟩
structure SelT(ps qs:List Pt)(X Y:Int)(s:Stp)(t:(Nat×Nat)×Pt×Pt):Prop where
 i:ps[t.1.1]?=some t.2.1
 j:qs[t.1.2]?=some t.2.2
 ij:s.2=((t.1.1:Int),(t.1.2:Int))
 x:(s.1.1:Rat)=(t.2.2.1 - t.2.1.1)*X
 y:(s.1.2:Rat)=(t.2.2.2 - t.2.1.2)*Y
theorem b8f{ps qs:List Pt}{X Y:Int}:∀ {ss:List Stp},(∀ s∈ss,∃ (i j:Nat) (p q:Pt),ps[i]?=some p∧qs[j]?=some q∧s.2=((i:Int),(j:Int))∧(s.1.1:Rat)=(q.1 - p.1)*X∧(s.1.2:Rat)=(q.2 - p.2)*Y)→
   ∃ ts:List ((Nat×Nat)×Pt×Pt),ts.length=ss.length∧∀ (k:Nat) s t,ss[k]?=some s→ts[k]?=some t→SelT ps qs X Y s t
 | [],_=>⟨[],rfl,fun k s t e=>by simp at e⟩
 | s::ss,h=>by
   obtain⟨i,j,p,q,h1,h2,h3,h4,h5⟩:=h s c9k;obtain⟨ts,hl,ht⟩:=b8f (ss:=ss) fun s' hs=>h s' (c6w _ hs);refine⟨((i,j),p,q)::ts,by rw[c6y,c6y,hl],fun k s' t e1 e2=>?_⟩;cases k with
   | zero=>cases e1;cases e2;exact⟨h1,h2,h3,h4,h5⟩
   | succ k=>exact ht k s' t (by simpa using e1) (by simpa using e2)
noncomputable def a6w(fl gl:List Pl)(m:Nat):List Stp:=(c7s m).map fun (k:Nat)=>((((gl[k]?).getD (0,0)).1 - ((fl[k]?).getD (0,0)).1,((gl[k]?).getD (0,0)).2 - ((fl[k]?).getD (0,0)).2),((k:Int),(k:Int)))
theorem a8d(fl gl:List Pl)(m:Nat):(a6w fl gl m).length=m:=by unfold a6w;simp
theorem b3r{fl gl:List Pl}{m k:Nat}{f g:Pl}(hk:k<m)(hf:fl[k]?=some f)(hg:gl[k]?=some g):(a6w fl gl m)[k]?=some ((g.1 - f.1,g.2 - f.2),((k:Int),(k:Int))):=by
 unfold a6w;rw[c5t,d0x hk];simp[hf,hg]
theorem toP_at{X Y:Int}{pl:List Pl}{k:Nat}{p:Pt}(h:(toP X Y pl)[k]?=some p):∃ q,pl[k]?=some q∧p=(c5r q.1 X,c5r q.2 Y):=by
 unfold toP at h;rw[c5t] at h;obtain⟨q,h1,h2⟩:=c8e.mp h;exact⟨q,h1,h2.symm⟩
theorem a2t{x:Int}{X:Int}(h:0<X):c5r x X*(X:Rat)=(x:Rat):=by
 have hn:(X:Rat)≠0:=a9c h;rw[c9e];grind
theorem new_meas{ps qs:List Pt}{X Y X' Y':Int}(hX:0<X)(hY:0<Y)(hX':0<X')(hY':0<Y'){s:Stp}{t:(Nat×Nat)×Pt×Pt}(h:SelT ps qs X Y s t){f g:Pl}{k:Nat}(hf:t.2.1=(c5r f.1 X',c5r f.2 Y'))(hg:t.2.2=(c5r g.1 X',c5r g.2 Y')) :
   Meas X X' Y Y' s ((g.1 - f.1,g.2 - f.2),((k:Int),(k:Int))):=by
 have hx:=h.x;have hy:=h.y;rw[hf,hg] at hx hy;have a1:=a2t (x:=f.1) hX';have a2:=a2t (x:=g.1) hX';have b1:=a2t (x:=f.2) hY';have b2:=a2t (x:=g.2) hY';constructor
 · have e:(((g.1 - f.1)*X:Int):Rat)=((s.1.1*X':Int):Rat):=by
     rw[c6b,c6b,d0i,← a1,← a2,hx];grind
   exact_mod_cast e
 · have e:(((g.2 - f.2)*Y:Int):Rat)=((s.1.2*Y':Int):Rat):=by
     rw[c6b,c6b,d0i,← b1,← b2,hy];grind
   exact_mod_cast e
theorem b5c{K:c5k}{a:Addr}{zs:List V}{ss:List Stp}{H:Hp}(h:SqL K H a zs)(hZ:StsV H zs ss):∃ fa:Nat→Addr,a9j (Itl K a) H ss.length (fun i=>.ref (fa i))∧
   ∀ i,i<ss.length→SqT K H (fa i) [.int ((ss[i]?).getD ((0,0),(0,0))).1.1,.int ((ss[i]?).getD ((0,0),(0,0))).1.2,.int ((ss[i]?).getD ((0,0),(0,0))).2.1,.int ((ss[i]?).getD ((0,0),(0,0))).2.2]:=by
 have hz:=hZ.len;have ex:∀ i:Nat,∃ a:Addr,∀ s,ss[i]?=some s→zs[i]?=some (.ref a)∧H a=some (.tup [.int s.1.1,.int s.1.2,.int s.2.1,.int s.2.2]):=fun i=>by
   cases e:ss[i]? with
   | none=>exact⟨0,fun s z=>by cases z⟩
   | some s=>
     obtain⟨a,h1,h2⟩:=hZ.at e;exact⟨a,fun s' z=>by cases z;exact⟨h1,h2⟩⟩
 obtain⟨fa,hfa⟩:=Classical.axiomOfChoice ex;refine⟨fa,fun H2 s i=>?_,fun i hi=>?_⟩
 · have q:=a3c h H2 s i;rw[hz] at q;refine⟨fun hi=>⟨(q.1 hi).1,fun x H' y=>?_⟩,q.2⟩;obtain⟨h1,h2⟩:=(q.1 hi).2 x H' y;refine⟨h1,?_⟩;rw[h2];show (zs[i]?).getD V.non=_;rw[(hfa i _ (c5j hi)).1];rfl
 · rw[c5j hi];exact SqT.of (hfa i _ (c5j hi)).2
theorem b2q{H:Hp}{ys:List V}{α:Type}{ts:List α}{f:α→Pt}(hl:ys.length=ts.length)(h:∀ (i:Nat) v,ys[i]?=some v→∀ t,ts[i]?=some t→PtV H v (f t).1 (f t).2):PtsV H ys (ts.map f):=by
 refine⟨by rw[c5l];exact hl,fun i v p e1 e2=>?_⟩;rw[c5t] at e2;obtain⟨t,h1,rfl⟩:=c8e.mp e2;exact h i v e1 t h1
theorem tn_sz{n:Nat}{ss:List Stp}(h:∀ s∈ss,SzW n s.1):∀ t∈tnI ss,Sz (2*n+1) t:=by
 intro t ht;match ss,ht,h with
 | [r],ht,h=>simp only[tnI,c6g] at ht;subst ht;exact Sz.one.mono (by omega)
 | [r,f],ht,h=>
   have a:=h r (by simp);have b:=h f (by simp);simp only[tnI,c6f,c6r,or_false] at ht;rcases ht with rfl | rfl
   · exact (Sz.sub (Sz.mul a.1.neg b.1) (Sz.mul a.2 b.2)).mono (by omega)
   · exact (Sz.add (Sz.mul a.1 a.1) (Sz.mul a.2 a.2)).mono (by omega)
 | [r,l,f],ht,h=>
   have a:=h r (by simp);have b:=h l (by simp);have c:=h f (by simp);simp only[tnI,c6f,c6r,or_false] at ht;rcases ht with rfl | rfl | rfl
   · exact (Sz.sub (Sz.mul b.1 c.2) (Sz.mul b.2 c.1)).mono (by omega)
   · exact (Sz.sub (Sz.mul c.1 a.2) (Sz.mul c.2 a.1)).mono (by omega)
   · exact (Sz.sub (Sz.mul a.1 b.2) (Sz.mul a.2 b.1)).mono (by omega)
 | [],ht,h=>simp[tnI] at ht
 | _::_::_::_::_,ht,h=>simp[tnI] at ht
theorem sum3_sz{n:Nat}{ts:List Int}(h:∀ t∈ts,Sz n t)(hl:ts.length≤3):Sz (n+3) ts.sum:=by
 match ts,h,hl with
 | [],h,_=>exact Sz.zero.mono (by omega)
 | [a],h,_=>simp only[c7u,d0s];exact (Sz.add (h a (by simp)) Sz.zero).mono (by omega)
 | [a,b],h,_=>simp only[c7u,d0s];exact (Sz.add (h a (by simp)) (Sz.add (h b (by simp)) Sz.zero)).mono (by omega)
 | [a,b,c],h,_=>simp only[c7u,d0s];exact (Sz.add (h a (by simp)) (Sz.add (h b (by simp)) (Sz.add (h c (by simp)) Sz.zero))).mono (by omega)
theorem c2z{ps qs:List Pt}{X Y X' Y':Int}{ss:List Stp}{ts:List ((Nat×Nat)×Pt×Pt)}{plc:List Pl}(hl:ts.length=ss.length)(hts:∀ (k:Nat) s t,ss[k]?=some s→ts[k]?=some t→SelT ps qs X Y s t)(hO:Over (ts.map (·.2.1)++ts.map (·.2.2)) plc X' Y'){k:Nat}{t:(Nat×Nat)×Pt×Pt}(e:ts[k]?=some t) :
   ∃ f g,(plc.take ss.length)[k]?=some f∧(plc.drop ss.length)[k]?=some g∧t.2.1=(c5r f.1 X',c5r f.2 Y')∧t.2.2=(c5r g.1 X',c5r g.2 Y'):=by
 have hk:k<ts.length:=(c5m.mp e).1;have e1:(toP X' Y' plc)[k]?=some t.2.1:=by
   rw[hO.eq,c5y (by rw[c5l];exact hk),c5t,e];rfl
 have e2:(toP X' Y' plc)[ss.length+k]?=some t.2.2:=by
   rw[hO.eq,c6d (by rw[c5l];omega),c5l,c5t,show ss.length+k - ts.length=k by omega,e];rfl
 obtain⟨f,f1,f2⟩:=toP_at e1;obtain⟨g,g1,g2⟩:=toP_at e2;exact⟨f,g,by rw[List.getElem?_take_of_lt (by omega)];exact f1,by rw[c8d];exact g1,f2,g2⟩
theorem b5h{ps qs:List Pt}{X Y X' Y':Int}{ss:List Stp}{ts:List ((Nat×Nat)×Pt×Pt)}{plc:List Pl}(hX:0<X)(hY:0<Y)(hl:ts.length=ss.length)(hts:∀ (k:Nat) s t,ss[k]?=some s→ts[k]?=some t→SelT ps qs X Y s t)(hO:Over (ts.map (·.2.1)++ts.map (·.2.2)) plc X' Y')(h:a6d ss) :
   a6d (a6w (plc.take ss.length) (plc.drop ss.length) ss.length):=by
 refine h.meas hX hO.x0 hY hO.y0 (a8d _ _ _) fun k s s' e1 e2=>?_;have hk:k<ss.length:=(c5m.mp e1).1;have et:ts[k]?=some (ts[k]'(by omega (config:={}))):=c5j _;obtain⟨f,g,f1,g1,f2,g2⟩:=c2z hl hts hO et;rw[b3r hk f1 g1] at e2;cases e2;exact new_meas hX hY hO.x0 hO.y0 (hts k s _ e1 et) f2 g2
theorem new_sz{n m:Nat}{plc:List Pl}(z:SzQ n plc):∀ s∈a6w (plc.take m) (plc.drop m) m,SzW (n+1) s.1:=by
 intro s hs;have hz:∀ (l:List Pl) (k:Nat),(∀ p∈l,p∈plc)→Sz n ((l[k]?).getD (0,0)).1∧Sz n ((l[k]?).getD (0,0)).2:=fun l k h=>by
   cases e:l[k]? with
   | none=>exact⟨Sz.zero.mono (c7c _),Sz.zero.mono (c7c _)⟩
   | some p=>exact z p (h p (c5p e))
 unfold a6w at hs;obtain⟨k,_,rfl⟩:=c6h.mp hs;have a:=hz (plc.take m) k fun p hp=>c7p hp;have b:=hz (plc.drop m) k fun p hp=>c7l hp;exact⟨(Sz.sub b.1 a.1).mono (by omega),(Sz.sub b.2 a.2).mono (by omega)⟩
theorem b4i{cs ds:List Rat}{Xr:Rat}{f:Stp→Int}:∀ (tn:List Int) (ts:List ((Nat×Nat)×Pt×Pt)) (ss:List Stp),ts.length=ss.length→(∀ (k:Nat) t s,ts[k]?=some t→ss[k]?=some s→(ds.getD t.1.2 0 - cs.getD t.1.1 0)*Xr=(f s:Rat))→
   (accS ds tn (ts.map (·.1.2)) - accS cs tn (ts.map (·.1.1)))*Xr=(((c8v (fun (t:Int) s=>t*f s) tn ss).sum:Int):Rat)
 | [],ts,ss,_,_=>by simp[accS];grind
 | t::tn,[],[],_,_=>by simp[accS];grind
 | t::tn,[],_::_,h,_=>by simp at h
 | t::tn,_::_,[],h,_=>by simp at h
 | t::tn,a::ts,s::ss,hl,h=>by
   have ih:=b4i tn ts ss (by simpa using hl) fun k t s e1 e2=>h (k+1) t s (by simpa using e1) (by simpa using e2);have h0:=h 0 a s rfl rfl;simp only[c8m,accS,c8s,c7u,c8i,c6b];rw[← ih,← h0];grind
theorem b7j{cs:List Rat}:∀ (tn:List Int) (js:List Nat),tn.length=js.length→(∀ j∈js,cs.getD j 0=1)→accS cs tn js=((tn.sum:Int):Rat)
 | [],[],_,_=>by simp[accS]
 | [],_::_,h,_=>by simp at h
 | _::_,[],h,_=>by simp at h
 | t::tn,j::js,hl,h=>by
   have ih:=b7j (cs:=cs) tn js (by simpa using hl) fun j hj=>h j (c6w _ hj);have h0:=h j c9k;simp only[accS,c7u,c8i];rw[ih,h0];grind
theorem a8e{W:Int}(hW:0<W):∀ (ms:List Int) (cs:List Rat),dotQ (ms.map fun m=>c5r m W) cs*(W:Rat)=dotR ms cs
 | [],cs=>by unfold dotQ dotR;simp
 | _::_,[]=>by unfold dotQ dotR;simp
 | m::ms,c::cs=>by
   have ih:=a8e hW ms cs;have e:=a2t (x:=m) hW;unfold dotQ dotR at ih ⊢;simp only[c8m,c8s,c7u];rw[← ih,← e];grind
theorem b6l{W:Int}(hW:0<W):∀ (ms:List Int),(ms.map fun m=>c5r m W).sum*(W:Rat)=dotR ms (c5q ms.length 1)
 | []=>by unfold dotR;simp
 | m::ms=>by
   have ih:=b6l hW ms;have e:=a2t (x:=m) hW;rw[c6y,c7j,a5t,← ih,← e];simp only[c8m,c7u];grind
theorem a4f{a b W:Rat}(hW:W≠0)(h:a*W=b*W):a=b:=by
 have:(a - b)*W=0:=by grind
 rcases Rat.mul_eq_zero.mp this with z | z
 · grind
 · exact absurd z hW
theorem a6b{α:Type}{l:List α}{f:α→Rat}{i:Nat}{a:α}(h:l[i]?=some a):(l.map f).getD i 0=f a:=by
 rw[c6j,c5t,h];rfl
theorem mean_fin{ps qs:List Pt}{X Y X' Y':Int}{ss:List Stp}{ts:List ((Nat×Nat)×Pt×Pt)}{plc:List Pl}{ms1 ms2:List Int}(hX:0<X)(hY:0<Y)(hl:ts.length=ss.length)(hts:∀ (k:Nat) s t,ss[k]?=some s→ts[k]?=some t→SelT ps qs X Y s t)(hO:Over (ts.map (·.2.1)++ts.map (·.2.2)) plc X' Y')(h:a6d ss)(l1:ms1.length=ps.length)(l2:ms2.length=qs.length)(n1:∀ m∈ms1,0≤m)(n2:∀ m∈ms2,0≤m)(A1:∀ cs:List Rat,cs.length=ps.length→dotR ms1 cs=accS cs (tnI (a6w (plc.take ss.length) (plc.drop ss.length) ss.length)) (ts.map (·.1.1)))(A2:∀ cs:List Rat,cs.length=qs.length→dotR ms2 cs=accS cs (tnI (a6w (plc.take ss.length) (plc.drop ss.length) ss.length)) (ts.map (·.1.2))) :
   MeanQ ps qs (ms1.map fun m=>c5r m (tnI (a6w (plc.take ss.length) (plc.drop ss.length) ss.length)).sum) (ms2.map fun m=>c5r m (tnI (a6w (plc.take ss.length) (plc.drop ss.length) ss.length)).sum):=by
 have hN:=b5h hX hY hl hts hO h;have hW:=tn_pos hN;have hZ:=tn_zero hN;have hTl:=tn_len hN;rw[a8d] at hTl;have hNl:(a6w (plc.take ss.length) (plc.drop ss.length) ss.length).length=ss.length:=a8d _ _ _;have hAt:∀ (k:Nat) t s,ts[k]?=some t→(a6w (plc.take ss.length) (plc.drop ss.length) ss.length)[k]?=some s→(t.2.2.1 - t.2.1.1)*(X':Rat)=(s.1.1:Rat)∧(t.2.2.2 - t.2.1.2)*(Y':Rat)=(s.1.2:Rat):=fun k t s e1 e2=>by
   have hk:k<ts.length:=(c5m.mp e1).1;obtain⟨f,g,f1,g1,f2,g2⟩:=c2z hl hts hO e1;rw[b3r (by omega) f1 g1] at e2;cases e2;rw[f2,g2];have a1:=a2t (x:=f.1) hO.x0;have a2:=a2t (x:=g.1) hO.x0;have b1:=a2t (x:=f.2) hO.y0;have b2:=a2t (x:=g.2) hO.y0;constructor
   · show _=((g.1 - f.1:Int):Rat)
     rw[d0i,← a1,← a2];grind
   · show _=((g.2 - f.2:Int):Rat)
     rw[d0i,← b1,← b2];grind
 have hSel:∀ (k:Nat) t,ts[k]?=some t→ps[t.1.1]?=some t.2.1∧qs[t.1.2]?=some t.2.2:=fun k t e=>by
   have hk:k<ts.length:=(c5m.mp e).1;have:=hts k _ t (c5j (show k<ss.length by omega)) e;exact⟨this.i,this.j⟩
 generalize a6w (plc.take ss.length) (plc.drop ss.length) ss.length=S at *;have nX:(X':Rat)≠0:=a9c hO.x0;have nY:(Y':Rat)≠0:=a9c hO.y0;have nW:((tnI S).sum:Rat)≠0:=a9c hW;have exq:accS (qs.map (·.1)) (tnI S) (ts.map (·.1.2))=accS (ps.map (·.1)) (tnI S) (ts.map (·.1.1)):=by
   have d:=b4i (cs:=ps.map (·.1)) (ds:=qs.map (·.1)) (Xr:=X') (f:=fun s=>s.1.1) (tnI S) ts S (by omega) fun k t s e1 e2=>by
     rw[a6b (hSel k t e1).1,a6b (hSel k t e1).2];exact (hAt k t s e1 e2).1
   rw[hZ.1] at d;have:(accS (qs.map (·.1)) (tnI S) (ts.map (·.1.2)) - accS (ps.map (·.1)) (tnI S) (ts.map (·.1.1)))*(X':Rat)=0*(X':Rat):=by rw[d];grind
   have:=a4f nX this;grind
 have eyq:accS (qs.map (·.2)) (tnI S) (ts.map (·.1.2))=accS (ps.map (·.2)) (tnI S) (ts.map (·.1.1)):=by
   have d:=b4i (cs:=ps.map (·.2)) (ds:=qs.map (·.2)) (Xr:=Y') (f:=fun s=>s.1.2) (tnI S) ts S (by omega) fun k t s e1 e2=>by
     rw[a6b (hSel k t e1).1,a6b (hSel k t e1).2];exact (hAt k t s e1 e2).2
   rw[hZ.2] at d;have:(accS (qs.map (·.2)) (tnI S) (ts.map (·.1.2)) - accS (ps.map (·.2)) (tnI S) (ts.map (·.1.1)))*(Y':Rat)=0*(Y':Rat):=by rw[d];grind
   have:=a4f nY this;grind
 have nn:∀ ms:List Int,(∀ m∈ms,0≤m)→∀ r∈ms.map (fun m=>c5r m (tnI S).sum),0≤r:=fun ms hm r hr=>by
   obtain⟨m,h1,rfl⟩:=c6h.mp hr;have:=div_le hW (hm m h1);rw[Rat.zero_divInt] at this;exact this
 refine⟨by rw[c5l,l1],by rw[c5l,l2],nn _ n1,nn _ n2,a4f nW ?_,a4f nW ?_,a4f nW ?_,a4f nW ?_⟩
 · rw[b6l hW,l1,A1 _ (by simp),b7j _ _ (by rw[c5l];omega) fun j hj=>?_]
   · grind
   · obtain⟨t,ht,rfl⟩:=c6h.mp hj;obtain⟨k,ek⟩:=d0l.mp ht;have:=(c5m.mp (hSel k t ek).1).1;simp[c6j,this]
 · rw[b6l hW,l2,A2 _ (by simp),b7j _ _ (by rw[c5l];omega) fun j hj=>?_]
   · grind
   · obtain⟨t,ht,rfl⟩:=c6h.mp hj;obtain⟨k,ek⟩:=d0l.mp ht;have:=(c5m.mp (hSel k t ek).2).1;simp[c6j,this]
 · rw[a8e hW,a8e hW,A1 _ (by simp),A2 _ (by simp),exq]
 · rw[a8e hW,a8e hW,A1 _ (by simp),A2 _ (by simp),eyq]
theorem b2i(n:Nat):(c5q ((n:Int)).toNat [V.int 0]).flatten=(c5q n (0:Int)).map V.int:=by rw[flat_rep,c9q,List.map_replicate]
theorem b7l{ts:List Int}(n:Nat):∀ m∈c5q n (0:Int),0≤m∧m≤(ts.take 0).sum:=fun m hm=>by
 rw[List.eq_of_mem_replicate hm];simp
theorem c3x{ms:List Int}{i:Nat}{m:Int}(h:ms[i]?=some m):(ms.map V.int)[i]?=some (.int m):=by rw[c5t,h];rfl
theorem sum_take{ts:List Int}{i:Nat}{t:Int}(h:ts[i]?=some t):(ts.take (i+1)).sum=(ts.take i).sum+t:=by
 rw[List.take_add_one,h];simp
theorem set_ok{ms ts:List Int}{i j:Nat}{a t:Int}(h1:ms[j]?=some a)(h2:ts[i]?=some t)(t0:0≤t)(h:∀ m∈ms,0≤m∧m≤(ts.take i).sum):∀ m∈ms.set j (a+t),0≤m∧m≤(ts.take (i+1)).sum:=fun m hm=>by
 rw[sum_take h2];rcases List.mem_or_eq_of_mem_set hm with z | z
 · have:=h m z;omega
 · have:=h a (c5p h1);omega
theorem b8d{H:Hp}{ys:List V}{ms:List Int}{f:Int→Rat}(hl:ys.length=ms.length)(h:∀ (i:Nat) v,ys[i]?=some v→∀ m,ms[i]?=some m→ShV H v (f m)):ShL H ys (ms.map f):=by
 refine⟨by rw[c5l];exact hl,fun i v q e1 e2=>?_⟩;rw[c5t] at e2;obtain⟨m,h1,rfl⟩:=c8e.mp e2;exact h i v e1 m h1
theorem toP_take(X Y:Int)(c:List Pl)(n:Nat):toP X Y (c.take n)=(toP X Y c).take n:=by unfold toP;rw[List.map_take]
theorem toP_drop(X Y:Int)(c:List Pl)(n:Nat):toP X Y (c.drop n)=(toP X Y c).drop n:=by unfold toP;rw[List.map_drop]
theorem Over.fst{ps qs:List Pt}{c:List Pl}{X Y:Int}(h:Over (ps++qs) c X Y):Over ps (c.take ps.length) X Y:=⟨h.x0,h.y0,by rw[toP_take,h.eq,List.take_left'];rfl⟩
theorem Over.snd{ps qs:List Pt}{c:List Pl}{X Y:Int}(h:Over (ps++qs) c X Y):Over qs (c.drop ps.length) X Y:=⟨h.x0,h.y0,by rw[toP_drop,h.eq,List.drop_left'];rfl⟩
theorem Over.len{ps:List Pt}{c:List Pl}{X Y:Int}(h:Over ps c X Y):c.length=ps.length:=by rw[← h.eq,a3r]
theorem Over.at{ps:List Pt}{c:List Pl}{X Y:Int}(h:Over ps c X Y){i:Nat}{p:Pl}(e:c[i]?=some p):ps[i]?=some (c5r p.1 X,c5r p.2 Y):=by
 rw[← h.eq];unfold toP;rw[c5t,e];rfl
theorem Over.line{ps:List Pt}{c:List Pl}{X Y:Int}(h:Over ps c X Y)(w:Pl){p:Pt}(hp:p∈ps):∃ P∈c,((w.1*X:Int):Rat)*p.1+((w.2*Y:Int):Rat)*p.2=((dt w P:Int):Rat):=by
 rw[← h.eq] at hp;unfold toP at hp;obtain⟨P,hP,rfl⟩:=c6h.mp hp;refine⟨P,hP,?_⟩;have a:=a2t (x:=P.1) h.x0;have b:=a2t (x:=P.2) h.y0;unfold dt;rw[c8i,c6b,c6b,c6b,c6b];show (w.1:Rat)*X*c5r P.1 X+(w.2:Rat)*Y*c5r P.2 Y=_;rw[← a,← b];grind
theorem half_lo{m l d:Int}(h:m<l)(hd:d≤m):((d:Int):Rat)<c5r (m+l) (2*1):=by
 have e:=a2t (x:=m+l) (X:=2*1) (by decide);have h2:(2*d:Int)<m+l:=by omega
 have h3:((2*d:Int):Rat)<((m+l:Int):Rat):=by exact_mod_cast h2
 rw[← e,c6b] at h3;have e2:((2*1:Int):Rat)=2:=by decide
 have e3:((2:Int):Rat)=2:=by decide
 rw[e2,e3] at h3;grind
theorem half_hi{m l d:Int}(h:m<l)(hd:l≤d):c5r (m+l) (2*1)<((d:Int):Rat):=by
 have e:=a2t (x:=m+l) (X:=2*1) (by decide);have h2:m+l<(2*d:Int):=by omega
 have h3:((m+l:Int):Rat)<((2*d:Int):Rat):=by exact_mod_cast h2
 rw[← e,c6b 2 d] at h3;have e2:((2*1:Int):Rat)=2:=by decide
 have e3:((2:Int):Rat)=2:=by decide
 rw[e2,e3] at h3;grind
theorem a7a{X D:Int}{z:Nat}(h0:0<X)(hD:0<D)(h:X∣D)(zD:Sz z D):Sz z X:=zD.le (by have:=Int.le_of_dvd hD h;omega)
theorem dt_sz{n m:Nat}{w p:Pl}(hw:SzW n w)(h1:Sz m p.1)(h2:Sz m p.2):Sz (n+m+1) (dt w p):=(Sz.add (Sz.mul hw.1 h1) (Sz.mul hw.2 h2)).mono (by omega)
theorem b9k{n:Nat}{x:Int}(h:Sz n x)(hn:1≤n):Bd n (x:Rat):=⟨by rw[Rat.num_intCast];exact h,by rw[Rat.den_intCast];exact Sz.one.mono hn⟩
noncomputable def b9h(ts:List Rat):d0o:=.list (ts.map b7f)
theorem b5s(ts:List Rat)(n:Nat):c7m (n+2) (b9h ts)=true:=by
 have h:∀ p:Rat,c7m (n+1) (b7f p)=true:=fun p=>b3y p n;simp[b9h,c7m,h]
theorem ShL.dnAll{K:c5k}{H:Hp}:∀ {vs:List V} {ts:List Rat},ShL H vs ts→a9s K H (ts.map b7f) vs
 | [],[],_=>by simp[a9s]
 | [],_::_,h=>by have:=h.len;simp at this
 | _::_,[],h=>by have:=h.len;simp at this
 | v::vs,q::ts,h=>by
   have h1:=ShV.dn (K:=K) (h.get 0 v q rfl rfl);have h2:ShL H vs ts:=⟨by have:=h.len;simpa using this,fun i x y e1 e2=>h.get (i+1) x y e1 e2⟩
   have h3:=ShL.dnAll (K:=K) h2;simp only[c8m,a9s];exact⟨_,_,rfl,h1,h3⟩
theorem ShL.dn{K:c5k}{H:Hp}{a:Addr}{vs:List V}{ts:List Rat}(h:ShL H vs ts)(ha:SqL K H a vs):Dn K H (b9h ts) (.ref a):=by
 unfold b9h;simp only[Dn];exact⟨a,vs,rfl,ha,h.dnAll⟩
end Cv
namespace L2
open PySem PySem.Spec PyProof.Rows
section
variable {X:Cx} {pos:Pos}
noncomputable def tPar3(i j k:Nat)(ta:TA):TS:=fun D σ H=>ta σ H fun vs H1=>∃ v w z,vs=[v,w,z]∧D.nx (((σ.set i (some v)).set j (some w)).set k (some z)) H1
theorem ps_par3{i j k:Nat}{x y z:Str}{a b c:Expr}{ta:TA}{px py pz pt:Pos}{kt k2 pt2}(hc:X.calm=true)(hN:X.N.Nodup)(hi:X.N[i]?=some x)(hj:X.N[j]?=some y)(hk:X.N[k]?=some z)(hij:i≠j)(hik:i≠k)(hjk:j≠k)(hx:X.env.scope.names.lookup x=some .local)(hy:X.env.scope.names.lookup y=some .local)(hz:X.env.scope.names.lookup z=some .local)(ha:PA X [a,b,c] ta)(hw:swappedStores [.Tuple [.Name x px,.Name y py,.Name z pz] kt pt] (.Tuple [a,b,c] k2 pt2) X.env=pure (some [x,y,z]))(hs:swapsWithSole [.Tuple [.Name x px,.Name y py,.Name z pz] kt pt] (.Tuple [a,b,c] k2 pt2) pos.line X.env=pure false:=by rfl) :
   PS X (.Assign [.Tuple [.Name x px,.Name y py,.Name z pz] kt pt] (.Tuple [a,b,c] k2 pt2) pos) (tPar3 i j k ta):=by
 intro pins s σ H D I h;rw[exec_Assign_arm];refine wpAny_bind (wpAny_standAt ?_);rw[hs];refine wpAny_bind (wpAny_pure ?_);rw[if_neg (by decide)];refine wpAny_bind (Tuple_ (thn (ha _ pins s σ H _ I h) fun us s1 ⟨vs,H1,I1,r1,q1⟩=>?_));obtain⟨v,w,q,e1,q1⟩:=q1;subst e1;obtain⟨u1,u2,u3,rfl,rv,rw',rq⟩ : ∃ u1 u2 u3,us=[u1,u2,u3]∧RelV v u1∧RelV w u2∧RelV q u3:=by
   cases r1 with
   | cons p q=>
     cases q with
     | cons p' q'=>
       cases q' with
       | cons p'' q''=>
         cases q'';exact⟨_,_,_,rfl,p,p',p''⟩
 refine wpAny_newObj_type ?_ (by show 3≤sizeLine;decide);have I2:Inv X pins σ H1 { s1 with heap:=s1.heap.push { cls:=.type "tuple",data:=.seq [u1,u2,u3].toArray } }:=I1.kept (t':=s1.toks) fun b o e=>Heap.get?_push_of_some _ e;rw[hw];refine wpAny_bind (wpAny_pure ?_);show wpAny (model X.prog X.w) X.A (do rule "assign.swapped-stores";let items ← unpackItems (.ref s1.heap.objs.size) 3 none;assignInOrder [fun v=>bindName X.env z v,fun v=>bindName X.env y v,fun v=>bindName X.env x v] items.reverse;pure Flow.next) _ _ _;refine wpAny_bind (wpAny_rule (wpAny_bind (unpackItems_tuple (items:=#[u1,u2,u3]) (I.ok.hd hc) (IsTup.new s1.heap _) fun h' hx'=>?_)));have I3:=I2.kept (h':=h') (t':=s1.toks) fun b o e=>hx' b o (c6l (Heap.lt_size e)) e;show wpAny _ _ (assignInOrder [fun v=>bindName X.env z v,fun v=>bindName X.env y v,fun v=>bindName X.env x v] [u3,u2,u1] >>= fun _=>pure Flow.next) _ _ _;refine wpAny_bind (assignInOrder_cons (wpAny_bindName (a5c I3 hN hk (.inl hz) rq (fun s2 I4=>?_) (.inr hz))));refine assignInOrder_cons (wpAny_bindName (a5c I4 hN hj (.inl hy) rw' (fun s3 I5=>?_) (.inr hy)));refine assignInOrder_cons (wpAny_bindName (a5c I5 hN hi (.inl hx) rv (fun s4 I6=>assignInOrder_nil (wpAny_pure ?_)) (.inr hx)));rw[List.set_comm _ _ (Ne.symm hij),List.set_comm _ _ (Ne.symm hik),List.set_comm _ _ (Ne.symm hjk)] at I6;exact⟨_,H1,I6,q1⟩
end
end L2
namespace Cv
open PySem PySem.Spec PyProof.Rows L2
theorem ps_par3I{X:Cx}{pos:Pos}{i j k:Nat}{x y z:Str}{a b c:Expr}{ta:TA}{px py pz pt:Pos}{kt k2 pt2}(hc:X.calm=true)(hN:X.N.Nodup)(hi:X.N[i]?=some x)(hj:X.N[j]?=some y)(hk:X.N[k]?=some z)(hij:i≠j)(hik:i≠k)(hjk:j≠k)(hx:X.env.scope.names.lookup x=some .local)(hy:X.env.scope.names.lookup y=some .local)(hz:X.env.scope.names.lookup z=some .local)(ha:PAi X [a,b,c] ta)(hw:swappedStores [.Tuple [.Name x px,.Name y py,.Name z pz] kt pt] (.Tuple [a,b,c] k2 pt2) X.env=pure (some [x,y,z]))(hs:swapsWithSole [.Tuple [.Name x px,.Name y py,.Name z pz] kt pt] (.Tuple [a,b,c] k2 pt2) pos.line X.env=pure false:=by rfl) :
 PSi X (.Assign [.Tuple [.Name x px,.Name y py,.Name z pz] kt pt] (.Tuple [a,b,c] k2 pt2) pos) (tPar3 i j k ta):=by with_unfolding_all exact ps_par3 (hc:=hc) (hN:=hN) (hi:=hi) (hj:=hj) (hk:=hk) (hij:=hij) (hik:=hik) (hjk:=hjk) (hx:=hx) (hy:=hy) (hz:=hz) (ha:=ha) (hw:=hw) (hs:=hs)
structure b7k(ps qs:List Pt)(q1 q2 q3:Rat):Prop where
 lo:∀ p∈ps,q1*p.1+q2*p.2<q3
 hi:∀ p∈qs,q3<q1*p.1+q2*p.2
structure c5h(H:Hp)(c:Addr)(ps qs:List Pt)(s:Nat):Prop where
 ex:∃ (v1 v2 v3:V) (q1 q2 q3:Rat),H c=some (.tup [.str "line",v1,v2,v3])∧ShV H v1 q1∧ShV H v2 q2∧ShV H v3 q3∧Bd s q1∧Bd s q2∧Bd s q3∧b7k ps qs q1 q2 q3
structure ComV(H:Hp)(c l1 l2:Addr)(ps qs:List Pt)(s:Nat):Prop where
 ex:∃ (v1 v2:List V) (r1 r2:List Rat),H c=some (.tup [.str "common",.ref l1,.ref l2])∧H l1=some (.lst v1)∧H l2=some (.lst v2)∧ShL H v1 r1∧ShL H v2 r2∧(∀ r∈r1,Bd s r)∧(∀ r∈r2,Bd s r)∧MeanQ ps qs r1 r2
theorem b8t{a b c x y:Rat}(h:a*x+b*y<c):(a.num*x.num*(b.den:Int)*(y.den:Int)+b.num*y.num*(a.den:Int)*(x.den:Int))*(c.den:Int)<c.num*((a.den:Int)*(x.den:Int)*(b.den:Int)*(y.den:Int)):=by
 have na:=a3q a;have nb:=a3q b;have nc:=a3q c;have nx:=a3q x;have ny:=a3q y;have da:(0:Rat)<((a.den:Int):Rat):=by exact_mod_cast a.den_pos
 have db:(0:Rat)<((b.den:Int):Rat):=by exact_mod_cast b.den_pos
 have dc:(0:Rat)<((c.den:Int):Rat):=by exact_mod_cast c.den_pos
 have dx:(0:Rat)<((x.den:Int):Rat):=by exact_mod_cast x.den_pos
 have dy:(0:Rat)<((y.den:Int):Rat):=by exact_mod_cast y.den_pos
 have P:(0:Rat)<((a.den:Int):Rat)*((x.den:Int):Rat)*(((b.den:Int):Rat)*((y.den:Int):Rat))*((c.den:Int):Rat):=d1d (d1d (d1d da dx) (d1d db dy)) dc;have:=Rat.mul_lt_mul_of_pos_right h P;have goal:(((a.num*x.num*(b.den:Int)*(y.den:Int)+b.num*y.num*(a.den:Int)*(x.den:Int))*(c.den:Int):Int):Rat)<((c.num*((a.den:Int)*(x.den:Int)*(b.den:Int)*(y.den:Int)):Int):Rat):=by
   simp only[c6b,c8i];have e1:((a.num:Rat)*x.num*((b.den:Int):Rat)*((y.den:Int):Rat)+b.num*y.num*((a.den:Int):Rat)*((x.den:Int):Rat))*((c.den:Int):Rat)=(a*x+b*y)*(((a.den:Int):Rat)*((x.den:Int):Rat)*(((b.den:Int):Rat)*((y.den:Int):Rat))*((c.den:Int):Rat)):=by
     rw[na,nb,nx,ny];grind
   have e2:(c.num:Rat)*(((a.den:Int):Rat)*((x.den:Int):Rat)*((b.den:Int):Rat)*((y.den:Int):Rat))=c*(((a.den:Int):Rat)*((x.den:Int):Rat)*(((b.den:Int):Rat)*((y.den:Int):Rat))*((c.den:Int):Rat)):=by
     rw[nc];grind
   rw[e1,e2];exact this
 exact_mod_cast goal
theorem c3j{a b c x y:Rat}(h:c<a*x+b*y):c.num*((a.den:Int)*(x.den:Int)*(b.den:Int)*(y.den:Int))<(a.num*x.num*(b.den:Int)*(y.den:Int)+b.num*y.num*(a.den:Int)*(x.den:Int))*(c.den:Int):=by
 have:=b8t (a:=-a) (b:=-b) (c:=-c) (x:=x) (y:=y) (by grind);simp only[Rat.neg_num,Rat.neg_den] at this;have e:(-a.num*x.num*(b.den:Int)*(y.den:Int) + -b.num*y.num*(a.den:Int)*(x.den:Int))*(c.den:Int)=-((a.num*x.num*(b.den:Int)*(y.den:Int)+b.num*y.num*(a.den:Int)*(x.den:Int))*(c.den:Int)):=by grind
 have e2:-c.num*((a.den:Int)*(x.den:Int)*(b.den:Int)*(y.den:Int))=-(c.num*((a.den:Int)*(x.den:Int)*(b.den:Int)*(y.den:Int))):=by grind
 rw[e,e2] at this;omega
noncomputable def SideQ(s:Int)(a b c:Rat)(ps:List Pt):Prop:=∀ p∈ps,s*(a.num*p.1.num*(b.den:Int)*(p.2.den:Int)+b.num*p.2.num*(a.den:Int)*(p.1.den:Int))*(c.den:Int)<s*c.num*((a.den:Int)*(p.1.den:Int)*(b.den:Int)*(p.2.den:Int))
theorem b7k.side{ps qs:List Pt}{a b c:Rat}(h:b7k ps qs a b c):SideQ 1 a b c ps∧SideQ (-1) a b c qs:=by
 refine⟨fun p hp=>?_,fun p hp=>?_⟩
 · rw[d1b,d1b];exact b8t (h.lo p hp)
 · have:=c3j (h.hi p hp);have e:∀ x y:Int,-1*x*y=-(x*y):=fun x y=>by grind
   rw[e,e];omega
noncomputable def b7z(K:c5k):Sp:=fun vs H Q _=>∃ (c l0 l1:Addr) (w0 w1:List V) (ps qs:List Pt),vs=[.ref c,.ref l0,.ref l1]∧c5h H c ps qs 2000∧H l0=some (.lst w0)∧PtsV H w0 ps∧H l1=some (.lst w1)∧PtsV H w1 qs∧(∀ p∈ps,Bd 2000 p.1∧Bd 2000 p.2)∧(∀ p∈qs,Bd 2000 p.1∧Bd 2000 p.2)∧∀ H',Same H H'→Q (.bl true) H'
noncomputable def c1m(K:c5k):Sp:=fun vs H Q _=>∃ (l m:Addr) (vl ws:List V) (rs:List Rat) (ps:List Pt) (s1 s2:Nat),vs=[.ref l,.ref m]∧H l=some (.lst vl)∧ShL H vl rs∧H m=some (.lst ws)∧PtsV H ws ps∧rs.length=ps.length∧(∀ r∈rs,0≤r∧Bd s1 r)∧(∀ p∈ps,Bd s2 p.1∧Bd s2 p.2)∧1≤s2∧rs.length*(s1+s2+1)≤8900∧s1≤3000∧s2≤3000∧
 ∀ (d:Addr) (u1 u2 u3:V) (H':Hp),Same H H'→H d=none→H' d=some (.lst [u1,u2,u3])→ShV H' u1 (dotQ rs (ps.map (·.1)))→ShV H' u2 (dotQ rs (ps.map (·.2)))→ShV H' u3 rs.sum→Q (.ref d) H'
noncomputable def c1n(K:c5k):Sp:=fun vs H Q _=>∃ (c l0 l1:Addr) (w0 w1:List V) (ps qs:List Pt),vs=[.ref c,.ref l0,.ref l1]∧H l0=some (.lst w0)∧PtsV H w0 ps∧H l1=some (.lst w1)∧PtsV H w1 qs∧
 ((c5h H c ps qs 2000∧(∀ p∈ps,Bd 2000 p.1∧Bd 2000 p.2)∧(∀ p∈qs,Bd 2000 p.1∧Bd 2000 p.2)∧∀ H',Same H H'→Q (.str "line") H')∨
  (∃ (s1 s2:Nat) (d1 d2:Addr),ComV H c d1 d2 ps qs s1∧(∀ p∈ps,Bd s2 p.1∧Bd s2 p.2)∧(∀ p∈qs,Bd s2 p.1∧Bd s2 p.2)∧1≤s2∧ps.length*(s1+s2+1)≤8900∧qs.length*(s1+s2+1)≤8900∧s1≤3000∧s2≤3000∧∀ H',Same H H'→Q (.str "common") H'))
theorem c4o{rs cs:List Rat}{i:Nat}{r c:Rat}(h1:rs[i]?=some r)(h2:cs[i]?=some c):dotQ (rs.take (i+1)) (cs.take (i+1))=dotQ (rs.take i) (cs.take i)+r*c:=by
 induction rs generalizing cs i with
 | nil=>simp at h1
 | cons a rs ih=>
   cases cs with
   | nil=>simp at h2
   | cons b cs=>
     cases i with
     | zero=>simp at h1 h2;subst h1 h2;unfold dotQ;simp[Rat.add_zero,Rat.zero_add]
     | succ i=>
       have:=ih (cs:=cs) (i:=i) (by simpa using h1) (by simpa using h2);unfold dotQ at this ⊢;simp only[c9w,c8s,c7u];rw[this];grind
theorem b5r:∀ (rs:List Rat),dotQ rs (c5q rs.length 1)=rs.sum
 | []=>by unfold dotQ;simp
 | r::rs=>by
   have ih:=b5r rs;unfold dotQ at ih ⊢;simp only[c6y,c7j,c8s,c7u];rw[ih];grind
noncomputable def axC(ps:List Pt):Nat→List Rat
 | 0=>ps.map (·.1)
 | 1=>ps.map (·.2)
 | _=>c5q ps.length 1
theorem a9d(ps:List Pt)(i:Nat):(axC ps i).length=ps.length:=by
 match i with
 | 0=>simp[axC]
 | 1=>simp[axC]
 | i+2=>simp[axC]
theorem c3f{top bot low:Int}{r c d:Rat}(h:(top:Rat)=d*bot)(e:low=(r.den:Int)*(c.den:Int)):((top*low+r.num*c.num*bot:Int):Rat)=(d+r*c)*((bot*low:Int):Rat):=by
 subst e;have nr:=a3q r;have nc:=a3q c;simp only[c6b,c8i];rw[h,nr,nc];grind
theorem shl3{H:Hp}{u v w:V}{a b c:Rat}(h1:ShV H u a)(h2:ShV H v b)(h3:ShV H w c):ShL H [u,v,w] [a,b,c]:=(((ShL.nil H).snoc h1).snoc h2).snoc h3
noncomputable def KdV(H:Hp)(c:Addr)(ps qs:List Pt)(s:Nat)(b:Bool)(l1 l2:Addr):Prop:=if b=true then c5h H c ps qs s else ComV H c l1 l2 ps qs s
noncomputable def wd(b:Bool):V:=if b=true then .str "line" else .str "common"
theorem part_one{K:c5k}{H:Hp}{Q:VK}{E:XK}{a b:Addr}{ws us:List V}{ps qs:List Pt}{D:Int}{n z:Nat}(ha:H a=some (.lst ws))(hP:PtsV H ws ps)(hb:H b=some (.lst us))(hQ:PtsV H us qs)(hD:0<D)(zD:Sz z D)(hz:z≤n)(h1:1≤n)(hn:n≤900)(o1:∀ p∈ps,OvP D n p)(o2:∀ p∈qs,OvP D n p)(p1:1≤ps.length)(p2:ps.length≤20)(q1:1≤qs.length)(q2:qs.length≤20)(k:∀ (c l1 l2:Addr) (bo:Bool) (H':Hp),Same H H'→(bo=false→H l1=none∧H l2=none∧l1≠l2)→KdV H' c ps qs (2*n+10) bo l1 l2→Q (.ref c) H'):b0j K [.ref a,.ref b] H Q E:=by
 refine⟨a,b,ws,us,ps,qs,D,n,z,rfl,ha,hP,hb,hQ,hD,zD,by omega,h1,by omega,o1,o2,p1,p2,q1,q2,?_,?_⟩
 · intro c v1 v2 v3 r1 r2 r3 H' s hc g1 g2 g3 b1 b2 b3 lo hi;exact k c 0 0 true H' s (fun z=>nomatch z) ⟨v1,v2,v3,r1,r2,r3,hc,g1,g2,g3,b1.mono (by omega),b2.mono (by omega),b3,lo,hi⟩
 · intro c l1 l2 v1 v2 r1 r2 H' s hc f1 f2 f12 g1 g2 S1 S2 b1 b2 mq;exact k c l1 l2 false H' s (fun _=>⟨f1,f2,f12⟩) ⟨v1,v2,r1,r2,hc,g1,g2,S1,S2,b1,b2,mq⟩
theorem kind_one{K:c5k}{H:Hp}{Q:VK}{E:XK}{c l0 l1:Addr}{w0 w1:List V}{ps qs:List Pt}{D:Int}{n z:Nat}{bo:Bool}{d1 d2:Addr}(h0:H l0=some (.lst w0))(hP:PtsV H w0 ps)(h1:H l1=some (.lst w1))(hQ:PtsV H w1 qs)(hK:KdV H c ps qs (2*n+10) bo d1 d2)(hD:0<D)(zD:Sz z D)(hz:z≤n)(hn1:1≤n)(hn:n≤900)(o1:∀ p∈ps,OvP D n p)(o2:∀ p∈qs,OvP D n p)(y1:ps.length*(3*n+11)≤8900)(y2:qs.length*(3*n+11)≤8900)(k:∀ H',Same H H'→Q (wd bo) H'):c1n K [.ref c,.ref l0,.ref l1] H Q E:=by
 have bd:∀ qs:List Pt,(∀ p∈qs,OvP D n p)→∀ p∈qs,Bd n p.1∧Bd n p.2:=fun qs o p hp=>a7i hD zD (o p hp) n (c5v _) hz;refine⟨c,l0,l1,w0,w1,ps,qs,rfl,h0,hP,h1,hQ,?_⟩;cases bo with
 | true=>
   obtain⟨v1,v2,v3,q1,q2,q3,hc,g1,g2,g3,b1,b2,b3,hl⟩:=(show c5h H c ps qs (2*n+10) from hK)
   refine .inl ⟨⟨v1,v2,v3,q1,q2,q3,hc,g1,g2,g3,b1.mono (by omega),b2.mono (by omega),b3.mono (by omega),hl⟩,fun p hp=>?_,fun p hp=>?_,k⟩
   · exact⟨((bd ps o1 p hp).1).mono (by omega),((bd ps o1 p hp).2).mono (by omega)⟩
   · exact⟨((bd qs o2 p hp).1).mono (by omega),((bd qs o2 p hp).2).mono (by omega)⟩
 | false=>
   refine .inr ⟨2*n+10,n,d1,d2,hK,bd ps o1,bd qs o2,hn1,?_,?_,by omega,by omega,k⟩
   · rw[show 2*n+10+n+1=3*n+11 by omega];exact y1
   · rw[show 2*n+10+n+1=3*n+11 by omega];exact y2
theorem b9s{K:c5k}{a:Addr}{ws:List V}{ps:List Pt}{H:Hp}(h:SqL K H a ws)(hP:PtsV H ws ps):∃ fx fy:Nat→V,a8i K (Itl K a) H ps.length fx fy∧∀ (i:Nat) p,ps[i]?=some p→ShV H (fx i) p.1∧ShV H (fy i) p.2:=by
 have hl:=hP.len;have ex:∀ i:Nat,∃ t:Addr×V×V,∀ p,ps[i]?=some p→ws[i]?=some (.ref t.1)∧H t.1=some (.tup [t.2.1,t.2.2])∧ShV H t.2.1 p.1∧ShV H t.2.2 p.2:=fun i=>by
   cases e:ps[i]? with
   | none=>exact⟨(0,.non,.non),fun p z=>by cases z⟩
   | some p=>
     obtain⟨v,e1,⟨b,vx,vy,rfl,h1,h2,h3⟩⟩:=hP.at e;exact⟨(b,vx,vy),fun p' z=>by cases z;exact⟨e1,h1,h2,h3⟩⟩
 obtain⟨f,hf⟩:=Classical.axiomOfChoice ex;refine⟨fun i=>(f i).2.1,fun i=>(f i).2.2,fun H2 s i=>?_,fun i p e=>⟨(hf i p e).2.2.1,(hf i p e).2.2.2⟩⟩;have q:=a3c h H2 s i;rw[hl] at q;refine⟨fun hi=>⟨(q.1 hi).1,fun x H' y=>?_⟩,q.2⟩;obtain⟨rfl,h2⟩:=(q.1 hi).2 x H' y;have g:=hf i _ (c5j hi);refine⟨L2.Same.refl _,(f i).1,?_,SqT.of (s _ _ g.2.1)⟩;rw[h2];show (ws[i]?).getD V.non=_;rw[g.1];rfl
end Cv
namespace Cv
noncomputable def lxP(a b:Pl):Prop:=a.1<b.1∨(a.1=b.1∧a.2<b.2)
end Cv
namespace Cv
open PySem PySem.Spec PyProof.Rows L2
noncomputable def a9r(h:Heap)(vs:List Value)(pl:List Pl):Prop:=vs.length=pl.length∧∀ (i:Nat) (v:Value) (p:Pl),vs[i]?=some v→pl[i]?=some p→
 ∃ (t:Addr) (o:Obj) (t1 t2:Tok) (n:Nat),v=.ref t∧h.get? t=some o∧o.cls=.type "tuple" ∧ o.data=.seq #[.int p.1 t1,.int p.2 t2] n
instance lxDec (a b:Pl):Decidable (lxP a b):=inferInstanceAs (Decidable (a.1<b.1∨(a.1=b.1∧a.2<b.2)))
section
variable {prog:Program} {w:World} {A:Around} {E:Value→Shared→Prop} {s:Shared}
theorem c5d{vs:List Value}{pl:List Pl}(h:a9r s.heap vs pl){i j:Nat}(hi:i<pl.length)(hj:j<pl.length){C:Bool→Shared→Prop}(q:C (decide (lxP (pl.getD i (0,0)) (pl.getD j (0,0)))) s):PySem.W.kas_ask prog w A (tuples' true) vs i j C s:=by
 unfold PySem.W.kas_ask;have ei:pl[i]?=some (pl[i]'hi):=c5j _;have ej:pl[j]?=some (pl[j]'hj):=c5j _;have vi:vs[i]?=some (vs[i]'(by rw[h.1];exact hi)):=c5j _;have vj:vs[j]?=some (vs[j]'(by rw[h.1];exact hj)):=c5j _;obtain⟨a,oa,t1,t2,n1,ea,ha,ca,da⟩:=h.2 i _ _ vi ei;obtain⟨b,ob,u1,u2,n2,eb,hb,cb,db⟩:=h.2 j _ _ vj ej;have e1:vs.getD i .none=.ref a:=by rw[c6j,vi,ea];rfl
 have e2:vs.getD j .none=.ref b:=by rw[c6j,vj,eb];rfl
 have e3:pl.getD i (0,0)=pl[i]'hi:=by rw[c6j,ei];rfl
 have e4:pl.getD j (0,0)=pl[j]'hj:=by rw[c6j,ej];rfl
 rw[e1,e2];rw[e3,e4] at q;generalize pl[i]'hi=p at *;generalize pl[j]'hj=r at *;refine PySem.W.kat_lt ha da hb db ?_;refine PySem.W.kat_cons (wpAny_eqBool_int ?_);refine PySem.W.kat_go (fun e=>PySem.W.kat_yes ?_) (fun e=>PySem.W.kat_no ?_)
 · have e':p.1=r.1:=by simpa using e
   refine PySem.W.kat_cons (wpAny_eqBool_int ?_);refine PySem.W.kat_go (fun f=>PySem.W.kat_yes (PySem.W.kat_nil ?_)) (fun f=>PySem.W.kat_no ?_)
   · have f':p.2=r.2:=by simpa using f
     have:decide (lxP p r)=false:=decide_eq_false (by unfold lxP;omega);rw[this] at q;simpa using q
   · have f':p.2≠r.2:=by simpa using f
     have:decide (lxP p r)=decide (p.2<r.2):=decide_eq_decide.mpr (by unfold lxP;omega);rw[this] at q;exact PySem.W.kat_one _ _ (lt_int q)
 · have e':p.1≠r.1:=by simpa using e
   have:decide (lxP p r)=decide (p.1<r.1):=decide_eq_decide.mpr (by unfold lxP;omega);rw[this] at q;exact oneLt_int q
theorem prs_keep{h h':Heap}{vs:List Value}{pl:List Pl}(H:a9r h vs pl){a:Addr}(k:∀ b o,b≠a→h.get? b=some o→h'.get? b=some o)(ha:∀ v∈vs,v≠.ref a):a9r h' vs pl:=
 ⟨H.1,fun i v p e1 e2=>by
   obtain⟨t,o,t1,t2,n,ev,ht,ct,dt⟩:=H.2 i v p e1 e2;exact⟨t,o,t1,t2,n,ev,k t o (fun z=>ha v (c5p e1) (by rw[ev,z])) ht,ct,dt⟩⟩
theorem b8w{h:Heap}:∀ {vs:List Value} {pl:List Pl},a9r h vs pl→∃ fs,PySem.W.KatTups h vs fs∧fs.length=vs.length∧∀ f∈fs,∃ i t,f=.int i t
 | [],[],_=>⟨[],PySem.W.KatTups.nil,rfl,fun f h=>nomatch h⟩
 | [],_::_,H=>absurd H.1 (by simp)
 | _::_,[],H=>absurd H.1 (by simp)
 | v::vs,p::pl,H=>by
   obtain⟨t,o,t1,t2,n,rfl,ht,ct,dt⟩:=H.2 0 v p rfl rfl;obtain⟨fs,h1,h2,h3⟩:=b8w (h:=h) (vs:=vs) (pl:=pl) ⟨by simpa using H.1,fun i v p e1 e2=>H.2 (i+1) v p e1 e2⟩;refine⟨.int p.1 t1::fs,PySem.W.KatTups.cons ht ct dt rfl h1,by simp[h2],fun f hf=>?_⟩;rcases c6f.mp hf with rfl | hf
   · exact⟨_,_,rfl⟩
   · exact h3 f hf
end
noncomputable def prOf(h:Heap):Value→Pl
 | .ref t=>match h.get? t with
   | some o=>match o.data with
     | .seq xs _=>match xs.toList with
       | [.int a _,.int b _]=>(a,b)
       | _=>(0,0)
     | _=>(0,0)
   | none=>(0,0)
 | _=>(0,0)
theorem a6g{h:Heap}{vs:List Value}{pl:List Pl}(H:a9r h vs pl){i:Nat}{v:Value}{p:Pl}(e1:vs[i]?=some v)(e2:pl[i]?=some p):prOf h v=p:=by
 obtain⟨t,o,t1,t2,n,rfl,ht,ct,dt⟩:=H.2 i v p e1 e2;unfold prOf;simp only[ht,dt]
theorem b8k{h:Heap}{vs:List Value}{pl:List Pl}(H:a9r h vs pl):vs.map (prOf h)=pl:=by
 refine c7y fun i=>?_;rw[c5t];by_cases hi:i<vs.length
 · have hi':i<pl.length:=by rw[← H.1];exact hi
   rw[c5j hi,c5j hi'];exact congrArg some (a6g H (c5j hi) (c5j hi'))
 · rw[c6m (by omega),c6m (by rw[← H.1];omega)];rfl
section
variable {prog:Program} {w:World} {A:Around} {E:Value→Shared→Prop} {s:Shared}
noncomputable def ItP(vs:List Value)(x:Keyed):Prop:=x.1∈vs
noncomputable def ltP(h:Heap)(x y:Keyed):Bool:=decide (lxP (prOf h x.1) (prOf h y.1))
theorem c0x{vs:List Value}{pl:List Pl}(H:a9r s.heap vs pl):Asks (model prog w) A E s (tuples' true) (ItP vs) (ltP s.heap):=by
 refine⟨fun x y st Q ix iy hk q=>?_,fun x y _ _ h=>?_,fun x y z _ _ _ h1 h2=>?_⟩
 · obtain⟨i,hi,ei⟩:=c6k ix;obtain⟨j,hj,ej⟩:=c6k iy;have hl:=H.1;have a:=c5d (prog:=prog) (w:=w) (A:=A) H (i:=i) (j:=j) (by omega) (by omega) (C:=fun b s'=>s'=s∧b=ltP s.heap x y) ⟨rfl,by
     unfold ltP;rw[a6g H (i:=i) (v:=x.1) (p:=pl.getD i (0,0)) (by rw[c5j hi,ei]) (by rw[c6j,c5j (show i<pl.length by omega)];rfl),a6g H (i:=j) (v:=y.1) (p:=pl.getD j (0,0)) (by rw[c5j hj,ej]) (by rw[c6j,c5j (show j<pl.length by omega)];rfl)]⟩
   unfold PySem.W.kas_ask at a;have e1:vs.getD i .none=x.1:=by rw[c6j,c5j hi,ei];rfl
   have e2:vs.getD j .none=y.1:=by rw[c6j,c5j hj,ej];rfl
   rw[e1,e2] at a;rw[lt'_eq];refine wpS_bind (wpS_get ?_);refine wpS_bind (wpS_lift ?_);rw[hk];refine wpAny_attempt (wpAny_mono a (fun b s' hb=>?_) fun _ _ f=>f.elim);obtain⟨rfl,rfl⟩:=hb;exact⟨rfl,wpS_pure q⟩
 · unfold ltP at *;rw[decide_eq_true_iff] at h;exact decide_eq_false (by unfold lxP at *;omega)
 · unfold ltP at *;have h1:=of_decide_eq_false h1;have h2:=of_decide_eq_false h2;exact decide_eq_false (by unfold lxP at *;omega)
theorem b2f{a:Addr}{vs:List Value}{pl:List Pl}{n0:Nat}{P:PySem.Fin→Shared→Prop}(hS:s.heap.get? a=some (seqObj "list" vs.toArray n0))(hv:a9r s.heap vs pl)(hnd:pl.Nodup)(h2:2≤pl.length)(hmx:pl.length≤100000)(hQ:∀ (h':Heap) (out:List Value) (c:Nat),(∀ b o,b≠a→s.heap.get? b=some o→h'.get? b=some o)→h'.get? a=some (seqObj "list" out.toArray c)→out.Perm vs→(out.map (prOf s.heap)).Pairwise lxP→P (Fin.done (Flow.ret .none)) { s with heap:=h' }) :
   wpAny (model prog w) A (Builtin.«list.sort» ⟨[.ref a],[]⟩) P E s:=by
 have hl:vs.length=pl.length:=hv.1;have hva:∀ v∈vs,v≠.ref a:=fun v hm e=>by
   obtain⟨i,hi,ei⟩:=c6k hm;obtain⟨t,o,t1,t2,n,ev,ht,ct,dt⟩:=hv.2 i v (pl[i]'(by omega (config:={}))) (by rw[c5j hi,ei]) (c5j _);rw[e] at ev;cases ev;rw[hS] at ht;cases ht;exact absurd (show Value.type "list" = Value.type "tuple" from ct) (by decide)
 have sl:pl.length<sizeLine:=a0o (by omega);rw[list_sort_plain];refine wpAny_bind ?_;unfold Builtin.List.listItems;refine wpAny_bind (wpAny_seqItems hS rfl (wpAny_pure ?_));refine wpAny_bind ?_;show wpAny _ _ (updateSeq a (fun _=>#[])) _ _ _;refine wpAny_updateSeq hS rfl ?_ (by simp;omega) (by simp);have hS1:=Heap.get?_update_self (Obj.mapSeq (fun _=>(#[]:Array Value))) hS rfl;have k1:∀ b o,b≠a→s.heap.get? b=some o→(s.heap.update a (Obj.mapSeq (fun _=>(#[]:Array Value)))).get? b=some o:=fun b o hb e=>(Heap.get?_update_other _ _ (Ne.symm hb)).trans e;generalize hH1:s.heap.update a (Obj.mapSeq (fun _=>(#[]:Array Value)))=H1 at *;refine wpAny_bind ?_;unfold seqEpoch;refine wpAny_bind (wpAny_load hS1 ?_);refine wpAny_pure ?_;refine wpAny_bind (wpAny_newTuple ?_ (by simp;omega));refine wpAny_bind (wpAny_newList ?_);refine wpAny_holding ?_;dsimp only;have hlt:¬ vs.toArray.size<2:=by simp;omega
 rw[if_neg hlt,if_neg hlt];have hS2:((H1.push { cls:=.type "tuple",data:=.seq vs.toArray.toList.toArray }).push { cls:=.type "list",data:=.seq #[] }).get? a=some (Obj.mapSeq (fun _=>(#[]:Array Value)) (seqObj "list" vs.toArray n0)):=Heap.get?_push_of_some _ (Heap.get?_push_of_some _ hS1);have k2:∀ b o,b≠a→s.heap.get? b=some o→((H1.push { cls:=.type "tuple",data:=.seq vs.toArray.toList.toArray }).push { cls:=.type "list",data:=.seq #[] }).get? b=some o:=fun b o hb e=>Heap.get?_push_of_some _ (Heap.get?_push_of_some _ (k1 b o hb e));generalize ((H1.push { cls:=.type "tuple",data:=.seq vs.toArray.toList.toArray }).push { cls:=.type "list",data:=.seq #[] })=H2 at *;have hv2:a9r H2 vs pl:=prs_keep hv k2 hva;obtain⟨fs,f1,f2,f3⟩:=b8w hv2;refine wpAny_bind (PySem.W.kat_kind (s:={ s with heap:=H2 }) (T:=.type "int") f1 (by omega) (fun v hm=>?_) rfl ?_)
 · obtain⟨i,t,rfl⟩:=f3 v hm;exact fun A Q E s _ q=>wpAny_pure q
 have e0:(vs.toArray.zip vs.toArray).toList=vs.zip vs:=by simp
 have emap:∀ v∈vs,prOf H2 v=prOf s.heap v:=fun v hm=>by
   obtain⟨i,hi,ei⟩:=c6k hm;have a1:=a6g hv2 (i:=i) (v:=v) (p:=pl[i]'(by omega (config:={}))) (by rw[c5j hi,ei]) (c5j _);have a2:=a6g hv (i:=i) (v:=v) (p:=pl[i]'(by omega (config:={}))) (by rw[c5j hi,ei]) (c5j _);rw[a1,a2]
 have hit:∀ x∈vs.zip vs,ItP vs x:=fun x hx=>(mem_zip_self hx).2;have hfst:(vs.zip vs).map (fun x=>prOf H2 x.1)=pl:=by
   have:(vs.zip vs).map (fun x=>prOf H2 x.1)=((vs.zip vs).map Prod.fst).map (prOf H2):=by rw[d0b];rfl
   rw[this,List.map_fst_zip (c5v _),b8k hv2]
 have hD:Dst (ltP H2) (vs.zip vs):=by
   unfold Dst;have nd:((vs.zip vs).map (fun x=>prOf H2 x.1)).Nodup:=by rw[hfst];exact hnd
   refine (List.pairwise_map.mp nd).imp fun {x y} h=>?_;unfold ltP;rw[decide_eq_true_iff,decide_eq_true_iff];unfold lxP;by_cases e1:(prOf H2 x.1).1=(prOf H2 y.1).1
   · by_cases e2:(prOf H2 x.1).2=(prOf H2 y.1).2
     · exact absurd (Prod.ext e1 e2) h
     · omega
   · omega
 have run:=b6h (c0x (prog:=prog) (w:=w) (A:=A) (E:=E) (s:={ s with heap:=H2 }) hv2) (l₀:=vs.zip vs) (st:=SortSt.mk' (tuples' true) (vs.toArray.zip vs.toArray) #[] 7 none) hit hD ⟨rfl,rfl,by show (vs.toArray.zip vs.toArray).toList.Perm _;rw[e0]⟩ rfl (by rw[List.length_zip];omega) (Q:=fun _ st'=>SB (tuples' true) (vs.zip vs) st'∧(arrOf st').toList.Pairwise (fun x y=>ltP H2 y x=false)) fun st' h1 h2=>⟨h1,h2⟩
 unfold wpS at run;refine wpAny_bind (wpAny_mono run (fun r s' hr=>?_) (fun _ _ x=>x));obtain⟨⟨⟩,st⟩:=r;obtain⟨rfl,hB,hP⟩:=hr;dsimp only at hB hP ⊢;refine wpAny_bind (wpAny_bind (wpAny_load hS2 ?_));refine wpAny_pure ?_;have hsz:(arrOf st).size=pl.length:=by rw[hB.size,List.length_zip];omega
 refine wpAny_bind ?_;show wpAny _ _ (updateSeq a (fun _=>Array.map (fun x=>x.snd) (arrOf st))) _ _ _;refine wpAny_updateSeq hS2 rfl ?_ (by simp) (by rw[Array.size_map,hsz];omega);have hS3:=Heap.get?_update_self (Obj.mapSeq (fun _=>Array.map (fun x=>x.snd) (arrOf st))) hS2 rfl;have k3:∀ b o,b≠a→s.heap.get? b=some o→(H2.update a (Obj.mapSeq (fun _=>Array.map (fun x=>x.snd) (arrOf st)))).get? b=some o:=fun b o hb e=>(Heap.get?_update_other _ _ (Ne.symm hb)).trans (k2 b o hb e);have hmem:∀ x∈(arrOf st).toList,x.1=x.2∧x.1∈vs:=fun x hx=>mem_zip_self (hB.perm.mem_iff.mp hx);obtain⟨out,hout⟩ : ∃ out:List Value,out=(arrOf st).toList.map (fun x:Keyed=>x.2):=⟨_,rfl⟩
 have eo:Array.map (fun x=>x.snd) (arrOf st)=out.toArray:=by
   refine Array.ext' ?_;rw[Array.toList_map,hout]
 rw[eo] at hS3 k3 ⊢;generalize H2.update a (Obj.mapSeq (fun _=>out.toArray))=H3 at *;rw[hB.fail];dsimp only;rw[if_neg (by simp)];refine wpAny_pure (hQ H3 out _ k3 hS3 ?_ ?_)
 · rw[hout];refine (hB.perm.map _).trans (c9p.of_eq ?_);rw[show (fun x:Keyed=>x.2)=Prod.snd from rfl,List.map_snd_zip (c5v _)]
 · rw[hout,d0b,List.pairwise_map];have d2:=hD.perm hB.perm;have both:=hP.and d2;refine (List.Pairwise.and_mem.mp both).imp fun {x y} h=>?_;obtain⟨hx,hy,h1,h2⟩:=h;show lxP (prOf s.heap x.2) (prOf s.heap y.2);rw[← (hmem x hx).1,← (hmem y hy).1,← emap _ (hmem x hx).2,← emap _ (hmem y hy).2];rcases h2 with h2 | h2
   · exact of_decide_eq_true h2
   · rw[h1] at h2;cases h2
theorem b1a{a:Addr}{vs:List Value}{n0:Nat}{P:PySem.Fin→Shared→Prop}(hS:s.heap.get? a=some (seqObj "list" vs.toArray n0))(h2:vs.length<2)(hQ:∀ (h':Heap) (c:Nat),(∀ b o,b≠a→s.heap.get? b=some o→h'.get? b=some o)→h'.get? a=some (seqObj "list" vs.toArray c)→P (Fin.done (Flow.ret .none)) { s with heap:=h' }) :
   wpAny (model prog w) A (Builtin.«list.sort» ⟨[.ref a],[]⟩) P E s:=by
 rw[list_sort_plain];refine wpAny_bind ?_;unfold Builtin.List.listItems;refine wpAny_bind (wpAny_seqItems hS rfl (wpAny_pure ?_));refine wpAny_bind ?_;show wpAny _ _ (updateSeq a (fun _=>#[])) _ _ _;refine wpAny_updateSeq hS rfl ?_ (by simp;exact c7r (a0o (by omega))) (by simp);have hS1:=Heap.get?_update_self (Obj.mapSeq (fun _=>(#[]:Array Value))) hS rfl;have k1:∀ b o,b≠a→s.heap.get? b=some o→(s.heap.update a (Obj.mapSeq (fun _=>(#[]:Array Value)))).get? b=some o:=fun b o hb e=>(Heap.get?_update_other _ _ (Ne.symm hb)).trans e;generalize s.heap.update a (Obj.mapSeq (fun _=>(#[]:Array Value)))=H1 at *;refine wpAny_bind ?_;unfold seqEpoch;refine wpAny_bind (wpAny_load hS1 ?_);refine wpAny_pure ?_;refine wpAny_bind (wpAny_newTuple ?_ (by simp;exact c7r (a0o (by omega))));refine wpAny_bind (wpAny_newList ?_);refine wpAny_holding ?_;dsimp only;have hlt:vs.toArray.size<2:=by simp;omega
 rw[if_pos hlt,if_pos hlt];have hS2:((H1.push { cls:=.type "tuple",data:=.seq vs.toArray.toList.toArray }).push { cls:=.type "list",data:=.seq #[] }).get? a=some (Obj.mapSeq (fun _=>(#[]:Array Value)) (seqObj "list" vs.toArray n0)):=Heap.get?_push_of_some _ (Heap.get?_push_of_some _ hS1);have k2:∀ b o,b≠a→s.heap.get? b=some o→((H1.push { cls:=.type "tuple",data:=.seq vs.toArray.toList.toArray }).push { cls:=.type "list",data:=.seq #[] }).get? b=some o:=fun b o hb e=>Heap.get?_push_of_some _ (Heap.get?_push_of_some _ (k1 b o hb e));generalize ((H1.push { cls:=.type "tuple",data:=.seq vs.toArray.toList.toArray }).push { cls:=.type "list",data:=.seq #[] })=H2 at *;refine wpAny_bind (wpAny_pure ?_);refine wpAny_bind (wpAny_pure ?_);dsimp only;refine wpAny_bind (wpAny_bind (wpAny_load hS2 ?_));refine wpAny_pure ?_;have eo:Array.map (fun x=>x.snd) (arrOf (SortSt.mk' general' (vs.toArray.zip vs.toArray) #[] 7 none))=vs.toArray:=by
   show Array.map (fun x=>x.snd) (vs.toArray.zip vs.toArray)=_;refine Array.ext' ?_;rw[Array.toList_map,Array.toList_zip,List.map_snd_zip (c5v _)]
 refine wpAny_bind ?_;show wpAny _ _ (updateSeq a (fun _=>Array.map (fun x=>x.snd) (arrOf (SortSt.mk' general' (vs.toArray.zip vs.toArray) #[] 7 none)))) _ _ _;rw[eo];refine wpAny_updateSeq hS2 rfl ?_ (by simp) (by simp;exact Nat.le_succ_of_le (c7r (a0o (by omega))));have hS3:=Heap.get?_update_self (Obj.mapSeq (fun _=>vs.toArray)) hS2 rfl;have k3:∀ b o,b≠a→s.heap.get? b=some o→(H2.update a (Obj.mapSeq (fun _=>vs.toArray))).get? b=some o:=fun b o hb e=>(Heap.get?_update_other _ _ (Ne.symm hb)).trans (k2 b o hb e);generalize H2.update a (Obj.mapSeq (fun _=>vs.toArray))=H3 at *;show wpAny _ _ (if _ then _ else _) _ _ _;rw[if_neg (by simp)];exact wpAny_pure (hQ H3 _ k3 hS3)
theorem b6o{l:Addr}{vs:List Value}{pl:List Pl}{Q:Value→Shared→Prop}(hl:s.heap.IsList l vs.toArray)(hv:a9r s.heap vs pl)(hnd:pl.Nodup)(hmx:pl.length≤100000)(hQ:∀ (hA h':Heap) (out:List Value) (n:Nat),(∀ b o,s.heap.get? b=some o→hA.get? b=some o)→(∀ b o,hA.get? b=some o→h'.get? b=some o)→h'.get? hA.objs.size=some (seqObj "list" out.toArray n)→out.Perm vs→(out.map (prOf s.heap)).Pairwise lxP→Q (.ref hA.objs.size) { s with heap:=h' }) :
   wpAny (model prog w) A (call (.builtin "sorted") [.ref l]) Q E s:=by
 have hl2:vs.length=pl.length:=hv.1;have sl:pl.length<sizeLine:=a0o (by omega);refine Calls.call_function_entry kind_sorted plain_sorted entry_sorted (args_sorted1 _) ?_;unfold Builtin.«sorted»;refine wpAny_bind (m:=checkCount "sorted" 1 1 _) (wpAny_pure ?_);refine wpAny_bind (collect_list hl ?_ (by omega));have k0:∀ b o,s.heap.get? b=some o→((s.heap.push (seqObj "list" #[] 0)).update s.heap.objs.size (Obj.mapSeq (·++vs.toArray))).get? b=some o:=fun b o e=>(Heap.get?_update_other _ _ (Ne.symm (c6l (Heap.lt_size e)))).trans (Heap.get?_push_of_some _ e);generalize ((s.heap.push (seqObj "list" #[] 0)).update s.heap.objs.size (Obj.mapSeq (·++vs.toArray)))=hA at *;refine wpAny_bind (wpAny_newList ?_ (by omega));have hS:(hA.push { cls:=.type "list",data:=.seq vs.toArray }).get? hA.objs.size=some (seqObj "list" vs.toArray 0):=Heap.get?_push_size _ rfl;have k1:∀ b o,s.heap.get? b=some o→(hA.push { cls:=.type "list",data:=.seq vs.toArray }).get? b=some o:=fun b o e=>Heap.get?_push_of_some _ (k0 b o e);have hv1:a9r (hA.push { cls:=.type "list",data:=.seq vs.toArray }) vs pl:=⟨hv.1,fun i v p e1 e2=>by
   obtain⟨t,o,t1,t2,n,ev,ht,ct,dt⟩:=hv.2 i v p e1 e2;exact⟨t,o,t1,t2,n,ev,k1 t o ht,ct,dt⟩⟩
 have emap:∀ v∈vs,prOf (hA.push { cls:=.type "list",data:=.seq vs.toArray }) v=prOf s.heap v:=fun v hm=>by
   obtain⟨i,hi,ei⟩:=c6k hm;have a1:=a6g hv1 (i:=i) (v:=v) (p:=pl[i]'(by omega (config:={}))) (by rw[c5j hi,ei]) (c5j _);have a2:=a6g hv (i:=i) (v:=v) (p:=pl[i]'(by omega (config:={}))) (by rw[c5j hi,ei]) (c5j _);rw[a1,a2]
 by_cases h2:2≤pl.length
 · refine wpAny_bind (wpAny_holding (wpAny_call_entry slot_list_sort ⟨_,hS,rfl⟩ entry_list_sort (b2f hS hv1 hnd h2 hmx fun h' out c k2 e1 e2 e3=>⟨_,rfl,wpAny_pure ⟨_,rfl,?_⟩⟩) (args_list_sort _)));refine hQ hA h' out c k0 (fun b o e=>k2 b o (c6l (Heap.lt_size e)) (Heap.get?_push_of_some _ e)) e1 e2 ?_;rw[show out.map (prOf s.heap)=out.map (prOf (hA.push { cls:=.type "list",data:=.seq vs.toArray })) from c7x fun v hm=>(emap v (e2.mem_iff.mp hm)).symm];exact e3
 · refine wpAny_bind (wpAny_holding (wpAny_call_entry slot_list_sort ⟨_,hS,rfl⟩ entry_list_sort (b1a hS (by omega) fun h' c k2 e1=>⟨_,rfl,wpAny_pure ⟨_,rfl,?_⟩⟩) (args_list_sort _)));refine hQ hA h' vs c k0 (fun b o e=>k2 b o (c6l (Heap.lt_size e)) (Heap.get?_push_of_some _ e)) e1 (c9p.refl _) ?_;rcases vs with _ | ⟨x,_ | ⟨y,r⟩⟩
   · exact .nil
   · exact List.pairwise_singleton _ _
   · simp at hl2;omega
end
section
variable {X:Cx}
theorem c0u(K:c5k)(hK:X.K=K:=by rfl):a6x X (.builtin "sorted") (fun xs H Q=>∃ (a:Addr) (us:List V) (pl:List Pl),xs=[.ref a]∧SqL K H a us∧PlsV H us pl∧pl.Nodup∧pl.length≤100000∧
   ∀ (l:Addr) (vs:List V) (qs:List Pl),H l=none→qs.Perm pl→qs.Pairwise lxP→PlsV H vs qs→Q (.ref l) (upd H l (.lst vs))):=by
 subst hK;intro pins s σ H xs us' Q I rv h;obtain⟨a,us,pl,rfl,hS,hP,hnd,hmx,q⟩:=h;obtain⟨u,rfl,ru⟩:=a7l rv;cases ru;obtain⟨its,rits,pll,hz⟩:=I.list hS;have l1:=hP.len;have l2:=rits.length;have hget:∀ (i:Nat) v p,its[i]?=some v→pl[i]?=some p→∃ b,v=.ref b∧H b=some (.tup [.int p.1,.int p.2]):=fun i v p e1 e2=>by
   obtain⟨x,ex⟩ : ∃ x,us[i]?=some x:=⟨us[i]'(by have:=(c5m.mp e2).1;omega),c5j _⟩
   obtain⟨T,rfl,hT⟩:=hP.get i x p ex e2;obtain⟨v',e',rr⟩:=rits.get ex;rw[e1] at e';cases e';cases rr;exact⟨T,rfl,hT⟩
 have hv:a9r s.heap its pl:=⟨by omega,fun i v p e1 e2=>by
   obtain⟨b,rfl,hb⟩:=hget i v p e1 e2;obtain⟨_,ia,ra,oa,a1,a2,na,a3⟩:=(show a5b X.prog X.w H s.heap b (.tup [.int p.1,.int p.2]) from I.hok _ _ hb)
   obtain⟨w1,w2,rfl,⟨t1,rfl⟩,⟨t2,rfl⟩⟩:=a9w ra;exact⟨b,oa,t1,t2,na,rfl,a1,a2,a3⟩⟩
 refine b6o pll.isList hv hnd hmx fun hA h' out n k1 k2 e1 e2 e3=>?_;have I1:Inv X pins σ H { s with heap:=hA,toks:=s.toks }:=I.kept k1;have hmem:∀ v∈out,∃ b,v=.ref b∧H b=some (.tup [.int (prOf s.heap v).1,.int (prOf s.heap v).2]):=fun v hv'=>by
   obtain⟨j,hj,ej⟩:=c6k (e2.mem_iff.mp hv');have hj2:j<pl.length:=by omega
   have e4:=a6g hv (i:=j) (v:=v) (p:=pl[j]'hj2) (by rw[c5j hj,ej]) (c5j _);obtain⟨b,eb,hb⟩:=hget j v (pl[j]'hj2) (by rw[c5j hj,ej]) (c5j _);exact⟨b,eb,by rw[e4];exact hb⟩
 obtain⟨ws,hw1,hw2⟩ : ∃ ws:List V,Vals ws out∧PlsV H ws (out.map (prOf s.heap)):=by
   clear e1 e2 e3;induction out with
   | nil=>exact⟨[],.nil,rfl,fun i v p e=>by simp at e⟩
   | cons v out ih=>
     obtain⟨b,rfl,hb⟩:=hmem v (by simp);obtain⟨ws,w1,w2⟩:=ih fun x hx=>hmem x (c6w _ hx);refine⟨.ref b::ws,.cons rfl w1,⟨by simp[w2.len],fun i x p e1 e2=>?_⟩⟩;cases i with
     | zero=>cases e1;cases e2;exact⟨b,rfl,hb⟩
     | succ i=>exact w2.get i x p e1 e2
 have hpm:(out.map (prOf s.heap)).Perm pl:=by
   have:=e2.map (prOf s.heap)
   rwa [b8k hv] at this
 refine⟨.ref hA.objs.size,_,I1.laid (a:=hA.objs.size) (o:=.lst ws) (t':=s.toks) k2 (c5v _) ⟨by rw[hw2.len,hpm.length_eq];exact c7r (a0o (by omega)),out,n,hw1,e1⟩,rfl,q _ ws _ I1.fresh hpm e3 hw2⟩
theorem b9v{tg elt iter tg2 iter2 tg3 iter3:Expr}{os:List Str}{pos:Pos}{scope:Scope}{wi wi2 wi3:TI}{g g2 g3:TG}{te:TE}{caps:List (Nat×Str)}(N:List Str)(sc:Scope)(hi:PIi X tg iter wi)(hg:∀ cl C s0 H0 fp,PGi (a0n X scope cl (os++caps.map (·.2)) C s0 H0 fp) tg g)(hi2:∀ cl C s0 H0 fp,PIi (a0n X scope cl (os++caps.map (·.2)) C s0 H0 fp) tg2 iter2 wi2)(hg2:∀ cl C s0 H0 fp,PGi (a0n X scope cl (os++caps.map (·.2)) C s0 H0 fp) tg2 g2)(hi3:∀ cl C s0 H0 fp,PIi (a0n X scope cl (os++caps.map (·.2)) C s0 H0 fp) tg3 iter3 wi3)(hg3:∀ cl C s0 H0 fp,PGi (a0n X scope cl (os++caps.map (·.2)) C s0 H0 fp) tg3 g3)(he:∀ cl C s0 H0 fp,PEi (a0n X scope cl (os++caps.map (·.2)) C s0 H0 fp) elt te)(ok:a5i N sc scope caps=true)(hN:X.N=N:=by rfl)(hsc:X.env.scope=sc:=by rfl)(hc:X.calm=true:=by rfl)(hfs:∀ v,foldedSetIterable iter X.env v=pure v:=by intro _;rfl)(hfs2:∀ cl C v,foldedSetIterable iter2 (compEnvC scope cl C X.env) v=pure v:=by intro _ _ _;rfl)(hfs3:∀ cl C v,foldedSetIterable iter3 (compEnvC scope cl C X.env) v=pure v:=by intro _ _ _;rfl) :
 PEi X (.ListComp elt [⟨tg,iter,[],0⟩,⟨tg2,iter2,[],0⟩,⟨tg3,iter3,[],0⟩] scope pos) (b7q os.length wi g wi2 g2 wi3 g3 te (caps.map (·.1))):=by with_unfolding_all exact c2k (N:=N) (sc:=sc) (hi:=hi) (hg:=hg) (hi2:=hi2) (hg2:=hg2) (hi3:=hi3) (hg3:=hg3) (he:=he) (ok:=ok) (hN:=hN) (hsc:=hsc) (hc:=hc) (hfs:=hfs) (hfs2:=hfs2) (hfs3:=hfs3)
end
noncomputable def bel(p:Pl):List Pl:=[(2*p.1,2*p.2),(2*p.1,2*p.2+1),(2*p.1+1,2*p.2),(2*p.1+1,2*p.2+1)]
noncomputable def below(pl:List Pl):List Pl:=pl.flatMap bel
theorem a8h(pl:List Pl):(below pl).length=4*pl.length:=by
 induction pl with
 | nil=>rfl
 | cons p r ih=>
   show (bel p++below r).length=_;rw[c5n,ih,c6y];show 4+_=_;omega
theorem b7g{p q:Pl}:q∈bel p↔q.1 / 2=p.1∧q.2 / 2=p.2:=by
 unfold bel;simp only[c6f,c6r,or_false,Prod.ext_iff];omega
theorem b1u{pl:List Pl}{q:Pl}:q∈below pl↔(q.1 / 2,q.2 / 2)∈pl:=by
 unfold below;rw[c9x];constructor
 · rintro⟨p,hp,hq⟩;obtain⟨h1,h2⟩:=b7g.mp hq;rw[h1,h2];exact hp
 · intro h;exact⟨_,h,b7g.mpr ⟨rfl,rfl⟩⟩
theorem c5a(p:Pl):(bel p).Nodup:=by
 unfold bel;simp only[d0e,c6f,c6r,or_false,Prod.ext_iff,not_false_eq_true,List.nodup_nil,and_true];omega
theorem b1t{pl:List Pl}(h:pl.Nodup):(below pl).Nodup:=by
 induction pl with
 | nil=>exact List.nodup_nil
 | cons p r ih=>
   obtain⟨h1,h2⟩:=d0e.mp h;show (bel p++below r).Nodup;refine List.nodup_append.mpr ⟨c5a p,ih h2,fun a ha b hb e=>?_⟩;subst e;obtain⟨e1,e2⟩:=b7g.mp ha;have:=b1u.mp hb;rw[e1,e2] at this;exact h1 this
theorem c0v(pl:List Pl)(p:Pl):below (pl++[p])=below pl++bel p:=by unfold below;rw[List.flatMap_append];simp
noncomputable def c1s(K:c5k):Sp:=fun vs H Q _=>∃ (a:Addr) (us:List V) (pl:List Pl),vs=[.ref a]∧H a=some (.lst us)∧PlsV H us pl∧pl.Nodup∧pl.length≤1000∧(∀ p∈pl,Sz 100 p.1∧Sz 100 p.2)∧
 ∀ (l:Addr) (vs:List V) (qs:List Pl) (H':Hp),Same H H'→H l=none→H' l=some (.lst vs)→PlsV H' vs qs→qs.Perm (below pl)→qs.Pairwise lxP→Q (.ref l) H'
theorem b3n{H:Hp}{vs:List V}{pl:List Pl}{t:Addr}{p:Pl}(h:PlsV H vs pl)(ht:H t=some (.tup [.int p.1,.int p.2])):PlsV H (vs++[.ref t]) (pl++[p]):=by
 refine⟨by simp[h.len],fun i v q e1 e2=>?_⟩;have hl:=h.len;by_cases hi:i<vs.length
 · rw[c5y hi] at e1;rw[c5y (by omega)] at e2;exact h.get i v q e1 e2
 · rw[c6d (by omega)] at e1 e2;rw[hl] at e1;cases hz:i - pl.length with
   | zero=>rw[hz] at e1 e2;cases e1;cases e2;exact⟨t,rfl,ht⟩
   | succ k=>rw[hz] at e1;simp at e1
theorem c0w{K:c5k}{a:Addr}{us:List V}{pl:List Pl}{H1:Hp}{g:TG}{wi:TI}{te:TE}{cs:L2.St}{Q:VK}(hS:H1 a=some (.lst us))(hP:PlsV H1 us pl)(hn:pl.length≤1000)(hg:∀ (v:V) (p:Pl) (o1 o2 o3 o4:Option V) (H2:Hp) (R:L2.St→Hp→Prop),p∈pl→RwV H2 v p.1 p.2→R ([some (.int p.1),some (.int p.2),o3,o4]++cs) H2→g v ([o1,o2,o3,o4]++cs) H2 R)(hw:∀ (σ:L2.St) (H2:Hp) (R:It→Hp→Prop),(∀ t,H2 t=none→R (Itt K t) (upd H2 t (.tup [.int 0,.int 1])))→wi σ H2 R)(ht:∀ (p:Pl) (x y:Int) (H2:Hp) (R:VK),p∈pl→(∀ t,H2 t=none→R (.ref t) (upd H2 t (.tup [.int (2*p.1+x),.int (2*p.2+y)])))→te ([some (.int p.1),some (.int p.2),some (.int x),some (.int y)]++cs) H2 R)(hq:∀ D ys H2,H1 D=none→Same H1 H2→H2 D=some (.lst ys)→PlsV H2 ys (below pl)→Q (.ref D) H2) :
   b6e 4 (Itl K a) H1 g wi (a3u 2) wi (a3u 3) te cs Q:=by
 intro D hD;have hul:=hP.len;refine⟨fun i m ys H2=>m=pl.length - i∧i≤pl.length∧Same H1 H2∧H2 D=some (.lst ys)∧PlsV H2 ys (below (pl.take i)),⟨pl.length,rfl,c7c _,Same.new hD,a0d,by simp[below],fun i v p e=>by simp at e⟩,?_⟩;rintro i m ys H2 ⟨rfl,hi,s2,d2,r2⟩;by_cases hlt:i<pl.length
 · have ep:pl[i]?=some pl[i]:=c5j hlt;obtain⟨b,eb,hb⟩:=(hP.same s2).at ep;have hmem:pl[i]∈pl:=c6z hlt;have eS:pl.take (i+1)=pl.take i++[pl[i]]:=by rw[d0p,ep];rfl
   have hbl:(below (pl.take i)).length≤4000:=by rw[a8h,c6u];omega
   generalize pl[i]=p at *;refine .inr ⟨⟨us,_,SqL.of (s2 _ _ hS),eb⟩,fun x H' y own ho=>?_⟩;obtain⟨rfl,hy⟩:=y;have hx:=hy us (SqL.of (s2 _ _ hS));rw[eb] at hx;obtain rfl:V.ref b=x:=c6e.inj hx;obtain⟨o1,o2,o3,o4,rfl⟩ : ∃ o1 o2 o3 o4,own=[o1,o2,o3,o4]:=by
     match own,ho with
     | [o1,o2,o3,o4],_=>exact⟨o1,o2,o3,o4,rfl⟩
   refine hg (.ref b) p o1 o2 o3 o4 H' _ hmem ⟨b,rfl,hb⟩ ⟨[some (.int p.1),some (.int p.2),o3,o4],rfl,rfl,hw _ _ _ fun t ht0=>?_⟩;have ntD:t≠D:=fun z=>by rw[z,d2] at ht0;cases ht0
   refine⟨fun j m2 ys2 own2 H6=>m2=2 - j∧j≤2∧(∃ o3 o4,own2=[some (.int p.1),some (.int p.2),o3,o4])∧Same H1 H6∧H6 t=some (.tup [.int 0,.int 1])∧H6 D=some (.lst ys2)∧PlsV H6 ys2 (below (pl.take i)++(bel p).take (2*j)),
     ⟨2,rfl,by decide,⟨o3,o4,rfl⟩,s2.trans (Same.new ht0),a0d,by rw[a0m (Ne.symm ntD)];exact d2,by simpa using r2.same (Same.new ht0)⟩,?_⟩
   rintro j m2 ys2 own2 H6 ⟨rfl,hj,⟨o3',o4',rfl⟩,s6,t6,d6,r6⟩;by_cases hj2:j<2
   · refine .inr ⟨⟨_,_,SqT.of t6,c5j (by exact hj2)⟩,fun x2 H7 y2 ho2=>?_⟩;obtain⟨rfl,hy2⟩:=y2;have hx2:=hy2 _ (SqT.of t6);have ex2:x2=.int (j:Int):=by
       have hj3:j=0∨j=1:=by omega
       rcases hj3 with rfl | rfl
       · exact (c6e.inj hx2).symm
       · exact (c6e.inj hx2).symm
     subst ex2;refine⟨[some (.int p.1),some (.int p.2),some (.int (j:Int)),o4'],rfl,rfl,hw _ _ _ fun u hu0=>?_⟩;have nuD:u≠D:=fun z=>by rw[z,d6] at hu0;cases hu0
     have nut:u≠t:=fun z=>by rw[z,t6] at hu0;cases hu0
     refine⟨fun l m3 ys3 own4 H9=>m3=2 - l∧l≤2∧(∃ o4,own4=[some (.int p.1),some (.int p.2),some (.int (j:Int)),o4])∧Same H1 H9∧H9 t=some (.tup [.int 0,.int 1])∧H9 u=some (.tup [.int 0,.int 1])∧H9 D=some (.lst ys3)∧PlsV H9 ys3 (below (pl.take i)++(bel p).take (2*j+l)),
       ⟨2,rfl,by decide,⟨o4',rfl⟩,s6.trans (Same.new hu0),by rw[a0m (Ne.symm nut)];exact t6,a0d,by rw[a0m (Ne.symm nuD)];exact d6,r6.same (Same.new hu0)⟩,?_⟩
     rintro l m3 ys3 own4 H9 ⟨rfl,hl,⟨o4'',rfl⟩,s9,t9,u9,d9,r9⟩;by_cases hl2:l<2
     · refine .inr ⟨⟨_,_,SqT.of u9,c5j (by exact hl2)⟩,fun x3 H10 y3 ho3=>?_⟩;obtain⟨rfl,hy3⟩:=y3;have hx3:=hy3 _ (SqT.of u9);have ex3:x3=.int (l:Int):=by
         have hl3:l=0∨l=1:=by omega
         rcases hl3 with rfl | rfl
         · exact (c6e.inj hx3).symm
         · exact (c6e.inj hx3).symm
       subst ex3;refine⟨[some (.int p.1),some (.int p.2),some (.int (j:Int)),some (.int (l:Int))],rfl,rfl,ht p j l _ _ hmem fun q hq0=>?_⟩;have nqD:q≠D:=fun z=>by rw[z,d9] at hq0;cases hq0
       have nqt:q≠t:=fun z=>by rw[z,t9] at hq0;cases hq0
       have nqu:q≠u:=fun z=>by rw[z,u9] at hq0;cases hq0
       have ntD:t≠D:=fun z=>by rw[z,d9] at t9;cases t9
       have nuD:u≠D:=fun z=>by rw[z,d9] at u9;cases u9
       have hdq:(upd H10 q (.tup [.int (2*p.1+(j:Int)),.int (2*p.2+(l:Int))])) D=some (.lst ys3):=by rw[a0m (Ne.symm nqD)];exact d9
       have hy9:ys3.length≤4004:=by
         rw[r9.len,c5n,c6u];have:(bel p).length=4:=rfl;omega
       refine⟨hdq,a0o (by omega),2 - (l+1),by omega,rfl,by omega,⟨_,rfl⟩,fun c o e=>?_,?_,?_,a0d,?_⟩
       · rw[a0m (a0t e hD),a0m (fun z=>by rw[z] at e;have:=s9 _ _ e;rw[hq0] at this;cases this)];exact s9 _ _ e
       · rw[a0m ntD,a0m (Ne.symm nqt)];exact t9
       · rw[a0m nuD,a0m (Ne.symm nqu)];exact u9
       · have r10:PlsV (upd (upd H10 q (.tup [.int (2*p.1+(j:Int)),.int (2*p.2+(l:Int))])) D (.lst (ys3++[.ref q]))) ys3 (below (pl.take i)++(bel p).take (2*j+l)):=(r9.same (Same.new hq0)).tup (Tup.lst hdq);have:=b3n (p:=(2*p.1+(j:Int),2*p.2+(l:Int))) r10 (t:=q) (by rw[a0m nqD,a0d]);have e4:below (pl.take i)++(bel p).take (2*j+(l+1))=below (pl.take i)++(bel p).take (2*j+l)++[(2*p.1+(j:Int),2*p.2+(l:Int))]:=by
           rw[c6i];congr 1;have hj3:j=0∨j=1:=by omega
           have hl3:l=0∨l=1:=by omega
           rcases hj3 with rfl | rfl<;>rcases hl3 with rfl | rfl<;>simp[bel]
         rw[e4];exact this
     · have hl3:l=2:=by omega
       subst hl3;exact .inl ⟨⟨_,SqT.of u9,by show 2≤2;decide⟩,2 - (j+1),by omega,rfl,by omega,⟨_,_,rfl⟩,s9,t9,d9,by rw[show 2*(j+1)=2*j+2 by omega];exact r9⟩
   · have hj3:j=2:=by omega
     subst hj3;refine .inl ⟨⟨_,SqT.of t6,by show 2≤2;decide⟩,pl.length - (i+1),by omega,rfl,by omega,s6,d6,?_⟩;rw[eS,c0v];exact r6
 · have e:i=pl.length:=by omega
   subst e;rw[c9y] at r2;exact .inl ⟨⟨us,SqL.of (s2 _ _ hS),by omega⟩,hq D ys H2 hD s2 d2 r2⟩
section
variable {X:Cx} {pos:Pos} {o:Expr} {to:TE}
noncomputable def gFld(K:c5k)(to:TE)(f:Str):TG:=fun v σ H Q=>to σ H fun x H2=>∃ a C dx fs,x=.ref a∧H2 a=some (.ins C dx fs)∧Cls K C∧a2s K C f∧fs.length<1000∧Q σ (upd H2 a (.ins C dx (putF f v fs)))
theorem pg_fld{f:Str}(ho:PE X o to):PG X (.Attribute o f pos) (gFld X.K to f):=by
 intro pins s σ H v u Q I r h;refine wpAny_bind (wpAny_holding (thn (ho pins s σ H _ I h) fun ov s1 ⟨x,H1,I1,rx,a,C,dx,fs,ex,ea,c,n,l,q⟩=>?_));subst ex;obtain rfl:ov=Value.ref a:=rx;refine wpAny_bind (wpAny_standAt (wpAny_bind (wpAny_holding (b2m I1 ea c n l r fun s3 I3=>wpAny_release ⟨σ,_,I3,q⟩))))
theorem a8t{f:Str}(K:c5k)(ho:PEi X o to)(hK:X.K=K:=by rfl):PGi X (.Attribute o f pos) (gFld K to f):=by subst hK;with_unfolding_all exact pg_fld ho
end
noncomputable def grF(R:Int)(lx ly lo lt:Addr):List (Str×V):=putF "others" (.ref lt) (putF "ones" (.ref lo) (putF "y_bottoms" (.ref ly) (putF "x_bottoms" (.ref lx) (putF "room" (.int R) []))))
noncomputable def Ins(H H':Hp):Prop:=(∀ b xs,H b=some (.lst xs)→H' b=some (.lst xs))∧Tup H H'
theorem Ins.upd{H:Hp}{x C dx:Addr}{fs:List (Str×V)}{o:HO}(h:H x=some (.ins C dx fs)):Ins H (upd H x o):=
 ⟨fun b xs e=>by rw[a0m (fun z=>by rw[z,h] at e;cases e)];exact e,fun b xs e=>by rw[a0m (fun z=>by rw[z,h] at e;cases e)];exact e⟩
theorem Ins.trans{H H1 H2:Hp}(a:Ins H H1)(b:Ins H1 H2):Ins H H2:=⟨fun c xs e=>b.1 c xs (a.1 c xs e),a.2.trans b.2⟩
theorem Ins.same{H H':Hp}(s:Same H H'):Ins H H':=⟨fun b xs e=>s _ _ e,s.tup⟩
theorem AxV.ins{H H':Hp}{v:V}{n:Nat}{tops bs:List Int}(h:AxV H v n tops bs)(i:Ins H H'):AxV H' v n tops bs:=by
 obtain⟨a,lt,lb,e,h1,h2,h3,h4⟩:=h;exact⟨a,lt,lb,e,i.2 _ _ h1,i.1 _ _ h2,i.1 _ _ h3,h4⟩
noncomputable def ButX(x:Addr)(H H':Hp):Prop:=∀ b o,b≠x→H b=some o→H' b=some o
theorem ButX.same{x:Addr}{H H':Hp}(s:Same H H'):ButX x H H':=fun b o _ e=>s b o e
theorem ButX.upd{x:Addr}{H:Hp}{o:HO}:ButX x H (upd H x o):=fun b q hb e=>by rw[a0m hb];exact e
theorem ButX.trans{x:Addr}{H H1 H2:Hp}(a:ButX x H H1)(b:ButX x H1 H2):ButX x H H2:=fun c o hc e=>b c o hc (a c o hc e)
theorem ButX.back{x:Addr}{H H':Hp}{o:HO}(a:ButX x H H')(h:H x=some o):Same H (L2.upd H' x o):=fun b q e=>by
 by_cases z:b=x
 · subst z;rw[a0d];rw[← e,h]
 · rw[a0m z];exact a b q z e
theorem CsV.ins{H H':Hp}{D:Option Addr}{ys:List V}{css:List (List Pl)}(h:CsV H D ys css)(s:Ins H H'):CsV H' D ys css:=
 ⟨h.len,fun i v c e1 e2=>by obtain⟨l,us,r1,r2,r3,r4⟩:=h.get i v c e1 e2;exact⟨l,us,r1,r2,s.1 _ _ r3,r4.tup s.2⟩⟩
theorem ButX.free{x l:Addr}{H H':Hp}{o:HO}(a:ButX x H H')(hx:H' x=some o)(h:H' l=none):H l=none:=by
 cases e:H l with
 | none=>rfl
 | some q=>
   by_cases z:l=x
   · rw[z,hx] at h;cases h
   · rw[a l q z e] at h;cases h
theorem wc_take{R:Int}{t1 t2 b1 b2:List Int}{ps qs:List Pt}(h:toP (a1g b1*R) (a1g b2*R) (wcI R t1 t2)=ps++qs):toP (a1g b1*R) (a1g b2*R) ((wcI R t1 t2).take ps.length)=ps∧toP (a1g b1*R) (a1g b2*R) ((wcI R t1 t2).drop ps.length)=qs:=by
 unfold toP at *;rw[List.map_take,List.map_drop,h];simp
theorem plsdrop{H:Hp}{vs:List V}{pl:List Pl}(h:PlsV H vs pl)(n:Nat):PlsV H (vs.drop n) (pl.drop n):=by
 refine⟨by rw[c6n,c6n,h.len],fun i v p e1 e2=>?_⟩;rw[c8d] at e1 e2;exact h.get _ v p e1 e2
theorem c4t{H:Hp}{l:Addr}{us:List V}{c:List Pl}(h:H l=some (.lst us))(hP:PlsV H us c):CsV H none [.ref l] [c]:=⟨rfl,fun i v e e1 e2=>by
 cases i with
 | zero=>cases e1;cases e2;exact⟨l,us,rfl,(fun z=>by cases z),h,hP⟩
 | succ i=>simp at e1⟩
structure Grd(ps qs:List Pt)(KK m:Nat)(xb yb:List Int)(c1 c2:List Pl):Prop where
 w1:0<a1g xb
 w2:0<a1g yb
 bx:∀ b∈xb,0<b∧Sz 9000 b
 bY:∀ b∈yb,0<b∧Sz 9000 b
 lx:xb.length≤24
 ly:yb.length≤24
 p1:toP (a1g xb*2^KK) (a1g yb*2^KK) c1=ps
 p2:toP (a1g xb*2^KK) (a1g yb*2^KK) c2=qs
 d1:Dvs KK c1
 d2:Dvs KK c2
 z1:SzQ (m+(KK+1)) c1
 z2:SzQ (m+(KK+1)) c2
 zx:Sz 100 (a1g xb)
 zy:Sz 100 (a1g yb)
noncomputable def c1o(K:c5k)(C:Addr):Sp:=fun vs H Q _=>∃ (x a b dx:Addr) (us ws:List V) (ps qs:List Pt) (D:Int) (m L:Nat),vs=[.ref x,.ref a,.ref b,.int (L:Int)]∧H x=some (.ins C dx [])∧H a=some (.lst us)∧PtsV H us ps∧H b=some (.lst ws)∧PtsV H ws qs∧1≤ps.length∧ps.length≤12∧1≤qs.length∧qs.length≤12∧0<D∧Sz 100 D∧m≤200∧(∀ p∈ps++qs,OvP D m p)∧L≤6∧L*(max ps.length qs.length - 1)≤40∧
 ∀ (xb yb:List Int) (c1 c2:List Pl) (lx ly lo lt:Addr) (yo yt:List V) (H':Hp),Same H H'→H' lx=some (.lst (xb.map V.int))→H' ly=some (.lst (yb.map V.int))→H' lo=some (.lst yo)→CsV H' none yo [c1]→H' lt=some (.lst yt)→CsV H' none yt [c2]→Grd ps qs (L*(max ps.length qs.length - 1)) m xb yb c1 c2→H lo=none→H lt=none→Q .non (upd H' x (.ins C dx (grF (2^(L*(max ps.length qs.length - 1))) lx ly lo lt)))
theorem b9a(R:Int)(lx ly lo lt l:Addr):putF "ones" (.ref l) (grF R lx ly lo lt)=grF R lx ly l lt:=by
 first | rfl | kernel_rfl
theorem c0h(R:Int)(lx ly lo lt l:Addr):putF "others" (.ref l) (grF R lx ly lo lt)=grF R lx ly lo l:=by
 first | rfl | kernel_rfl
theorem c4g(R:Int)(lx ly lo lt:Addr):(grF R lx ly lo lt).length=5:=by
 first | rfl | kernel_rfl
theorem a9h(R:Int)(lx ly lo lt:Addr):(grF R lx ly lo lt).lookup (Str.ofString "ones")=some (.ref lo):=by
 unfold grF;rw[a0z,if_neg (by decide),a0z,if_pos rfl]
theorem a6z(R:Int)(lx ly lo lt:Addr):(grF R lx ly lo lt).lookup (Str.ofString "others")=some (.ref lt):=by
 unfold grF;rw[a0z,if_pos rfl]
theorem b5m(R:Int)(lx ly lo lt:Addr):(grF R lx ly lo lt).lookup (Str.ofString "room")=some (.int R):=by
 unfold grF;rw[a0z,if_neg (by decide),a0z,if_neg (by decide),a0z,if_neg (by decide),a0z,if_neg (by decide),a0z,if_pos rfl]
theorem c4i(R:Int)(lx ly lo lt:Addr):(grF R lx ly lo lt).lookup (Str.ofString "x_bottoms")=some (.ref lx):=by
 unfold grF;rw[a0z,if_neg (by decide),a0z,if_neg (by decide),a0z,if_neg (by decide),a0z,if_pos rfl]
theorem c4h(R:Int)(lx ly lo lt:Addr):(grF R lx ly lo lt).lookup (Str.ofString "y_bottoms")=some (.ref ly):=by
 unfold grF;rw[a0z,if_neg (by decide),a0z,if_neg (by decide),a0z,if_pos rfl]
noncomputable def c1p(K:c5k)(C:Addr):Sp:=fun vs H Q _=>∃ (g dx lx ly lo lt:Addr) (R:Int) (yo yt:List V) (As Bs:List (List Pl)),vs=[.ref g]∧H g=some (.ins C dx (grF R lx ly lo lt))∧H lo=some (.lst yo)∧CsV H none yo As∧H lt=some (.lst yt)∧CsV H none yt Bs∧As.length≤1000∧(∀ c∈As,c.length≤1000)∧Bs.length≤1000∧(∀ c∈Bs,c.length≤1000)∧
 ∀ (lo' lt':Addr) (yo' yt':List V) (H':Hp),Same H H'→H lo'=none→H lt'=none→H' lo'=some (.lst yo')→CsV H' none yo' (a1s As)→H' lt'=some (.lst yt')→CsV H' none yt' (a1s Bs)→Q .non (upd H' g (.ins C dx (grF R lx ly lo' lt')))
noncomputable def gC(css:List (List Pl))(i:Int):List Pl:=(css[i.toNat]?).getD []
noncomputable def Lined(X Y R:Int)(A B:List Pl)(q1 q2 q3:Rat):Prop:=∃ w p q:Pl,q1=((w.1*X:Int):Rat)∧q2=((w.2*Y:Int):Rat)∧q3=c5r (dt w p+dt w q) (2*R)∧p∈A∧q∈B∧dt w p<dt w q∧(∀ p'∈A,dt w p'≤dt w p)∧(∀ q'∈B,dt w q≤dt w q')
noncomputable def Meet(A B:List Pl):Prop:=∃ ss:List Stp,(∀ s∈ss,a7b A B s)∧b2z ss
structure ThV(H:Hp)(vs:List V)(tl:List Pl)(Ln:Pl→Rat→Rat→Rat→Prop):Prop where
 len:vs.length=tl.length
 get:∀ (i:Nat) (v:V) (p:Pl),vs[i]?=some v→tl[i]?=some p→∃ (t:Addr) (w1 w2 w3:V) (q1 q2 q3:Rat),v=.ref t∧H t=some (.tup [.int p.1,.int p.2,w1,w2,w3])∧ShV H w1 q1∧ShV H w2 q2∧ShV H w3 q3∧Ln p q1 q2 q3
theorem ThV.tup{H H':Hp}{vs:List V}{tl:List Pl}{Ln:Pl→Rat→Rat→Rat→Prop}(h:ThV H vs tl Ln)(s:Tup H H'):ThV H' vs tl Ln:=
 ⟨h.len,fun i v p e1 e2=>by obtain⟨t,w1,w2,w3,q1,q2,q3,r1,r2,r3,r4,r5,r6⟩:=h.get i v p e1 e2;exact⟨t,w1,w2,w3,q1,q2,q3,r1,s _ _ r2,r3.tup s,r4.tup s,r5.tup s,r6⟩⟩
theorem ThV.snoc{H:Hp}{vs:List V}{tl:List Pl}{Ln:Pl→Rat→Rat→Rat→Prop}{t:Addr}{p:Pl}{w1 w2 w3:V}{q1 q2 q3:Rat}(h:ThV H vs tl Ln)(ht:H t=some (.tup [.int p.1,.int p.2,w1,w2,w3]))(h1:ShV H w1 q1)(h2:ShV H w2 q2)(h3:ShV H w3 q3)(hl:Ln p q1 q2 q3):ThV H (vs++[.ref t]) (tl++[p]) Ln:=by
 refine⟨by simp[h.len],fun i v q e1 e2=>?_⟩;have hl':=h.len;by_cases hi:i<vs.length
 · rw[c5y hi] at e1;rw[c5y (by omega)] at e2;exact h.get i v q e1 e2
 · rw[c6d (by omega)] at e1 e2;rw[hl'] at e1;cases hz:i - tl.length with
   | zero=>rw[hz] at e1 e2;cases e1;cases e2;exact⟨t,w1,w2,w3,q1,q2,q3,rfl,ht,h1,h2,h3,hl⟩
   | succ k=>rw[hz] at e1;simp at e1
inductive Prt:List Pl→List Pl→List Pl→Prop
 | nil:Prt [] [] []
 | fst {l f t:List Pl} (p:Pl):Prt l f t→Prt (l++[p]) (f++[p]) t
 | snd {l f t:List Pl} (p:Pl):Prt l f t→Prt (l++[p]) f (t++[p])
theorem Prt.perm{l f t:List Pl}(h:Prt l f t):(f++t).Perm l:=by
 induction h with
 | nil=>exact c9p.refl _
 | fst p _ ih=>
   rw[c6i];exact (c9p.append_left _ List.perm_append_comm).trans (by rw[← c6i];exact ih.append_right [p])
 | snd p _ ih=>rw[← c6i];exact ih.append_right [p]
theorem Prt.sub{l f t:List Pl}(h:Prt l f t):f.Sublist l∧t.Sublist l:=by
 induction h with
 | nil=>exact⟨List.Sublist.refl _,List.Sublist.refl _⟩
 | fst p _ ih=>exact⟨ih.1.append (List.Sublist.refl _),ih.2.trans (List.sublist_append_left _ _)⟩
 | snd p _ ih=>exact⟨ih.1.trans (List.sublist_append_left _ _),ih.2.append (List.Sublist.refl _)⟩
theorem gC_at{H:Hp}{ys:List V}{css:List (List Pl)}{i:Int}(h:CsV H none ys css)(h0:0≤i)(h1:i<css.length):∃ (l:Addr) (us:List V),ys[i.toNat]?=some (.ref l)∧H l=some (.lst us)∧PlsV H us (gC css i)∧gC css i∈css:=by
 have hi:i.toNat<css.length:=by omega
 have e:css[i.toNat]?=some css[i.toNat]:=c5j hi;have eg:gC css i=css[i.toNat]:=by unfold gC;rw[e];rfl
 obtain⟨l,us,r1,r2,r3⟩:=h.at e;exact⟨l,us,r1,r2,by rw[eg];exact r3,by rw[eg];exact c6z hi⟩
noncomputable def LnOf(X Y R:Int)(As Bs:List (List Pl))(p:Pl)(q1 q2 q3:Rat):Prop:=Lined X Y R (gC As p.1) (gC Bs p.2) q1 q2 q3
inductive Told (M:Nat→Pl→Prop):Nat→List Pl→List (Nat×Pl)→Prop
 | zero {f t:List Pl}:Prt [((0:Int),(0:Int))] f t→(∀ p∈f,M 0 p)→(∀ p∈t,¬ M 0 p)→Told M 0 f (t.map (Prod.mk 0))
 | step {d:Nat} {f:List Pl} {tt:List (Nat×Pl)} {qs f' t':List Pl}:Told M d f tt→qs.Perm (below f)→qs.Pairwise lxP→Prt qs f' t'→(∀ p∈f',M (d+1) p)→(∀ p∈t',¬ M (d+1) p)→Told M (d+1) f' (tt++t'.map (Prod.mk (d+1)))
theorem Told.all{M:Nat→Pl→Prop}{d:Nat}{f:List Pl}{tt:List (Nat×Pl)}(h:Told M d f tt):∀ p∈f,M d p:=by
 cases h with
 | zero _ m _=>exact m
 | step _ _ _ _ m _=>exact m
theorem Told.nodup{M:Nat→Pl→Prop}{d:Nat}{f:List Pl}{tt:List (Nat×Pl)}(h:Told M d f tt):f.Nodup:=by
 induction h with
 | zero p _ _=>exact c6p.sublist p.sub.1 (by simp)
 | step _ hp _ p _ _ ih=>exact c6p.sublist p.sub.1 (hp.nodup_iff.mpr (b1t ih))
theorem Told.len{M:Nat→Pl→Prop}{d:Nat}{f:List Pl}{tt:List (Nat×Pl)}(h:Told M d f tt):f.length≤4^d:=by
 induction h with
 | zero p _ _=>exact p.sub.1.length_le
 | step _ hp _ p _ _ ih=>
   have h1:=p.sub.1.length_le;rw[hp.length_eq,a8h] at h1;rw[Nat.pow_succ];omega
noncomputable def InL(d:Nat)(p:Pl):Prop:=0≤p.1∧p.1<2^d∧0≤p.2∧p.2<2^d
theorem InL.below{d:Nat}{q:Pl}(h:InL d (q.1 / 2,q.2 / 2)):InL (d+1) q:=by
 obtain⟨a,b,c,e⟩:=h;have:(2:Int)^(d+1)=2*2^d:=by rw[Int.pow_succ,c8n]
 refine⟨?_,?_,?_,?_⟩<;>simp only at *<;>omega
theorem Told.ins{M:Nat→Pl→Prop}{d:Nat}{f:List Pl}{tt:List (Nat×Pl)}(h:Told M d f tt):(∀ p∈f,InL d p)∧∀ r∈tt,r.1≤d∧InL r.1 r.2:=by
 induction h with
 | zero p _ _=>
   have z:InL 0 ((0:Int),(0:Int)):=⟨by decide,by decide,by decide,by decide⟩
   refine⟨fun q hq=>?_,fun r hr=>?_⟩
   · rw[c6g.mp (p.sub.1.subset hq)];exact z
   · obtain⟨q,hq,rfl⟩:=c6h.mp hr;refine⟨c5v _,?_⟩;show InL 0 q;rw[c6g.mp (p.sub.2.subset hq)];exact z
 | step _ hp _ p _ _ ih=>
   have up:∀ q,q∈_→InL _ q:=fun q hq=>(ih.1 _ (b1u.mp (hp.subset hq))).below;refine⟨fun q hq=>up q (p.sub.1.subset hq),fun r hr=>?_⟩;rcases c6q.mp hr with hr | hr
   · exact⟨Nat.le_succ_of_le (ih.2 r hr).1,(ih.2 r hr).2⟩
   · obtain⟨q,hq,rfl⟩:=c6h.mp hr;exact⟨c5v _,up q (p.sub.2.subset hq)⟩
theorem a6y{X Y R:Int}{A B:List Pl}{q1 q2 q3:Rat}(h:Lined X Y R A B q1 q2 q3):¬ Meet A B:=by
 rintro⟨ss,ha,hh⟩;obtain⟨w,p,q,_,_,_,_,_,hlt,hA,hB⟩:=h;have pos:∀ s∈ss,0<dt w s.1:=fun s hs=>by
   obtain⟨i,j,a,b,e1,e2,rfl⟩:=ha s hs;have z1:=hA a (c5p e1);have z2:=hB b (c5p e2);unfold dt at *;simp only at *;grind
 rcases hh with⟨r,rfl,h1⟩ | ⟨r,f,rfl,h1,h2,h3⟩ | ⟨r,l,f,rfl,h1,h2,h3⟩
 · have:=pos r (by simp);rw[h1] at this;unfold dt at this;simp at this
 · have a:=pos r (by simp);have b:=pos f (by simp);have e:(r.1.1*r.1.1+r.1.2*r.1.2)*dt w f.1=dt w r.1*dt r.1 f.1:=by
     unfold cr at h1;unfold dt;grind
   have n1:=b4p r.1.1;have n2:=b4p r.1.2;have rp:0<r.1.1*r.1.1+r.1.2*r.1.2:=by
     rcases Int.lt_or_le 0 (r.1.1*r.1.1+r.1.2*r.1.2) with z | z
     · exact z
     · exfalso;have y1:r.1.1*r.1.1=0:=by omega
       have y2:r.1.2*r.1.2=0:=by omega
       exact h3 (Prod.ext ((c9c.mp y1).elim id id) ((c9c.mp y2).elim id id))
   have c1:=c7q rp b;rw[e] at c1;have:=a7g a c1;omega
 · have a:=pos r (by simp);have b:=pos l (by simp);have c:=pos f (by simp);have e:cr r.1 l.1*dt w f.1=cr f.1 l.1*dt w r.1+cr r.1 f.1*dt w l.1:=by
     unfold cr dt;grind
   have c1:=c7q h1 c;have c2:=c8p (show 0≤- cr f.1 l.1 by omega) (c9n a);have c3:=c8p (show 0≤- cr r.1 f.1 by omega) (c9n b);rw[Int.neg_mul] at c2 c3;omega
structure TdV(H:Hp)(vs:List V)(tt:List (Nat×Pl))(Ln:Nat→Pl→Rat→Rat→Rat→Prop):Prop where
 len:vs.length=tt.length
 get:∀ (i:Nat) (v:V) (r:Nat×Pl),vs[i]?=some v→tt[i]?=some r→∃ (t:Addr) (w1 w2 w3:V) (q1 q2 q3:Rat),v=.ref t∧H t=some (.tup [.int (r.1:Int),.int r.2.1,.int r.2.2,w1,w2,w3])∧ShV H w1 q1∧ShV H w2 q2∧ShV H w3 q3∧Ln r.1 r.2 q1 q2 q3
theorem TdV.tup{H H':Hp}{vs:List V}{tt:List (Nat×Pl)}{Ln:Nat→Pl→Rat→Rat→Rat→Prop}(h:TdV H vs tt Ln)(s:Tup H H'):TdV H' vs tt Ln:=
 ⟨h.len,fun i v p e1 e2=>by obtain⟨t,w1,w2,w3,q1,q2,q3,r1,r2,r3,r4,r5,r6⟩:=h.get i v p e1 e2;exact⟨t,w1,w2,w3,q1,q2,q3,r1,s _ _ r2,r3.tup s,r4.tup s,r5.tup s,r6⟩⟩
theorem TdV.append{H:Hp}{vs ws:List V}{tt ss:List (Nat×Pl)}{Ln:Nat→Pl→Rat→Rat→Rat→Prop}(h:TdV H vs tt Ln)(k:TdV H ws ss Ln):TdV H (vs++ws) (tt++ss) Ln:=by
 have hl:=h.len;refine⟨by rw[c5n,c5n,hl,k.len],fun i v r e1 e2=>?_⟩;by_cases hi:i<vs.length
 · rw[c5y hi] at e1;rw[c5y (by omega)] at e2;exact h.get i v r e1 e2
 · rw[c6d (by omega)] at e1 e2;rw[hl] at e1;exact k.get _ v r e1 e2
noncomputable def c5g(c1 c2:List Pl)(d:Nat)(p:Pl):Prop:=Meet (gC (lvI c1 d) p.1) (gC (lvI c2 d) p.2)
noncomputable def LineL(X Y R:Int)(c1 c2:List Pl)(d:Nat)(p:Pl)(q1 q2 q3:Rat):Prop:=LnOf X Y R (lvI c1 d) (lvI c2 d) p q1 q2 q3
theorem b4y{J:It}{te:TE}{cs:L2.St}{Q:VK}{H1:Hp}{d:Nat}{vh:List V}{tl:List Pl}{Ln:Nat→Pl→Rat→Rat→Rat→Prop}{f:Nat→V}(hJ:a9j J H1 vh.length f)(hf:∀ i v,vh[i]?=some v→f i=v)(hT:ThV H1 vh tl (Ln d))(hn:tl.length≤1000)(he:∀ (t:Addr) (xs:List V) (H2:Hp) (k:VK),H2 t=some (.tup xs)→xs≠[]→xs.length≤6→(∀ c H3,Same H2 H3→H3 c=some (.tup (.int (d:Int)::xs))→k (.ref c) H3)→te (some (.ref t)::cs) H2 k)(hq:∀ D ys H2,H1 D=none→Same H1 H2→H2 D=some (.lst ys)→TdV H2 ys (tl.map (Prod.mk d)) Ln→Q (.ref D) H2):a4o 1 J H1 (a3u 0) te cs Q:=by
 have hl:=hT.len;refine b5w hJ (by omega) (fun i v H=>∀ p,tl[i]?=some p→∃ (t:Addr) (w1 w2 w3:V) (q1 q2 q3:Rat),v=.ref t∧H t=some (.tup [.int (d:Int),.int p.1,.int p.2,w1,w2,w3])∧ShV H w1 q1∧ShV H w2 q2∧ShV H w3 q3∧Ln d p q1 q2 q3) (fun i v H H' s h p e=>?_) (fun i H2 k hi s2 hk=>?_) (fun D ys H2 hD s2 hd hy hr=>?_)
 · obtain⟨t,w1,w2,w3,q1,q2,q3,r1,r2,r3,r4,r5,r6⟩:=h p e;exact⟨t,w1,w2,w3,q1,q2,q3,r1,s _ _ r2,r3.tup s,r4.tup s,r5.tup s,r6⟩
 · have e1:vh[i]?=some vh[i]:=c5j hi;have e2:tl[i]?=some (tl[i]'(by omega (config:={}))):=c5j (by omega);obtain⟨t,w1,w2,w3,q1,q2,q3,r1,r2,r3,r4,r5,r6⟩:=hT.get i _ _ e1 e2;rw[hf i _ e1,r1];refine he t _ H2 k (s2 _ _ r2) (by simp) (by simp) (fun c H3 s3 hc=>hk _ _ s3 (fun p hp=>?_));rw[e2] at hp;cases hp;exact⟨c,w1,w2,w3,q1,q2,q3,rfl,hc,(r3.same s2).same s3,(r4.same s2).same s3,(r5.same s2).same s3,r6⟩
 · refine hq D ys H2 hD s2 hd ⟨by rw[c5l];omega,fun i v r e1 e2=>?_⟩;rw[c5t] at e2;cases hz:tl[i]? with
   | none=>rw[hz] at e2;cases e2
   | some p=>
     rw[hz] at e2;cases e2;exact hr i v e1 p hz
theorem cs_ne{H:Hp}{ys vh:List V}{css:List (List Pl)}{ld:Addr}{tt:List (Nat×Pl)}{Ln:Nat→Pl→Rat→Rat→Rat→Prop}(h:CsV H none ys css)(h1:∀ c∈css,1≤c.length)(hd:H ld=some (.lst vh))(hT:TdV H vh tt Ln):CsV H (some ld) ys css:=by
 refine⟨h.len,fun i v c e1 e2=>?_⟩;obtain⟨l,us,r1,_,r3,r4⟩:=h.get i v c e1 e2;refine⟨l,us,r1,fun z=>?_,r3,r4⟩;cases z;rw[hd] at r3;cases r3;have hc:=h1 c (c5p e2);have hl:=r4.len;have hl2:=hT.len;have a1:vh[0]?=some (vh[0]'(by omega (config:={}))):=c5j (by omega);have a2:c[0]?=some (c[0]'(by omega (config:={}))):=c5j (by omega);have a3:tt[0]?=some (tt[0]'(by omega (config:={}))):=c5j (by omega);obtain⟨t,w1,w2,w3,_,_,_,b1,b2,_⟩:=hT.get 0 _ _ a1 a3;obtain⟨b,c1,c2⟩:=r4.get 0 _ _ a1 a2;rw[b1] at c1;cases c1;rw[b2] at c2;simp at c2
theorem c0i(R:Int)(lx ly lo lt:Addr):(grF R lx ly lo lt).lookup (Str.ofString "go_down")=none:=by
 unfold grF;rw[a0z,if_neg (by decide),a0z,if_neg (by decide),a0z,if_neg (by decide),a0z,if_neg (by decide),a0z,if_neg (by decide)];rfl
noncomputable def lvP(ps:List Pt):Nat→List (List Pt)
 | 0=>[ps]
 | d+1=>(lvP ps d).flatMap fun c=>[a6l (1 / 2) c,b1c (1 / 2) c]
theorem b2v{dx dy:Int}{M:Nat}:∀ css:List (List Pl),(∀ c∈css,Dvs M c∧c.length≤M+1)→(a1s css).map (toP dx dy)=(css.map (toP dx dy)).flatMap fun c=>[a6l (1 / 2) c,b1c (1 / 2) c]
 | [],_=>rfl
 | c::r,h=>by
   have ih:=b2v (dx:=dx) (dy:=dy) r fun e he=>h e (c6w _ he);obtain⟨a,b⟩:=h c (by simp);show (toP dx dy (fhI c))::(toP dx dy (lhI c))::(a1s r).map (toP dx dy)=_;rw[ih,c4l a b,c3k a b];rfl
theorem c3h{dx dy:Int}{ps:List Pt}{n L:Nat}{c:List Pl}(h1:1≤ps.length)(hc:toP dx dy c=ps)(hz:SzQ n c)(hd:Dvs (L*(ps.length - 1)) c):∀ d,d≤L→(lvI c d).map (toP dx dy)=lvP ps d
 | 0,_=>by show [toP dx dy c]=[ps];rw[hc]
 | d+1,h=>by
   have ih:=c3h h1 hc hz hd d (by omega);have O:=b8s h1 hc hz L d (by omega) hd;have hm:ps.length - 1≤(L - d)*(ps.length - 1):=Nat.le_mul_of_pos_left _ (by omega);show (a1s (lvI c d)).map (toP dx dy)=(lvP ps d).flatMap _;rw[← ih];exact b2v (M:=(L - d)*(ps.length - 1)) _ fun e he=>⟨O.dv e he,by rw[O.len e he];omega⟩
theorem a9x{α:Type}(f:α→Nat)(c:Nat):∀ l:List α,(∀ x∈l,f x=c)→(l.map f).sum=l.length*c
 | [],_=>by simp
 | x::r,h=>by rw[c8m,c7u,a9x f c r fun y hy=>h y (c6w _ hy),h x (by simp),c6y,d0t];omega
structure WcOf(ps qs:List Pt)(L:Nat)(X Y R:Int)(c1 c2:List Pl):Prop where
 x:0<X
 y:0<Y
 r:0<R
 p1:toP (X*R) (Y*R) c1=ps
 p2:toP (X*R) (Y*R) c2=qs
 d1:Dvs (L*(max ps.length qs.length - 1)) c1
 d2:Dvs (L*(max ps.length qs.length - 1)) c2
 z:∃ n,SzQ n c1∧SzQ n c2
noncomputable def gP(css:List (List Pt))(i:Int):List Pt:=(css[i.toNat]?).getD []
noncomputable def NoLn(ps qs:List Pt):Prop:=∀ q1 q2 q3,¬ b7k ps qs q1 q2 q3
noncomputable def MQ(ps qs:List Pt)(d:Nat)(p:Pl):Prop:=NoLn (gP (lvP ps d) p.1) (gP (lvP qs d) p.2)
theorem b7o{dx dy:Int}{As:List (List Pl)}{css:List (List Pt)}(e:As.map (toP dx dy)=css)(i:Int):toP dx dy (gC As i)=gP css i:=by
 subst e;unfold gC gP;rw[c5t];cases As[i.toNat]? with
 | none=>rfl
 | some a=>rfl
theorem c3g(w:Pl):∀ A:List Pl,A≠[]→∃ p∈A,∀ p'∈A,dt w p'≤dt w p
 | [a],_=>⟨a,by simp,fun p' hp=>by rw[c6g.mp hp];exact Int.le_refl _⟩
 | a::b::r,_=>by
   obtain⟨p,hp,h⟩:=c3g w (b::r) (by simp);by_cases hc:dt w p≤dt w a
   · refine⟨a,by simp,fun p' hp'=>?_⟩;rcases c6f.mp hp' with rfl | z
     · exact Int.le_refl _
     · exact Int.le_trans (h p' z) hc
   · refine⟨p,c6w _ hp,fun p' hp'=>?_⟩;rcases c6f.mp hp' with rfl | z
     · omega
     · exact h p' z
theorem dt_neg(w p:Pl):dt (-w.1,-w.2) p=- dt w p:=by unfold dt;simp only;grind
theorem min_dt(w:Pl)(A:List Pl)(h:A≠[]):∃ p∈A,∀ p'∈A,dt w p≤dt w p':=by
 obtain⟨p,hp,h⟩:=c3g (-w.1,-w.2) A h;refine⟨p,hp,fun p' hp'=>?_⟩;have:=h p' hp';rw[dt_neg,dt_neg] at this;omega
theorem meet_ne{A B:List Pl}(h:Meet A B):A≠[]∧B≠[]:=by
 obtain⟨ss,ha,hh⟩:=h;have:∃ s,s∈ss:=by
   rcases hh with⟨r,rfl,_⟩ | ⟨r,f,rfl,_⟩ | ⟨r,l,f,rfl,_⟩
   · exact⟨r,by simp⟩
   · exact⟨r,by simp⟩
   · exact⟨r,by simp⟩
 obtain⟨s,hs⟩:=this;obtain⟨i,j,p,q,e1,e2,_⟩:=ha s hs;exact⟨fun z=>by rw[z] at e1;simp at e1,fun z=>by rw[z] at e2;simp at e2⟩
theorem c1b(a b:Rat){X Y:Int}(hX:0<X)(hY:0<Y):∃ (w:Pl) (k:Rat),0<k∧∀ P:Pl,(a*c5r P.1 X+b*c5r P.2 Y)*k=((dt w P:Int):Rat):=by
 refine⟨(a.num*(b.den:Int)*Y,b.num*(a.den:Int)*X),((a.den:Int):Rat)*((b.den:Int):Rat)*(X:Rat)*(Y:Rat),?_,fun P=>?_⟩
 · have h1:(0:Rat)<((a.den:Int):Rat):=by exact_mod_cast a.den_pos
   have h2:(0:Rat)<((b.den:Int):Rat):=by exact_mod_cast b.den_pos
   have h3:(0:Rat)<(X:Rat):=by exact_mod_cast hX
   have h4:(0:Rat)<(Y:Rat):=by exact_mod_cast hY
   exact d1d (d1d (d1d h1 h2) h3) h4
 · have e1:=a2t (x:=P.1) hX;have e2:=a2t (x:=P.2) hY;have ea:a*((a.den:Int):Rat)=(a.num:Rat):=(a3q a).symm;have eb:b*((b.den:Int):Rat)=(b.num:Rat):=(a3q b).symm;unfold dt;rw[c8i,c6b,c6b,c6b,c6b,c6b,c6b,← ea,← eb,← e1,← e2];grind
theorem c3c{X Y:Int}(hX:0<X)(hY:0<Y){A B:List Pl}(h:Meet A B):NoLn (toP X Y A) (toP X Y B):=by
 intro q1 q2 q3 hq;obtain⟨nA,nB⟩:=meet_ne h;obtain⟨w,k,k0,hk⟩:=c1b q1 q2 hX hY;obtain⟨p,hp,hmx⟩:=c3g w A nA;obtain⟨q,hq',hmn⟩:=min_dt w B nB;refine a6y (X:=1) (Y:=1) (R:=1) ⟨w,p,q,rfl,rfl,rfl,hp,hq',?_,hmx,hmn⟩ h;have h1:=hq.lo _ (c6h.mpr ⟨p,hp,rfl⟩);have h2:=hq.hi _ (c6h.mpr ⟨q,hq',rfl⟩);have h3:=Rat.mul_lt_mul_of_pos_right (show q1*c5r p.1 X+q2*c5r p.2 Y<q1*c5r q.1 X+q2*c5r q.2 Y by grind) k0;rw[hk,hk] at h3
 exact_mod_cast h3
theorem c0g{X Y R:Int}(hX:0<X)(hY:0<Y)(hR:0<R){A B:List Pl}{q1 q2 q3:Rat}(h:Lined X Y R A B q1 q2 q3):b7k (toP (X*R) (Y*R) A) (toP (X*R) (Y*R) B) q1 q2 q3:=by
 obtain⟨w,p,q,rfl,rfl,rfl,hp,hq,hlt,hmx,hmn⟩:=h;have R0:(0:Rat)<(R:Rat):=by exact_mod_cast hR
 have key:∀ P:Pl,(((w.1*X:Int):Rat)*c5r P.1 (X*R)+((w.2*Y:Int):Rat)*c5r P.2 (Y*R))*(R:Rat)=((dt w P:Int):Rat):=fun P=>by
   have e1:=a2t (x:=P.1) (c7q hX hR);have e2:=a2t (x:=P.2) (c7q hY hR);unfold dt;rw[c8i,c6b,c6b,c6b,c6b,← e1,← e2,c6b,c6b];grind
 have e3:c5r (dt w p+dt w q) (2*R)*(2*(R:Rat))=((dt w p+dt w q:Int):Rat):=by
   have:=a2t (x:=dt w p+dt w q) (X:=2*R) (by omega);rw[c6b] at this;exact this
 have fin:∀ (z:Rat) (m:Int),z*(R:Rat)=(m:Rat)→(2*m<dt w p+dt w q→z<c5r (dt w p+dt w q) (2*R))∧(dt w p+dt w q<2*m→c5r (dt w p+dt w q) (2*R)<z):=fun z m hz=>by
   have h2R:(0:Rat)<2*(R:Rat):=by grind
   have hz2:z*(2*(R:Rat))=((2*m:Int):Rat):=by rw[c6b,← hz];grind
   refine⟨fun h=>?_,fun h=>?_⟩
   · have h':((2*m:Int):Rat)<((dt w p+dt w q:Int):Rat):=by exact_mod_cast h
     rw[← hz2,← e3] at h';exact Rat.lt_of_mul_lt_mul_right h' (Rat.le_of_lt h2R)
   · have h':((dt w p+dt w q:Int):Rat)<((2*m:Int):Rat):=by exact_mod_cast h
     rw[← hz2,← e3] at h';exact Rat.lt_of_mul_lt_mul_right h' (Rat.le_of_lt h2R)
 refine⟨fun x hx=>?_,fun x hx=>?_⟩
 · obtain⟨P,hP,rfl⟩:=c6h.mp hx;exact (fin _ _ (key P)).1 (by have:=hmx P hP;omega)
 · obtain⟨P,hP,rfl⟩:=c6h.mp hx;exact (fin _ _ (key P)).2 (by have:=hmn P hP;omega)
theorem WcOf.lv{ps qs:List Pt}{L:Nat}{X Y R:Int}{c1 c2:List Pl}(h1:1≤ps.length)(h2:1≤qs.length)(h:WcOf ps qs L X Y R c1 c2){e:Nat}(he:e≤L):(lvI c1 e).map (toP (X*R) (Y*R))=lvP ps e∧(lvI c2 e).map (toP (X*R) (Y*R))=lvP qs e:=by
 obtain⟨n,z1,z2⟩:=h.z;have m1:L*(ps.length - 1)≤L*(max ps.length qs.length - 1):=c9i _ (by omega);have m2:L*(qs.length - 1)≤L*(max ps.length qs.length - 1):=c9i _ (by omega);exact⟨c3h h1 h.p1 z1 (h.d1.mono m1) e he,c3h h2 h.p2 z2 (h.d2.mono m2) e he⟩
theorem WcOf.line{ps qs:List Pt}{L:Nat}{X Y R:Int}{c1 c2:List Pl}(h1:1≤ps.length)(h2:1≤qs.length)(h:WcOf ps qs L X Y R c1 c2){e:Nat}(he:e≤L){p:Pl}{q1 q2 q3:Rat}(hl:LineL X Y R c1 c2 e p q1 q2 q3):b7k (gP (lvP ps e) p.1) (gP (lvP qs e) p.2) q1 q2 q3:=by
 obtain⟨a,b⟩:=h.lv h1 h2 he;rw[← b7o a,← b7o b];exact c0g h.x h.y h.r hl
theorem WcOf.mq{ps qs:List Pt}{L:Nat}{X Y R:Int}{c1 c2:List Pl}(h1:1≤ps.length)(h2:1≤qs.length)(h:WcOf ps qs L X Y R c1 c2){e:Nat}(he:e≤L){p:Pl}(hm:c5g c1 c2 e p):MQ ps qs e p:=by
 obtain⟨a,b⟩:=h.lv h1 h2 he;unfold MQ;rw[← b7o a,← b7o b];exact c3c (c7q h.x h.r) (c7q h.y h.r) hm
theorem Told.conv{M M':Nat→Pl→Prop}{d:Nat}{f:List Pl}{tt:List (Nat×Pl)}(h:Told M d f tt)(hM:∀ e,e≤d→∀ p,M e p→M' e p)(hT:∀ r∈tt,¬ M' r.1 r.2):Told M' d f tt:=by
 induction h with
 | @zero f t p m n=>exact .zero p (fun q hq=>hM 0 (c5v _) q (m q hq)) fun q hq=>hT (0,q) (c6h.mpr ⟨q,hq,rfl⟩)
 | @step d f tt qs f' t' h hp hs p m n ih=>
   refine .step (ih (fun e he=>hM e (by omega)) fun r hr=>hT r (c6q.mpr (.inl hr))) hp hs p (fun q hq=>hM _ (c5v _) q (m q hq)) fun q hq=>hT (d+1,q) (c6q.mpr (.inr (c6h.mpr ⟨q,hq,rfl⟩)))
noncomputable def LnQ(ps qs:List Pt)(d:Nat)(p:Pl)(q1 q2 q3:Rat):Prop:=b7k (gP (lvP ps d) p.1) (gP (lvP qs d) p.2) q1 q2 q3
theorem TdV.ln{H:Hp}{vs:List V}{tt:List (Nat×Pl)}{Ln Ln':Nat→Pl→Rat→Rat→Rat→Prop}(h:TdV H vs tt Ln)(k:∀ r∈tt,∀ q1 q2 q3,Ln r.1 r.2 q1 q2 q3→Ln' r.1 r.2 q1 q2 q3):TdV H vs tt Ln':=
 ⟨h.len,fun i v r e1 e2=>by
   obtain⟨t,w1,w2,w3,q1,q2,q3,r1,r2,r3,r4,r5,r6⟩:=h.get i v r e1 e2;exact⟨t,w1,w2,w3,q1,q2,q3,r1,r2,r3,r4,r5,k r (c5p e2) q1 q2 q3 r6⟩⟩
theorem TdV.ex{H:Hp}{vs:List V}{tt:List (Nat×Pl)}{Ln:Nat→Pl→Rat→Rat→Rat→Prop}(h:TdV H vs tt Ln):∀ r∈tt,∃ q1 q2 q3,Ln r.1 r.2 q1 q2 q3:=fun r hr=>by
 obtain⟨i,hi,e⟩:=c6k hr;have hl:=h.len;obtain⟨t,w1,w2,w3,q1,q2,q3,_,_,_,_,_,r6⟩:=h.get i _ r (c5j (by omega)) (by rw[c5j hi,e]);exact⟨q1,q2,q3,r6⟩
end Cv
namespace Cv
noncomputable def ovr(Px Py:Int)(p:Pl):Pt:=(c5r p.1 Px,c5r p.2 Py)
noncomputable def gq(l:List Pt)(i:Nat):Pt:=l.getD i (0,0)
theorem b9b{l:List Pt}{i:Nat}(h:i<l.length):l[i]?=some (gq l i):=by
 unfold gq;rw[c6j,c5j h];rfl
theorem gq_mem{l:List Pt}{i:Nat}(h:i<l.length):gq l i∈l:=c5p (b9b h)
end Cv
namespace Cv
open PySem PySem.Spec PyProof.Rows L2
theorem b8n{q:Rat}{B:Int}(hB:0<B)(h:(q.den:Int)∣B):q=c5r (q.num*(B / (q.den:Int))) B:=by
 obtain⟨c,rfl⟩:=h;have hd:(q.den:Int)≠0:=by have:=q.den_pos;omega
 rw[c7n _ hd];have hc:c≠0:=fun z=>by rw[z] at hB;simp at hB
 have hc':(c:Rat)≠0:=by exact_mod_cast hc
 have hd':((q.den:Int):Rat)≠0:=by exact_mod_cast hd
 have e:=a3q q;rw[c9e,c6b,c6b];grind
theorem b3v(B:Int)(q:Rat):B.fdiv (q.den:Int)=B / (q.den:Int):=c7f B (by omega)
theorem div_sz{B:Int}{q:Rat}{n:Nat}(hB:0<B)(z:Sz n B):Sz n (B / (q.den:Int)):=z.le (by
 have h1:=Int.ediv_le_self (q.den:Int) (c9n hB);have h2:=Int.ediv_nonneg (c9n hB) (show (0:Int)≤q.den by omega);omega)
noncomputable def whP(B:Int)(p:Pt):Pl:=(p.1.num*(B / (p.1.den:Int)),p.2.num*(B / (p.2.den:Int)))
theorem b3b{B:Int}{p:Pt}(hB:0<B)(h1:(p.1.den:Int)∣B)(h2:(p.2.den:Int)∣B):ovr B B (whP B p)=p:=Prod.ext (b8n hB h1).symm (b8n hB h2).symm
theorem c3m{b d B:Int}(hb:0<b)(hd:0<d)(h1:b∣B)(h2:d∣B):0<b.fdiv (c6o b d:Int)*d∧b∣b.fdiv (c6o b d:Int)*d∧d∣b.fdiv (c6o b d:Int)*d∧b.fdiv (c6o b d:Int)*d∣B:=by
 obtain⟨_,a2,a3,a4,⟨y,hy⟩⟩:=b8u hd h1 h2;obtain⟨x,hx⟩ : (c6o b d:Int)∣b:=Int.gcd_dvd_left ..;generalize (c6o b d:Int)=g at *;have ex:b.fdiv g=x:=by rw[c7f _ (by omega),hx,c7n _ (by omega)]
 have ey:d.fdiv g=y:=by rw[c7f _ (by omega),hy,c7n _ (by omega)]
 have e:b.fdiv g*d=b*d.fdiv g:=by rw[ex,ey,hx,hy];grind
 rw[e];refine⟨c7q hb a3,⟨_,rfl⟩,?_,a2⟩;rw[← e];exact⟨_,c8n ..⟩
noncomputable def sclI(m:Int)(c:List Pl):List Pl:=c.map fun p=>(p.1*m,p.2*m)
noncomputable def smN(c:List Pl):List Pl:=c8v (fun p q=>(p.1+q.1,p.2+q.2)) c (c.drop 1)
noncomputable def srow(c:List Pl):Nat→List Pl
 | 0=>c
 | r+1=>smN (srow c r)
theorem c1w(c:List Pl):(smN c).length=c.length - 1:=by unfold smN;rw[c8r,c6n];omega
theorem a3k(c:List Pl):∀ r,(srow c r).length=c.length - r
 | 0=>rfl
 | r+1=>by show (smN (srow c r)).length=_;rw[c1w,a3k c r];omega
theorem hv_scl(m:Int)(c:List Pl):hvN (sclI (2*m) c)=sclI m (smN c):=by
 unfold hvN sclI smN;rw[← List.map_drop,List.zipWith_map,List.map_zipWith];refine congrArg (fun f=>c8v f c (c.drop 1)) ?_;funext p q;refine Prod.ext ?_ ?_
 · show (p.1*(2*m)+q.1*(2*m)) / 2=(p.1+q.1)*m;rw[show p.1*(2*m)+q.1*(2*m)=2*((p.1+q.1)*m) by grind];omega
 · show (p.2*(2*m)+q.2*(2*m)) / 2=(p.2+q.2)*m;rw[show p.2*(2*m)+q.2*(2*m)=2*((p.2+q.2)*m) by grind];omega
theorem b8x(c:List Pl)(n:Nat):∀ r,r≤n→hrow (sclI (2^n) c) r=sclI (2^(n - r)) (srow c r)
 | 0,_=>rfl
 | r+1,h=>by
   show hvN (hrow (sclI (2^n) c) r)=sclI _ (smN (srow c r));rw[b8x c n r (by omega),show n - r=(n - (r+1))+1 by omega,Int.pow_succ,c8n,hv_scl]
theorem scl_get(m:Int)(c:List Pl)(i:Nat):((sclI m c)[i]?).getD (0,0)=(((c[i]?).getD (0,0)).1*m,((c[i]?).getD (0,0)).2*m):=by
 unfold sclI;rw[c5t];cases c[i]? with
 | none=>simp
 | some p=>rfl
theorem c2a{dx dy m:Int}(hm:m≠0)(c:List Pl):toP (dx*m) (dy*m) (sclI m c)=toP dx dy c:=by
 unfold toP sclI;rw[d0b];refine c7x fun p _=>?_;show (c5r (p.1*m) (dx*m),c5r (p.2*m) (dy*m))=_;rw[d0v hm,d0v hm]
theorem c2b(n:Nat)(c:List Pl):Dvs n (sclI (2^n) c):=fun p hp=>by
 obtain⟨q,_,rfl⟩:=c6h.mp hp;exact⟨Int.dvd_mul_left ..,Int.dvd_mul_left ..⟩
theorem a8n(m:Int)(c:List Pl):(sclI m c).length=c.length:=by unfold sclI;rw[c5l]
theorem b8g{n k:Nat}{c:List Pl}(h:SzQ n c):SzQ (n+(k+1)) (sclI (2^k) c):=fun p hp=>by
 obtain⟨q,hq,rfl⟩:=c6h.mp hp;exact⟨(h q hq).1.mul (a4j k),(h q hq).2.mul (a4j k)⟩
noncomputable def fhL(c:List Pl):List Pl:=fhI (sclI (2^(c.length - 1)) c)
noncomputable def lhL(c:List Pl):List Pl:=lhI (sclI (2^(c.length - 1)) c)
theorem fhL_len(c:List Pl):(fhL c).length=c.length:=by unfold fhL;rw[c4m,a8n]
theorem lhL_len(c:List Pl):(lhL c).length=c.length:=by unfold lhL;rw[c3l,a8n]
theorem fhL_toP{b:Int}(c:List Pl):toP (b*2^(c.length - 1)) (b*2^(c.length - 1)) (fhL c)=a6l (1 / 2) (toP b b c):=by
 unfold fhL;rw[c4l (c2b _ c) (by rw[a8n];omega),c2a (Int.ne_of_gt (a5y _))]
theorem lhL_toP{b:Int}(c:List Pl):toP (b*2^(c.length - 1)) (b*2^(c.length - 1)) (lhL c)=b1c (1 / 2) (toP b b c):=by
 unfold lhL;rw[c3k (c2b _ c) (by rw[a8n];omega),c2a (Int.ne_of_gt (a5y _))]
theorem fhL_sz{n:Nat}{c:List Pl}(h:SzQ n c):SzQ (n+c.length+1) (fhL c):=fh_sz fun p hp=>⟨(b8g h p hp).1.mono (by omega),(b8g h p hp).2.mono (by omega)⟩
theorem lhL_sz{n:Nat}{c:List Pl}(h:SzQ n c):SzQ (n+c.length+1) (lhL c):=lh_sz fun p hp=>⟨(b8g h p hp).1.mono (by omega),(b8g h p hp).2.mono (by omega)⟩
noncomputable def a5l(css:List (List Pl)):List (List Pl):=css.flatMap fun c=>[fhL c,lhL c]
noncomputable def lvL(c:List Pl):Nat→List (List Pl)
 | 0=>[c]
 | d+1=>a5l (lvL c d)
theorem b1g{b:Int}{n:Nat}:∀ css:List (List Pl),(∀ c∈css,c.length=n)→(a5l css).map (toP (b*2^(n - 1)) (b*2^(n - 1)))=(css.map (toP b b)).flatMap fun c=>[a6l (1 / 2) c,b1c (1 / 2) c]
 | [],_=>rfl
 | c::r,h=>by
   have ih:=b1g (b:=b) r fun e he=>h e (c6w _ he);have hc:=h c (by simp);show (toP _ _ (fhL c))::(toP _ _ (lhL c))::(a5l r).map _=_;rw[ih,← hc,fhL_toP,lhL_toP];rfl
structure LvL(b:Int)(ps:List Pt)(m d:Nat)(css:List (List Pl)):Prop where
 eq:css.map (toP (b*2^(d*(ps.length - 1))) (b*2^(d*(ps.length - 1))))=lvP ps d
 len:∀ c∈css,c.length=ps.length
 sz:∀ c∈css,SzQ (m+d*(ps.length+1)) c
 n:css.length=2^d
theorem LvL.step{b:Int}{ps:List Pt}{m d:Nat}{css:List (List Pl)}(h:LvL b ps m d css):LvL b ps m (d+1) (a5l css):=by
 refine⟨?_,fun c hc=>?_,fun c hc=>?_,?_⟩
 · rw[show (d+1)*(ps.length - 1)=d*(ps.length - 1)+(ps.length - 1) by rw[d0t],Int.pow_add,← c9r,b1g css h.len,h.eq];rfl
 · obtain⟨e,he,hc⟩:=c9x.mp hc;simp only[c6f,c6r,or_false] at hc;rcases hc with rfl | rfl
   · rw[fhL_len];exact h.len e he
   · rw[lhL_len];exact h.len e he
 · obtain⟨e,he,hc⟩:=c9x.mp hc;simp only[c6f,c6r,or_false] at hc;have hl:=h.len e he;have e1:m+(d+1)*(ps.length+1)=m+d*(ps.length+1)+e.length+1:=by rw[d0t,hl];omega
   rw[e1];rcases hc with rfl | rfl
   · exact fhL_sz (h.sz e he)
   · exact lhL_sz (h.sz e he)
 · unfold a5l;rw[List.length_flatMap];exact (a9x _ 2 _ fun _ _=>rfl).trans (by rw[h.n,Nat.pow_succ])
theorem LvL.all{b:Int}{ps:List Pt}{m:Nat}{c:List Pl}(hc:toP b b c=ps)(hz:SzQ m c):∀ d,LvL b ps m d (lvL c d)
 | 0=>⟨by show [toP _ _ c]=[ps];rw[Nat.zero_mul,Int.pow_zero,d0m,hc],fun e he=>by rw[c6g.mp he,← hc,a3r],fun e he=>by rw[c6g.mp he,Nat.zero_mul];exact hz,rfl⟩
 | d+1=>(LvL.all hc hz d).step
theorem c1j{n:Nat}{c:List Pl}(h:SzQ n c):∀ r,SzQ (n+r) (srow c r)
 | 0=>h
 | r+1=>fun z hz=>by
   have ih:=c1j h r;obtain⟨i,hi,e⟩:=c6k hz;have hz':(smN (srow c r))[i]?=some z:=by rw[← e];exact c5j hi
   unfold smN at hz';rw[c8h] at hz';cases h1:(srow c r)[i]? with
   | none=>rw[h1] at hz';simp at hz'
   | some p=>
     cases h2:((srow c r).drop 1)[i]? with
     | none=>rw[h1,h2] at hz';simp at hz'
     | some q=>
       rw[h1,h2] at hz';simp only[c6e.injEq] at hz';subst hz';have a:=ih p (c5p h1);have b:=ih q (c7l (c5p h2));exact⟨(a.1.add b.1).mono (by omega),(a.2.add b.2).mono (by omega)⟩
theorem smN_get{c:List Pl}{i:Nat}{p q:Pl}(h1:c[i]?=some p)(h2:c[i+1]?=some q):(smN c)[i]?=some (p.1+q.1,p.2+q.2):=by
 unfold smN;rw[c8h,h1,c8d,Nat.add_comm 1 i,h2]
noncomputable def hroL(c:List Pl)(r i:Nat):Pl:=((hrow (sclI (2^(c.length - 1)) c) r)[i]?).getD (0,0)
theorem c4b(c:List Pl)(r i:Nat)(h:r≤c.length - 1):hroL c r i=(((srow c r)[i]?.getD (0,0)).1*2^(c.length - 1 - r),((srow c r)[i]?.getD (0,0)).2*2^(c.length - 1 - r)):=by
 unfold hroL;rw[b8x c _ r h,scl_get]
theorem fhL_eq(c:List Pl):(c7s c.length).map (fun r=>hroL c r 0)=fhL c:=by
 unfold fhL fhI hroL;rw[a8n]
theorem lhL_eq(c:List Pl):((c7s c.length).map fun r=>hroL c r (c.length - 1 - r)).reverse=lhL c:=by
 have:=lh_rev (sclI (2^(c.length - 1)) c);rw[a8n] at this;exact this
theorem pls_last{H:Hp}{rs:List V}{c:List Pl}(h:PlsV H rs c)(h1:1≤c.length):∃ v,rs[rs.length - 1]?=some v∧RwV H v ((c[c.length - 1]?).getD (0,0)).1 ((c[c.length - 1]?).getD (0,0)).2:=by
 have hl:=h.len;have e1:rs[rs.length - 1]?=some (rs[rs.length - 1]'(by omega (config:={}))):=c5j _;have e2:c[rs.length - 1]?=some (c[rs.length - 1]'(by omega (config:={}))):=c5j _;refine⟨_,e1,?_⟩;rw[← hl,e2];exact h.get _ _ _ e1 e2
section
variable {X:Cx}
theorem pe_compN{tg elt iter:Expr}{os:List Str}{pos:Pos}{scope:Scope}{wi:TI}{g:TG}{te:TE}{caps:List (Nat×Str)}(hi:PI X tg iter wi)(hg:∀ cl C s0 H0 fp,PG (a0n X scope cl (os++caps.map (·.2)) C s0 H0 fp) tg g)(he:∀ cl C s0 H0 fp,PE (a0n X scope cl (os++caps.map (·.2)) C s0 H0 fp) elt te)(ok:a5i X.N X.env.scope scope caps=true)(hc:X.calm=true:=by rfl)(hfs:∀ v,foldedSetIterable iter X.env v=pure v:=by intro _;rfl) :
 PE X (.ListComp elt [⟨tg,iter,[],0⟩] scope pos) (a7o os.length wi g te (caps.map (·.1))):=b8m X.N X.env.scope hi hg he ok rfl rfl hc hfs
theorem c2j{tg elt iter:Expr}{os:List Str}{pos:Pos}{scope:Scope}{wi:TI}{g:TG}{te:TE}{caps:List (Nat×Str)}(hi:PIi X tg iter wi)(hg:∀ cl C s0 H0 fp,PGi (a0n X scope cl (os++caps.map (·.2)) C s0 H0 fp) tg g)(he:∀ cl C s0 H0 fp,PEi (a0n X scope cl (os++caps.map (·.2)) C s0 H0 fp) elt te)(ok:a5i X.N X.env.scope scope caps=true)(hc:X.calm=true:=by rfl)(hfs:∀ v,foldedSetIterable iter X.env v=pure v:=by intro _;rfl) :
 PEi X (.ListComp elt [⟨tg,iter,[],0⟩] scope pos) (a7o os.length wi g te (caps.map (·.1))):=by with_unfolding_all exact pe_compN (hi:=hi) (hg:=hg) (he:=he) (ok:=ok) (hc:=hc) (hfs:=hfs)
end
noncomputable def b7v(K:c5k):Sp:=fun vs H Q _=>∃ (a:Addr) (ws:List V) (ps:List Pt) (B:Int) (m:Nat),vs=[.ref a]∧H a=some (.lst ws)∧PtsV H ws ps∧0<B∧Sz 60 B∧m≤2000∧(∀ p∈ps,OvP B m p)∧ps.length≤100∧
 ∀ (t l:Addr) (us:List V) (c:List Pl) (b:Int) (H':Hp),Same H H'→H' t=some (.tup [.int b,.ref l])→H l=none→H' l=some (.lst us)→PlsV H' us c→0<b→b∣B→toP b b c=ps→SzQ m c→Q (.ref t) H'
noncomputable def b4r(K:c5k):Sp:=fun vs H Q _=>∃ (a:Addr) (ws:List V) (c:List Pl) (n:Nat),vs=[.ref a]∧H a=some (.lst ws)∧PlsV H ws c∧1≤c.length∧c.length≤12∧SzQ n c∧n≤2000∧
 ∀ (r l1 l2:Addr) (u1 u2:List V) (H':Hp),Same H H'→H' r=some (.lst [.ref l1,.ref l2])→H r=none→H l1=none→H l2=none→H' l1=some (.lst u1)→H' l2=some (.lst u2)→PlsV H' u1 (fhL c)→PlsV H' u2 (lhL c)→Q (.ref r) H'
noncomputable def spLStr(K:c5k):Sp:=fun vs H Q _=>∃ (a:Addr) (ws:List V) (ps:List Pt) (B:Int) (m L:Nat),vs=[.ref a,.int (L:Int)]∧H a=some (.lst ws)∧PtsV H ws ps∧0<B∧Sz 60 B∧m≤300∧(∀ p∈ps,OvP B m p)∧1≤ps.length∧ps.length≤12∧L≤6∧L*(ps.length+1)≤100∧
 ∀ (D:Addr) (ys:List V) (H':Hp),Same H H'→H D=none→H' D=some (.lst ys)→ys.length=2^L→(∀ (i:Nat) v,ys[i]?=some v→∃ l xs,v=.ref l∧H l=none∧H' l=some (.lst xs)∧PtsV H' xs (gP (lvP ps L) i))→Q (.ref D) H'
theorem cut3d_ne{xs:List V}(h:xs.length=6):¬ (HT.sIx xs.length 0 (some 3)=0∧HT.sIx xs.length xs.length none=xs.length):=by rw[h];decide
noncomputable def BdL(q1 q2 q3:Rat):Prop:=Bd 1100 q1∧Bd 1100 q2∧Bd 1100 q3
noncomputable def LnOfB(X Y R:Int)(As Bs:List (List Pl))(p:Pl)(q1 q2 q3:Rat):Prop:=LnOf X Y R As Bs p q1 q2 q3∧BdL q1 q2 q3
noncomputable def b9m(X Y R:Int)(c1 c2:List Pl)(d:Nat)(p:Pl)(q1 q2 q3:Rat):Prop:=LnOfB X Y R (lvI c1 d) (lvI c2 d) p q1 q2 q3
theorem ThV.notB{H:Hp}{vs:List V}{tl:List Pl}{X Y R:Int}{As Bs:List (List Pl)}(h:ThV H vs tl (LnOfB X Y R As Bs)):∀ p∈tl,¬ Meet (gC As p.1) (gC Bs p.2):=fun p hp=>by
 obtain⟨i,hi,e⟩:=c6k hp;have hl:=h.len;obtain⟨_,_,_,_,_,_,_,_,_,_,_,_,l⟩:=h.get i vs[i] p (c5j (by omega)) (by rw[c5j hi,e]);exact a6y l.1
theorem line_bd{n:Nat}{w p q:Pl}{X Y R:Int}{A B:List Pl}(zw:SzW (n+2) w)(hn:n≤500)(zX:Sz 500 X)(zY:Sz 500 Y)(zR:Sz 41 R)(R0:0<R)(zA:SzQ n A)(zB:SzQ n B)(hp:p∈A)(hq:q∈B):BdL ((w.1*X:Int):Rat) ((w.2*Y:Int):Rat) (c5r (dt w p+dt w q) (2*R)):=by
 have a:=dt_sz zw (zA p hp).1 (zA p hp).2;have b:=dt_sz zw (zB q hq).1 (zB q hq).2;have z2:Sz 2 (2:Int):=⟨by decide⟩
 refine⟨(b9k (zw.1.mul zX) (by omega)).mono (by omega),(b9k (zw.2.mul zY) (by omega)).mono (by omega),(Bd.of (a.add b) (z2.mul zR) (by omega)).mono (by omega)⟩
noncomputable def b4q(K:c5k)(C:Addr):Sp:=fun vs H Q _=>∃ (g a dx lx ly lo lt:Addr) (R:Int) (xb yb:List Int) (yo yt us:List V) (As Bs:List (List Pl)) (pl:List Pl) (n:Nat),vs=[.ref g,.ref a]∧H g=some (.ins C dx (grF R lx ly lo lt))∧H lx=some (.lst (xb.map V.int))∧H ly=some (.lst (yb.map V.int))∧H lo=some (.lst yo)∧CsV H none yo As∧H lt=some (.lst yt)∧CsV H none yt Bs∧
 (∀ b∈xb,0<b∧Sz 9000 b)∧(∀ b∈yb,0<b∧Sz 9000 b)∧xb.length≤24∧yb.length≤24∧Sz 500 (a1g xb)∧Sz 500 (a1g yb)∧0<R∧Sz 41 R∧(∀ c∈As,1≤c.length∧c.length≤12∧SzQ n c)∧(∀ c∈Bs,1≤c.length∧c.length≤12∧SzQ n c)∧1≤n∧n≤500∧
 H a=some (.lst us)∧PlsV H us pl∧pl.length≤256∧(∀ p∈pl,0≤p.1∧p.1<As.length∧0≤p.2∧p.2<Bs.length)∧
 ∀ (c lf lh:Addr) (vf vh:List V) (fl tl:List Pl) (H':Hp),Same H H'→H' c=some (.tup [.ref lf,.ref lh])→H lf=none→H lh=none→H' lf=some (.lst vf)→H' lh=some (.lst vh)→PlsV H' vf fl→ThV H' vh tl (LnOfB (a1g xb) (a1g yb) R As Bs)→Prt pl fl tl→(∀ p∈fl,Meet (gC As p.1) (gC Bs p.2))→Q (.ref c) H'
noncomputable def LnQB(ps qs:List Pt)(d:Nat)(p:Pl)(q1 q2 q3:Rat):Prop:=LnQ ps qs d p q1 q2 q3∧BdL q1 q2 q3
noncomputable def b7y(K:c5k):Sp:=fun vs H Q _=>∃ (a b:Addr) (us ws:List V) (ps qs:List Pt) (D:Int) (m L:Nat),vs=[.ref a,.ref b,.int (L:Int)]∧H a=some (.lst us)∧PtsV H us ps∧H b=some (.lst ws)∧PtsV H ws qs∧1≤ps.length∧ps.length≤12∧1≤qs.length∧qs.length≤12∧0<D∧Sz 100 D∧m≤200∧(∀ p∈ps++qs,OvP D m p)∧L≤3∧L*(max ps.length qs.length - 1)≤40∧
 ∀ (c lf lh:Addr) (vf vh:List V) (fl:List Pl) (tt:List (Nat×Pl)) (H':Hp),Same H H'→H' c=some (.tup [.ref lf,.ref lh])→H lf=none→H lh=none→H' lf=some (.lst vf)→H' lh=some (.lst vh)→lf≠lh→PlsV H' vf fl→TdV H' vh tt (LnQB ps qs)→Told (MQ ps qs) L fl tt→Q (.ref c) H'
theorem toldB{ps qs:List Pt}{L:Nat}{X Y R:Int}{c1 c2 f:List Pl}{tt:List (Nat×Pl)}{H:Hp}{vh:List V}(h1:1≤ps.length)(h2:1≤qs.length)(h:WcOf ps qs L X Y R c1 c2)(hT:TdV H vh tt (b9m X Y R c1 c2))(t:Told (c5g c1 c2) L f tt):TdV H vh tt (LnQB ps qs)∧Told (MQ ps qs) L f tt:=by
 have a:TdV H vh tt (LnQB ps qs):=hT.ln fun r hr q1 q2 q3 hl=>⟨h.line h1 h2 (t.ins.2 r hr).1 hl.1,hl.2⟩
 refine⟨a,t.conv (fun e he p hm=>h.mq h1 h2 he hm) fun r hr hm=>?_⟩;obtain⟨q1,q2,q3,hl⟩:=a.ex r hr;exact hm q1 q2 q3 hl.1
theorem compF{J:It}{H1:Hp}{te:TE}{cs:L2.St}{Q:VK}{n:Nat}{f:Nat→V}(hJ:a9j J H1 n f)(hn:n≤100000)(R:Addr→Nat→V→Hp→Prop)(hR:∀ D i v H H',ButX D H H'→Tup H H'→R D i v H→R D i v H')(he:∀ D i H2 (k:VK),i<n→Same H1 H2→(∃ ys,H2 D=some (.lst ys))→(∀ v H3,Same H2 H3→R D i v H3→k v H3)→te (some (f i)::cs) H2 k)(hq:∀ D ys H2,H1 D=none→Same H1 H2→H2 D=some (.lst ys)→ys.length=n→(∀ i v,ys[i]?=some v→R D i v H2)→Q (.ref D) H2) :
   a4o 1 J H1 (a3u 0) te cs Q:=by
 intro D hD;refine⟨fun i m ys H2=>m=n - i∧i≤n∧ys.length=i∧Same H1 H2∧H2 D=some (.lst ys)∧∀ j v,ys[j]?=some v→R D j v H2,⟨n,by simp,c7c _,rfl,Same.new hD,a0d,fun j v e=>by simp at e⟩,?_⟩;rintro i m ys H2 ⟨rfl,hi,hl,s2,d2,r2⟩;by_cases hlt:i<n
 · refine .inr ⟨((hJ H2 s2 i).1 hlt).1,fun x H' y own ho=>?_⟩;obtain⟨rfl,rfl⟩:=((hJ H2 s2 i).1 hlt).2 x H' y;cases own with
   | nil=>cases ho
   | cons o1 r=>
     cases r with
     | cons _ _=>cases ho
     | nil=>
       refine⟨⟨[some (f i)],rfl,rfl⟩,he D i _ _ hlt s2 ⟨ys,d2⟩ fun v H3 s3 r3=>⟨s3 _ _ d2,a0o (by omega),n - (i+1),by omega,rfl,hlt,by rw[c5n,hl];rfl,fun b o e=>?_,a0d,fun j w e=>?_⟩⟩
       · rw[a0m (a0t e hD)];exact s3 _ _ (s2 _ _ e)
       · have t3:Tup H3 (upd H3 D (.lst (ys++[v]))):=Tup.lst (s3 _ _ d2);have x3:ButX D H3 (upd H3 D (.lst (ys++[v]))):=ButX.upd;rcases a7q e with⟨hj,e⟩ | ⟨hj,e⟩
         · exact hR _ _ _ _ _ ((ButX.same s3).trans x3) ((L2.Same.tup s3).trans t3) (r2 j w e)
         · subst e;rw[hj,hl];exact hR _ _ _ _ _ x3 t3 r3
 · have e:i=n:=by omega
   subst e;exact .inl ⟨(hJ H2 s2 i).2 rfl,hq D ys H2 hD s2 d2 hl r2⟩
noncomputable def LvV(D:Option Addr)(ps:List Pt)(k:Nat)(v:V)(H:Hp):Prop:=∃ l ys,v=.ref l∧some l≠D∧H l=some (.lst ys)∧ys.length=2^k∧∀ (i:Nat) w,ys[i]?=some w→∃ l2 xs,w=.ref l2∧some l2≠D∧H l2=some (.lst xs)∧PtsV H xs (gP (lvP ps k) i)
theorem LvV.but{D:Addr}{ps:List Pt}{k:Nat}{v:V}{H H':Hp}(b:ButX D H H')(t:Tup H H')(h:LvV (some D) ps k v H):LvV (some D) ps k v H':=by
 obtain⟨l,ys,r1,r2,r3,r4,r5⟩:=h;refine⟨l,ys,r1,r2,b _ _ (fun z=>r2 (by rw[z])) r3,r4,fun i w e=>?_⟩;obtain⟨l2,xs,q1,q2,q3,q4⟩:=r5 i w e;exact⟨l2,xs,q1,q2,b _ _ (fun z=>q2 (by rw[z])) q3,q4.tup t⟩
theorem LvV.same{D:Option Addr}{ps:List Pt}{k:Nat}{v:V}{H H':Hp}(h:LvV D ps k v H)(s:Same H H'):LvV D ps k v H':=by
 obtain⟨l,ys,r1,r2,r3,r4,r5⟩:=h;refine⟨l,ys,r1,r2,s _ _ r3,r4,fun i w e=>?_⟩;obtain⟨l2,xs,q1,q2,q3,q4⟩:=r5 i w e;exact⟨l2,xs,q1,q2,s _ _ q3,q4.same s⟩
theorem LvV.at{D:Option Addr}{ps:List Pt}{k:Nat}{v:V}{H:Hp}(h:LvV D ps k v H){i:Int}(h0:0≤i)(h1:i<2^k):∃ l ys l2 xs,v=.ref l∧H l=some (.lst ys)∧ys[i.toNat]?=some (.ref l2)∧H l2=some (.lst xs)∧PtsV H xs (gP (lvP ps k) i):=by
 obtain⟨l,ys,r1,_,r3,r4,r5⟩:=h;have e2:(2:Int)^k=((2^k:Nat):Int):=by rw[Int.natCast_pow];rfl
 have e:ys[i.toNat]?=some (ys[i.toNat]'(by omega (config:={}))):=c5j _;obtain⟨l2,xs,q1,_,q3,q4⟩:=r5 _ _ e;rw[show ((i.toNat:Nat):Int)=i by omega] at q4;exact⟨l,ys,l2,xs,r1,r3,by rw[e,q1],q3,q4⟩
theorem ov_upL{D:Int}{n j:Nat}{x:Rat}(h:Ov D n x):Ov (D*2^j) (n+(j+1)) x:=by
 obtain⟨m,e,z⟩:=h;refine⟨m*2^j,?_,z.mul (a4j j)⟩;rw[c6b,c6b,← e];grind
theorem toP_ov{D:Int}{n:Nat}(hD:0<D){c:List Pl}(z:SzQ n c):∀ p∈toP D D c,OvP D n p:=fun p hp=>by
 obtain⟨q,hq,rfl⟩:=c6h.mp hp;exact⟨⟨q.1,a2t hD,(z q hq).1⟩,⟨q.2,a2t hD,(z q hq).2⟩⟩
theorem lv_ov{ps:List Pt}{B:Int}{m M d:Nat}(hB:0<B)(ho:∀ p∈ps,OvP B m p)(hM:ps.length≤M)(i:Int):∀ p∈gP (lvP ps d) i,OvP (B*2^(d*(M - 1))) (m+d*(ps.length+1)+(d*(M - 1)+1)) p:=fun p hp=>by
 have e:toP B B (ps.map (whP B))=ps:=by
   unfold toP;rw[d0b];exact (c7x fun q hq=>b3b hB (a4k (ho q hq).1) (a4k (ho q hq).2)).trans (List.map_id _)
 have z:SzQ m (ps.map (whP B)):=fun x hx=>by
   obtain⟨q,hq,rfl⟩:=c6h.mp hx;have h:=ho q hq;rw[← b3b hB (a4k h.1) (a4k h.2)] at h;exact⟨b0h hB hB (Int.dvd_refl _) h.1,b0h hB hB (Int.dvd_refl _) h.2⟩
 have L:=LvL.all e z d;rw[← L.eq] at hp;unfold gP at hp;rw[c5t] at hp;cases hc:(lvL (ps.map (whP B)) d)[i.toNat]? with
 | none=>rw[hc] at hp;simp at hp
 | some c=>
   rw[hc] at hp;have hm:=c5p hc;have o:=toP_ov (c7q hB (a5y _)) (L.sz c hm) p hp;have ej:d*(M - 1)=d*(ps.length - 1)+d*(M - ps.length):=by
     rcases Nat.eq_zero_or_pos ps.length with h0 | h0
     · have:c=[]:=List.length_eq_zero_iff.mp ((L.len c hm).trans h0);subst this;simp[toP] at hp
     · rw[← Nat.mul_add];congr 1;omega
   rw[ej,Int.pow_add,← c9r];exact⟨(ov_upL o.1).mono (by omega),(ov_upL o.2).mono (by omega)⟩
theorem lv_len{ps:List Pt}:∀ d,(lvP ps d).length=2^d∧∀ c∈lvP ps d,c.length=ps.length
 | 0=>⟨rfl,fun c hc=>by rw[c6g.mp hc]⟩
 | d+1=>by
   obtain⟨a,b⟩:=lv_len (ps:=ps) d;refine⟨?_,fun c hc=>?_⟩
   · show ((lvP ps d).flatMap _).length=_;rw[List.length_flatMap];exact (a9x _ 2 _ fun _ _=>rfl).trans (by rw[a,Nat.pow_succ])
   · obtain⟨e,he,hc⟩:=c9x.mp hc;simp only[c6f,c6r,or_false] at hc;rcases hc with rfl | rfl
     · rw[c0n];exact b e he
     · rw[c3o];exact b e he
theorem gP_len{ps:List Pt}{d:Nat}{i:Int}(h0:0≤i)(h1:i<2^d):(gP (lvP ps d) i).length=ps.length:=by
 obtain⟨a,b⟩:=lv_len (ps:=ps) d;have e2:(2:Int)^d=((2^d:Nat):Int):=by rw[Int.natCast_pow];rfl
 have e:(lvP ps d)[i.toNat]?=some ((lvP ps d)[i.toNat]'(by omega (config:={}))):=c5j _;unfold gP;rw[e];exact b _ (c6z _)
structure He(D E:Ends):Prop where
 nx:∀ σ H,D.nx σ H→E.nx σ H
 rt:∀ v H,D.rt v H→E.rt v H
 bk:∀ σ H,D.bk σ H→E.bk σ H
 ct:∀ σ H,D.ct σ H→E.ct σ H
structure Hq(F Q:VK):Prop where
 of:∀ v H,F v H→Q v H
structure Hb(F Q:Bool→Hp→Prop):Prop where
 of:∀ v H,F v H→Q v H
section
variable {a b:TS} {te:TE} {c:TT} {g:TG} {D E:Ends} {σ:L2.St} {H:Hp} {F Q:VK} {v:V} {G P:Bool→Hp→Prop} {z:Bool}
theorem hSeq(h:∀ E,He { D with nx:=b D } E→a E σ H):tSeq a b D σ H:=h _ ⟨fun _ _ h=>h,fun _ _ h=>h,fun _ _ h=>h,fun _ _ h=>h⟩
theorem hAsg(h:∀ Q,Hq (fun x H1=>g x σ H1 D.nx) Q→te σ H Q):tAsg te g D σ H:=h _ ⟨fun _ _ h=>h⟩
theorem hDrop(h:∀ Q,Hq (fun _ H1=>D.nx σ H1) Q→te σ H Q):tDrop te D σ H:=h _ ⟨fun _ _ h=>h⟩
theorem hIf(h:∀ Q,Hb (fun z H1=>if z=true then a D σ H1 else b D σ H1) Q→c σ H Q):tIfS c a b D σ H:=h _ ⟨fun _ _ h=>h⟩
theorem uNx(e:He D E)(h:D.nx σ H):E.nx σ H:=e.nx _ _ h
theorem uRt(e:He D E)(h:D.rt v H):E.rt v H:=e.rt _ _ h
theorem uBk(e:He D E)(h:D.bk σ H):E.bk σ H:=e.bk _ _ h
theorem uCt(e:He D E)(h:D.ct σ H):E.ct σ H:=e.ct _ _ h
theorem uQ(e:Hq F Q)(h:F v H):Q v H:=e.of _ _ h
theorem uB(e:Hb G P)(h:G z H):P z H:=e.of _ _ h
end
end Cv
set_option maxHeartbeats 4000000
namespace Cv
open PySem L2
local macro_rules | `(tactic| walk_at "hf") => `(tactic| first
 | assumption
 | exact a0d
 | (refine a3e (by assumption) ?_;walk_at "hf")
 | (refine (by assumption:L2.Same _ _) _ _ ?_;walk_at "hf")
 | fail)
local macro_rules | `(tactic| walk_at "sm") => `(tactic| first
 | assumption
 | exact L2.Same.refl _
 | (refine L2.Same.trans ?_ (by assumption:L2.Same _ _);walk_at "sm")
 | (refine L2.Same.trans ?_ (Same.new (by assumption));walk_at "sm")
 | fail)
local macro_rules | `(tactic| walk_at "mv") => `(tactic| first
 | assumption
 | (refine ShV.same ?_ (by assumption:L2.Same _ _);walk_at "mv")
 | (refine ShV.same ?_ (Same.new (by assumption));walk_at "mv")
 | (refine PtV.same ?_ (by assumption:L2.Same _ _);walk_at "mv")
 | (refine PtV.same ?_ (Same.new (by assumption));walk_at "mv")
 | (refine RwV.same ?_ (by assumption:L2.Same _ _);walk_at "mv")
 | (refine RwV.same ?_ (Same.new (by assumption));walk_at "mv")
 | (refine RwQ.same ?_ (by assumption:L2.Same _ _);walk_at "mv")
 | (refine RwQ.same ?_ (Same.new (by assumption));walk_at "mv")
 | (refine MpV.same ?_ (by assumption:L2.Same _ _);walk_at "mv")
 | (refine MpV.same ?_ (Same.new (by assumption));walk_at "mv")
 | (refine PtsV.same ?_ (by assumption:L2.Same _ _);walk_at "mv")
 | (refine PtsV.same ?_ (Same.new (by assumption));walk_at "mv")
 | (refine AxV.same ?_ (by assumption:L2.Same _ _);walk_at "mv")
 | (refine AxV.same ?_ (Same.new (by assumption));walk_at "mv")
 | (refine ShL.same ?_ (by assumption:L2.Same _ _);walk_at "mv")
 | (refine ShL.same ?_ (Same.new (by assumption));walk_at "mv")
 | (refine SqL.same' ?_ (by assumption:L2.Same _ _);walk_at "mv")
 | (refine SqL.same' ?_ (Same.new (by assumption));walk_at "mv")
 | fail)
local macro_rules | `(tactic| walk_at "sq") => `(tactic| first
 | exact SqT.of (by walk_at "hf")
 | exact SqL.of (by walk_at "hf")
 | walk_at "mv"
 | fail)
local macro_rules | `(tactic| walk_at "at") => `(tactic| first
 | rfl
 | assumption
 | exact c5b _ _ (by omega) (by omega)
 | fail)
local macro_rules | `(tactic| walk_at "sz") => `(tactic| first
 | assumption
 | exact Bd.num (by assumption)
 | exact Bd.den (by assumption)
 | exact Sz.one
 | exact Sz.mul (by walk_at "sz") (by walk_at "sz")
 | exact Sz.add (by walk_at "sz") (by walk_at "sz")
 | exact Sz.sub (by walk_at "sz") (by walk_at "sz")
 | exact Sz.neg (by walk_at "sz")
 | fail)
local macro_rules | `(tactic| walk_at "bdx") => `(tactic| first
 | assumption
 | exact Bd.zero'
 | exact Bd.one'
 | exact Bd.add (by walk_at "bdx") (by walk_at "bdx")
 | exact Bd.sub (by walk_at "bdx") (by walk_at "bdx")
 | exact Bd.mul (by walk_at "bdx") (by walk_at "bdx")
 | fail)
local macro_rules | `(tactic| walk_at "bd") => `(tactic| exact Bd.mono (by walk_at "bdx") (by decide))
local macro_rules | `(tactic| walk_at "szm") => `(tactic| exact Sz.mono (by walk_at "sz") (by decide))
local macro_rules | `(tactic| walk_at "arith") => `(tactic| first
 | exact pos30
 | exact pl
 | exact⟨by decide,by decide⟩
 | exact⟨by decide,by decide,by decide⟩
 | exact mulL (by decide) (by decide)
 | exact mulR (by decide) (by decide)
 | exact mulR (by omega) (by omega)
 | exact mulL (by omega) (by omega)
 | exact mulB (by walk_at "sz") (by walk_at "sz")
 | fail)
local macro_rules | `(tactic| walk_at "len") => `(tactic| first
 | (show 2≤sizeLine;decide)
 | (show 0≤sizeLine;decide)
 | (show 1≤sizeLine;decide)
 | (show 3≤sizeLine;decide)
 | (show 4≤sizeLine;decide)
 | (show 5≤sizeLine;decide)
 | (show 6≤sizeLine;decide)
 | (show 8≤sizeLine;decide)
 | fail)
local macro_rules | `(tactic| walk_at "r1") => `(tactic| first
 | refine⟨_,_,rfl,rfl,by walk_at "arith",?_⟩
 | refine⟨_,_,rfl,rfl,?_⟩
 | refine⟨_,_,_,_,rfl,rfl,by walk_at "sq",by walk_at "at",?_⟩
 | refine⟨_,rfl,?_⟩
 | refine⟨rfl,?_⟩
 | refine⟨_,_,rfl,.inr (SqT.of (by walk_at "hf")),?_⟩
 | refine⟨_,_,rfl,.inl (SqL.of (by walk_at "hf")),?_⟩
 | refine⟨_,"tuple",_,_,rfl,TyOf.tup (by walk_at "hf"),c3p _,?_⟩
 | refine⟨_,"list",_,_,rfl,TyOf.lst (by walk_at "hf"),kit_ll _,?_⟩
 | refine⟨_,"int",_,_,rfl,TyOf.int _,c3q _,?_⟩
 | refine⟨_,"bool",_,_,rfl,TyOf.int _,c3r _,?_⟩
 | refine⟨_,"bool",_,_,rfl,TyOf.bl _,kit_bb _,?_⟩
 | refine⟨by walk_at "len",?_⟩
 | refine⟨by decide,?_⟩
 | fail)
local macro_rules | `(tactic| walk_at "rd") => `(tactic| repeat walk_at "r1")
local macro_rules | `(tactic| walk_at "fr") => `(tactic| first
 | assumption
 | (refine L2.Same.free (by assumption:L2.Same _ _) ?_;walk_at "fr")
 | (refine L2.Same.free (Same.new (by assumption)) ?_;walk_at "fr")
 | fail)
local macro_rules | `(tactic| walk_at "tk") => `(tactic| first
 | assumption
 | fail)
local macro_rules | `(tactic| walk_at "mv") => `(tactic| first
 | assumption
 | (refine ShK.same ?_ (by assumption:L2.Same _ _);walk_at "mv")
 | (refine ShK.same ?_ (Same.new (by assumption));walk_at "mv")
 | (refine PtK.same ?_ (by assumption:L2.Same _ _);walk_at "mv")
 | (refine PtK.same ?_ (Same.new (by assumption));walk_at "mv")
 | (refine PtsK.same ?_ (by assumption:L2.Same _ _);walk_at "mv")
 | (refine PtsK.same ?_ (Same.new (by assumption));walk_at "mv")
 | (refine ShV.k ?_;walk_at "mv")
 | (refine PtV.k ?_;walk_at "mv")
 | (refine PtsV.k ?_;walk_at "mv")
 | fail)
local macro_rules | `(tactic| walk_at "sq") => `(tactic| first
 | exact TK.sq (by walk_at "tk")
 | fail)
local macro_rules | `(tactic| walk_at "rk1") => `(tactic| first
 | refine⟨_,"tuple",_,_,rfl,.inr ⟨rfl,_,_,rfl,by walk_at "sq"⟩,c3p _,?_⟩
 | refine⟨_,"list",_,_,rfl,.inl (TyOf.lst (by walk_at "hf")),kit_ll _,?_⟩
 | refine⟨_,"int",_,_,rfl,.inl (TyOf.int _),c3q _,?_⟩
 | refine⟨_,"bool",_,_,rfl,.inl (TyOf.int _),c3r _,?_⟩
 | refine⟨_,"bool",_,_,rfl,.inl (TyOf.bl _),kit_bb _,?_⟩
 | refine⟨_,_,rfl,.inr (by walk_at "sq"),?_⟩
 | walk_at "r1"
 | fail)
local macro_rules | `(tactic| walk_at "rk") => `(tactic| repeat walk_at "rk1")
local macro_rules | `(tactic| walk_at "hd") => `(tactic| with_reducible first | refine hSeq (fun _ _ => ?_) | refine hAsg (fun _ _ => ?_) | refine hIf (fun _ _ => ?_) | refine hDrop (fun _ _ => ?_) | fail)
local macro_rules | `(tactic| walk_at "cd") => `(tactic| first | refine uQ (by assumption) ?_ | refine uB (by assumption) ?_ | refine uNx (by assumption) ?_ | refine uRt (by assumption) ?_ | refine uCt (by assumption) ?_ | refine uBk (by assumption) ?_ | fail)
local macro_rules | `(tactic| walk_at "rz") => `(tactic| repeat first | walk_at "hd" | walk_at "r1" | walk_at "cd")
structure Cst(K:c5k)(mg:Str→Option Value)(A_PLAIN_WAYS B1_PLAIN_WAYS B2_PLAIN_WAYS B3_PLAIN_WAYS B4_PLAIN_WAYS:Addr)(t_MOST_PAIRS:Tok):Prop where
 MOST_PAIRS:mg "MOST_PAIRS" = some (.int 256 t_MOST_PAIRS)
 PLAIN_WAYS:mg "PLAIN_WAYS" = some (.ref A_PLAIN_WAYS)
 pPLAIN_WAYS:∀ H,SqT K H A_PLAIN_WAYS [.ref B1_PLAIN_WAYS,.ref B2_PLAIN_WAYS,.ref B3_PLAIN_WAYS,.ref B4_PLAIN_WAYS]
 wPLAIN_WAYS:∀ H,SqT K H B1_PLAIN_WAYS [.int (1),.int (0)]∧SqT K H B2_PLAIN_WAYS [.int (-1),.int (0)]∧SqT K H B3_PLAIN_WAYS [.int (0),.int (1)]∧SqT K H B4_PLAIN_WAYS [.int (0),.int (-1)]
structure Exc(K:c5k)(mg:Str→Option Value)(C_SeatError C_TooMany:Addr):Prop where
 SeatError:mg "SeatError" = some (.ref C_SeatError)
 TooMany:mg "TooMany" = some (.ref C_TooMany)
 xTooMany:XCls K mg "TooMany" C_TooMany
 mTooMany:PySem.W.exmOne K (.ref C_TooMany) (.ref C_SeatError)=some true
 vTooMany:c8q K (.ref C_TooMany) (.type "ValueError")=some true
noncomputable def top(i:Nat):Stmt:=PySem.Challenge.pw_curveseat_k62_lines_and_common_points.main.body.getD i (.Pass ⟨0,0,0,0⟩)
abbrev a2c:Stmt:=top 5
theorem a5g:a1d ["one","other"] ["one","other"] (a0f a2c):=⟨rfl,rfl,rfl,by decide +kernel,rfl,by decide +kernel,by decide +kernel⟩
abbrev a8p:Stmt:=top 6
theorem b3i:a1d ["top","bottom","common"] ["top","bottom"] (a0f a8p):=⟨rfl,rfl,rfl,by decide +kernel,rfl,by decide +kernel,by decide +kernel⟩
abbrev a2i:Stmt:=top 8
theorem a2a:a1d ["shares","found","whole","one","more"] ["shares"] (a0f a2i):=⟨rfl,rfl,rfl,by decide +kernel,rfl,by decide +kernel,by decide +kernel⟩
abbrev a5m:Stmt:=top 9
theorem a6o:a1d ["numbers","found","number"] ["numbers"] (a0f a5m):=⟨rfl,rfl,rfl,by decide +kernel,rfl,by decide +kernel,by decide +kernel⟩
abbrev b0p:Stmt:=top 10
theorem b6s:a1d ["shares","bottoms","whole"] ["shares"] (a0f b0p):=⟨rfl,rfl,rfl,by decide +kernel,rfl,by decide +kernel,by decide +kernel⟩
abbrev a9f:Stmt:=top 11
theorem sc_axes:a1d ["points"] ["points"] (a0f a9f):=⟨rfl,rfl,rfl,by decide +kernel,rfl,by decide +kernel,by decide +kernel⟩
abbrev a3a:Stmt:=top 13
theorem a4v:a1d ["points","xs","ys"] ["points"] (a0f a3a):=⟨rfl,rfl,rfl,by decide +kernel,rfl,by decide +kernel,by decide +kernel⟩
abbrev a7d:Stmt:=top 16
theorem sc_along:a1d ["places","way"] ["places","way"] (a0f a7d):=⟨rfl,rfl,rfl,by decide +kernel,rfl,by decide +kernel,by decide +kernel⟩
abbrev a3l:Stmt:=top 17
theorem b1y:a1d ["ones","others","i","j"] ["ones","others","i","j"] (a0f a3l):=⟨rfl,rfl,rfl,by decide +kernel,rfl,by decide +kernel,by decide +kernel⟩
abbrev a3b:Stmt:=top 18
theorem b0n:a1d ["one","other"] ["one","other"] (a0f a3b):=⟨rfl,rfl,rfl,by decide +kernel,rfl,by decide +kernel,by decide +kernel⟩
abbrev a8q:Stmt:=top 19
theorem b3j:a1d ["ones","others","way","fore","behind","most","least"] ["ones","others","way"] (a0f a8q):=⟨rfl,rfl,rfl,by decide +kernel,rfl,by decide +kernel,by decide +kernel⟩
abbrev a4r:Stmt:=top 20
theorem b6q:a1d ["right","left"] ["right","left"] (a0f a4r):=⟨rfl,rfl,rfl,by decide +kernel,rfl,by decide +kernel,by decide +kernel⟩
abbrev a6q:Stmt:=top 21
theorem a2q:a1d ["ones","others","way","most","least","found","right","left"] ["ones","others"] (a0f a6q):=⟨rfl,rfl,rfl,by decide +kernel,rfl,by decide +kernel,by decide +kernel⟩
abbrev a2b:Stmt:=top 22
theorem a1w:a1d ["steps","one","other","right","left","across"] ["steps"] (a0f a2b):=⟨rfl,rfl,rfl,by decide +kernel,rfl,by decide +kernel,by decide +kernel⟩
abbrev a1m:Stmt:=top 23
theorem a1i:a1d ["one","other","steps","many","places","often","ones","others","x","y","i","j","much","whole"] ["one","other","steps"] (a0f a1m):=⟨rfl,rfl,rfl,by decide +kernel,rfl,by decide +kernel,by decide +kernel⟩
abbrev a4b:Stmt:=top 24
theorem a5e:a1d ["line","x_bottom","y_bottom","room","a","b","c"] ["line","x_bottom","y_bottom","room"] (a0f a4b):=⟨rfl,rfl,rfl,by decide +kernel,rfl,by decide +kernel,by decide +kernel⟩
abbrev a5n:Stmt:=top 25
theorem a4q:a1d ["one","other","xs","ys","places","line","steps"] ["one","other"] (a0f a5n):=⟨rfl,rfl,rfl,by decide +kernel,rfl,by decide +kernel,by decide +kernel⟩
abbrev a4s:Stmt:=top 28
theorem b6r:a1d ["seats","level"] ["seats","level"] (a0f a4s):=⟨rfl,rfl,rfl,by decide +kernel,rfl,by decide +kernel,by decide +kernel⟩
abbrev a2u:Stmt:=top 29
theorem b1x:a1d ["xs","ys","room"] ["xs","ys","room"] (a0f a2u):=⟨rfl,rfl,rfl,by decide +kernel,rfl,by decide +kernel,by decide +kernel⟩
abbrev a5v:Stmt:=top 30
theorem a7r:a1d ["curve","first","second","row"] ["curve"] (a0f a5v):=⟨rfl,rfl,rfl,by decide +kernel,rfl,by decide +kernel,by decide +kernel⟩
abbrev a5w:Stmt:=top 31
theorem c2c:a1d ["curves"] ["curves"] (a0f a5w):=⟨rfl,rfl,rfl,by decide +kernel,rfl,by decide +kernel,by decide +kernel⟩
abbrev a2d:Stmt:=c3y (top 32) 0
theorem a3f:a1d ["self","one","other","level","xs","ys","both"] ["self","one","other","level"] (a0f a2d):=⟨rfl,rfl,rfl,by decide +kernel,rfl,by decide +kernel,by decide +kernel⟩
abbrev a2j:Stmt:=c3y (top 32) 1
theorem a8o:a1d ["self"] ["self"] (a0f a2j):=⟨rfl,rfl,rfl,by decide +kernel,rfl,by decide +kernel,by decide +kernel⟩
abbrev a2v:Stmt:=top 33
theorem b1z:a1d ["pairs"] ["pairs"] (a0f a2v):=⟨rfl,rfl,rfl,by decide +kernel,rfl,by decide +kernel,by decide +kernel⟩
abbrev a6p:Stmt:=top 34
theorem a4w:a1d ["ground","pairs","x_bottom","y_bottom","found","thrown","i","j","line","steps"] ["ground","pairs"] (a0f a6p):=⟨rfl,rfl,rfl,by decide +kernel,rfl,by decide +kernel,by decide +kernel⟩
abbrev a6e:Stmt:=top 35
theorem a5f:a1d ["one","other","level","ground","pairs","thrown","told","depth"] ["one","other","level"] (a0f a6e):=⟨rfl,rfl,rfl,by decide +kernel,rfl,by decide +kernel,by decide +kernel⟩
abbrev a4e:Stmt:=top 37
theorem b4w:a1d ["_law_script","_law_k"] ["_law_script","_law_k"] (a0f a4e):=⟨rfl,rfl,rfl,by decide +kernel,rfl,by decide +kernel,by decide +kernel⟩
abbrev a4t:Stmt:=top 38
theorem a4x:a1d ["_law_cell","_law_place","_law_number","_law_some","_law_k"] ["_law_cell","_law_place"] (a0f a4t):=⟨rfl,rfl,rfl,by decide +kernel,rfl,by decide +kernel,by decide +kernel⟩
abbrev a5o:Stmt:=top 39
theorem b9r:a1d ["_law_found"] ["_law_found"] (a0f a5o):=⟨rfl,rfl,rfl,by decide +kernel,rfl,by decide +kernel,by decide +kernel⟩
abbrev a6r:Stmt:=top 40
theorem b4u:a1d ["_law_one","_law_other"] ["_law_one","_law_other"] (a0f a6r):=⟨rfl,rfl,rfl,by decide +kernel,rfl,by decide +kernel,by decide +kernel⟩
abbrev a5p:Stmt:=top 41
theorem b2n:a1d ["_law_top","_law_bottom","_law_part_here"] ["_law_top","_law_bottom"] (a0f a5p):=⟨rfl,rfl,rfl,by decide +kernel,rfl,by decide +kernel,by decide +kernel⟩
abbrev a3t:Stmt:=top 42
theorem b3k:a1d ["_law_found"] ["_law_found"] (a0f a3t):=⟨rfl,rfl,rfl,by decide +kernel,rfl,by decide +kernel,by decide +kernel⟩
abbrev a3m:Stmt:=top 43
theorem a1f:a1d ["_law_script","_law_most","_law_head","_law_s","_law_scale","_law_far","_law_bottom","_law_both","_law_k","_law_seats","_law_j","_law_cell","_law_r","_law_x","_law_y"] ["_law_script","_law_most"] (a0f a3m):=⟨rfl,rfl,rfl,by decide +kernel,rfl,by decide +kernel,by decide +kernel⟩
abbrev a4c:Stmt:=top 44
theorem a1y:a1d ["_law_told","_law_some","_law_others","_law_k","_law_a","_law_b","_law_c","_law_sign","_law_places","_law_x","_law_y","_law_low","_law_left"] ["_law_told","_law_some","_law_others"] (a0f a4c):=⟨rfl,rfl,rfl,by decide +kernel,rfl,by decide +kernel,by decide +kernel⟩
abbrev a6s:Stmt:=top 45
theorem a3i:a1d ["_law_parts","_law_places","_law_found","_law_axis","_law_top","_law_bottom","_law_part_here","_law_place","_law_one","_law_low"] ["_law_parts","_law_places"] (a0f a6s):=⟨rfl,rfl,rfl,by decide +kernel,rfl,by decide +kernel,by decide +kernel⟩
abbrev a6t:Stmt:=top 46
theorem b4v:a1d ["_law_told","_law_some","_law_others","_law_one"] ["_law_told","_law_some","_law_others"] (a0f a6t):=⟨rfl,rfl,rfl,by decide +kernel,rfl,by decide +kernel,by decide +kernel⟩
abbrev a2e:Stmt:=top 47
theorem a2z:a1d ["_law_curve","_law_bottom","_law_place","_law_one"] ["_law_curve"] (a0f a2e):=⟨rfl,rfl,rfl,by decide +kernel,rfl,by decide +kernel,by decide +kernel⟩
abbrev a4d:Stmt:=top 48
theorem a3s:a1d ["_law_some","_law_n","_law_row","_law_left","_law_right","_law_k"] ["_law_some"] (a0f a4d):=⟨rfl,rfl,rfl,by decide +kernel,rfl,by decide +kernel,by decide +kernel⟩
abbrev a2w:Stmt:=top 49
theorem a1u:a1d ["_law_curve","_law_level","_law_bottom","_law_some","_law_found","_law_turn","_law_halves","_law_one"] ["_law_curve","_law_level"] (a0f a2w):=⟨rfl,rfl,rfl,by decide +kernel,rfl,by decide +kernel,by decide +kernel⟩
abbrev b0o:Stmt:=top 50
theorem a4g:a1d ["_law_script","_law_most","_law_one","_law_other","_law_level","_law_pairs","_law_thrown","_law_ones","_law_others","_law_told","_law_some","_law_more","_law_i","_law_j"] ["_law_script"] (a0f b0o):=⟨rfl,rfl,rfl,by decide +kernel,rfl,by decide +kernel,by decide +kernel⟩
section
variable {P:Program} {w:World} {K:c5k} {mg:Str→Option Value} {base:Heap}
theorem b5g(F:a0q K mg "_law_cell_at" a4e ["_law_script","_law_k"])(B:Blt mg):a1b P w K mg base CX0 1 "_law_cell_at" ["_law_script","_law_k"] (c1r K):=by
 refine a1j F b4w (fun vs H Q E h=>?_) (fun f cdv A outer s H vs Q E hr h=>?_)
 · obtain⟨a,ns,i,rfl,_⟩:=h;rfl
 obtain⟨a,ns,i,rfl,hS,h0,k⟩:=h;have hu:=hr.units;refine⟨_,(a0e (a2h (a1c b9x (pvI 1) (a0w (a1p K) (by rfl) B.len PySem.boot_len (a0a (pvI 0) a0c)) (a1t _)) (a0h (a0r (a0k (a0v K) (pvI 0) (pvI 1) (fun _ _=>rfl)))) a1o) (a0h (a0r a0b))),?_⟩;refine⟨_,rfl,_,rfl,a,_,rfl,.inl hS,_,_,rfl,rfl,_,rfl,a6k (fun hn=>?_) (fun hn=>?_)⟩
 · rw[c5l] at hn;refine⟨_,rfl,_,rfl,a,_,_,_,rfl,rfl,hS,c5b ns i h0 hn,?_⟩;exact k _
 · exact k 0
theorem c2t(F:a0q K mg "_law_part" a6r ["_law_one","_law_other"]):a1b P w K mg base CX0 1 "_law_part" ["_law_one","_law_other"] b7x:=by
 refine a1j F b4u (fun vs H Q E h=>?_) (fun f cdv A outer s H vs Q E hr h=>?_)
 · obtain⟨a,b,rfl,_⟩:=h;rfl
 obtain⟨a,b,rfl,h0,h1,k⟩:=h;have hu:=hr.units;refine⟨_,(a0e (a7t PassesOwn.never (a1c b9y (pvI 1) a0b (a1t _)) (a0h (a6f (i:=0) (j:=1) rfl b4u.nd rfl rfl (by decide) rfl rfl (a0a (pvI 1) (a0a (a0j a4a (pvI 0) (pvI 1)) a0c)) rfl))) (a0h (a0r (pvI 0)))),?_⟩;refine b3a (fun σ H'=>∃ x y:Int,σ=[some (.int x),some (.int y)]∧H'=H∧0≤x∧0≤y∧c6o x y=c6o a b) (fun σ _=>match σ with | [_,some (.int y)]=>y.natAbs | _=>0) ⟨a,b,rfl,rfl,h0,h1,rfl⟩ ?_ ?_
 · rintro σ H' ⟨x,y,rfl,rfl,hx,hy,e⟩;refine⟨_,rfl,_,_,rfl,rfl,_,rfl,a6k (fun hn=>?_) (fun hn=>?_)⟩
   · refine⟨_,rfl,_,rfl,_,rfl,_,_,rfl,rfl,hn,_,_,rfl,⟨_,_,rfl,rfl,hy,d1c x (by omega),?_⟩,?_⟩
     · rw[emod_gcd x y hn];exact e
     · show (x % y).natAbs<y.natAbs;have:=Int.emod_lt_of_pos x hn;have:=d1c x (b:=y) (by omega);omega
   · refine⟨_,rfl,?_⟩;have hy0:y=0:=by omega
     subst hy0;rw[Int.gcd_zero] at e;have:x=(c6o a b:Int):=by omega
     show Q (.int x) H';rw[this];exact k
 · rintro σ H' Q Q' hq ⟨v,h1,i,j,e1,e2,b',e3,h3⟩;exact⟨v,h1,i,j,e1,e2,b',e3,hq _ _ h3⟩
theorem c0c(F:a0q K mg "_law_share" a5p ["_law_top","_law_bottom"])(B:Blt mg)(D_l_part:a1b P w K mg base CX0 1 "_law_part" ["_law_one","_law_other"] b7x):a1b P w K mg base CX0 2 "_law_share" ["_law_top","_law_bottom"] a9y:=by
 refine a1j F b2n (fun vs H Q E h=>?_) (fun f cdv A outer s H vs Q E hr h=>?_)
 · obtain⟨a,b,rfl,_⟩:=h;rfl
 obtain⟨t,b,rfl,hb,hz,k⟩:=h;have hu:=hr.units;refine⟨_,(a0e (a0p (i:=2) b2n.nd rfl (Or.inl rfl) (a0s D_l_part hr a1k (a0a (a0w b4g (by rfl) B.abs PyProof.Rows.boot_abs (a0a (pvI 0) a0c)) (a0a (pvI 1) a0c)))) (a0h (a0r (a0y (a0a (a0j a4l (pvI 0) (pvI 2)) (a0a (a0j a4l (pvI 1) (pvI 2)) a0c)))))),?_⟩;have g0:(c6o t b:Int)≠0:=b9d t b (by omega);have gz:Sz 9000 (c6o t b:Int):=hz.le (by
   rw[Int.natAbs_natCast];exact Nat.le_of_dvd (by omega) (Int.gcd_dvd_natAbs_right t b))
 refine⟨_,rfl,_,rfl,_,rfl,_,_,rfl,(by split<;>omega),by omega,?_⟩;rw[gcd_abs];refine⟨_,rfl,_,rfl,_,_,rfl,rfl,⟨g0,gz⟩,_,rfl,_,rfl,_,_,rfl,rfl,⟨g0,gz⟩,(by show 2≤sizeLine;decide),fun p hp=>?_⟩;have e:=b0l t b hb;refine k _ _ (Same.new hp) ⟨p,rfl,?_⟩;rw[a0d,← e.1,← e.2]
theorem b6x(F:a0q K mg "_law_stream" a4t ["_law_cell","_law_place"])(B:Blt mg):a1b P w K mg base CX0 1 "_law_stream" ["_law_cell","_law_place"] b7w:=by
 refine a1j F a4x (fun vs H Q E h=>?_) (fun f cdv A outer s H vs Q E hr h=>?_)
 · obtain⟨c,p,rfl,_⟩:=h;rfl
 obtain⟨c,p,rfl,k⟩:=h;have hu:=hr.units;refine⟨_,(a0e (a0p (i:=2) a4x.nd rfl (Or.inl rfl) (a0j a4a (a0j a2f (pvI 0) (a0j a0u a0b (pvI 1))) a0b)) (a0e (a0p (i:=3) a4x.nd rfl (Or.inl rfl) (a1q a0c)) (a0e (a2n PassesOwn.never rfl (a3d rfl B.range (a0a a0b a0c)) (a0g (i:=4) a4x.nd rfl (Or.inl rfl)) (a0e (a0p (i:=2) a4x.nd rfl (Or.inl rfl) (a0j a4a (a0j a2f (a0j a2f (a0j a0u (pvI 2) a0b) (a0j a0u a0b (pvI 4))) a0b) a0b)) (a0h (a3g (show PEi _ _ (tBM K _ _ _ _) from (a5a c6v c7d c7e a2l (pvI 3) (a0a (a0j a6j (pvI 2) a0b) a0c))))))) (a0h (a0r (a3j (a5d K) (pvI 3) (a3h a0b) a3v)))))),?_⟩;refine⟨_,rfl,_,rfl,_,_,rfl,rfl,mulL (by decide) (by decide),_,_,rfl,rfl,_,_,rfl,rfl,pl,(c7c _),fun l hl=>?_⟩;refine⟨25,rfl,by decide,by decide,a4i (n:=25) (fun i σ H'=>∃ (x:Int) (xs:List Int) (y:Option V),σ=[some (.int c),some (.int p),some (.int x),some (.ref l),y]∧Same H H'∧H' l=some (.lst (xs.map V.int))∧xs.length=i∧∀ z∈xs,0≤z) ⟨_,[],none,rfl,Same.new hl,a0d,rfl,fun _ h=>nomatch h⟩ ?_ ?_⟩
 · rintro i σ H2 hi ⟨x,xs,y,rfl,s2,h2,hlen,hx⟩;refine⟨_,rfl,_,_,rfl,rfl,mulR (by decide) (by decide),_,rfl,_,_,rfl,rfl,mulL (by decide) (by decide),_,_,rfl,rfl,_,_,rfl,rfl,_,_,rfl,rfl,pl,?_⟩;refine⟨_,rfl,.inl ⟨rfl,_,SqL.of h2⟩,_,rfl,_,_,rfl,rfl,⟨by decide,by decide⟩,l,_,_,rfl,rfl,h2,?_,?_⟩
   · rw[c5l,hlen];exact c1v (by omega)
   · refine⟨_,xs++[(x*48271+2*(0+(i:Int))+11) % 2147483647 / 64],_,rfl,fun b o e=>?_,?_,?_,?_⟩
     · rw[a0m (a0t e hl)];exact s2 b o e
     · rw[a0d,d0f];rfl
     · rw[c5n,hlen];rfl
     · intro z hz;rcases c6q.mp hz with hz | hz
       · exact hx z hz
       · cases c6g.mp hz;have:=d1c (x*48271+2*(0+(i:Int))+11) (b:=2147483647) (by decide);exact Int.ediv_nonneg this (by decide)
 · rintro σ H2 ⟨x,xs,y,rfl,s2,h2,hlen,hx⟩;refine⟨_,rfl,1,rfl,l,_,rfl,SqL.of h2,fun q hq=>?_⟩;rw[cut_one xs (by omega)];exact k q (xs.drop 1) _ (s2.trans (Same.new hq)) a0d (by rw[c6n,hlen]) fun z hz=>hx z (c7l hz)
theorem b2e(F:a0q K mg "_law_drawn_two" a3m ["_law_script","_law_most"])(B:Blt mg)(D_l_cell_at:a1b P w K mg base CX0 1 "_law_cell_at" ["_law_script","_law_k"] (c1r K))(D_l_share:a1b P w K mg base CX0 2 "_law_share" ["_law_top","_law_bottom"] a9y)(D_l_stream:a1b P w K mg base CX0 1 "_law_stream" ["_law_cell","_law_place"] b7w):a1b P w K mg base CX0 3 "_law_drawn_two" ["_law_script","_law_most"] (spDTwo K):=by
 refine a1j F a1f (fun vs H Q E h=>?_) (fun f cdv A outer s H vs Q E hr h=>?_)
 · obtain⟨a,ns,mo,rfl,_⟩:=h;rfl
 obtain⟨a,ns,mo,rfl,hS,m1,m8,k⟩:=h;have hu:=hr.units;refine⟨_,(a0e (a0p (i:=2) a1f.nd rfl (Or.inl rfl) (a0s D_l_cell_at hr a1k (a0a (pvI 0) (a0a a0b a0c)))) (a0e (a0p (i:=3) a1f.nd rfl (Or.inl rfl) (a0s D_l_stream hr a1k (a0a (pvI 2) (a0a a0b a0c)))) (a0e (a0p (i:=4) a1f.nd rfl (Or.inl rfl) (a0k (a0v K) (a1q (a0a a0b (a0a a0b (a0a (a0j a2f a0b (a0j a4a (a0j a6j (pvI 2) a0b) (a0j op_pow a0b a0b))) a0c)))) (a0j a4a (a0k (a0v K) (pvI 3) a0b (fun _ _=>rfl)) a0b) (fun _ _=>rfl))) (a0e (a0p (i:=5) a1f.nd rfl (Or.inl rfl) (a0k (a0v K) (a1q (a0a a0b (a0a a0b (a0a (a0j a0u (a0j a4a (a0j a6j (pvI 2) a0b) (a0j op_pow a0b a0b)) (a0j a3z a0b (a0j a0u a0b (a0j a4a (a0k (a0v K) (pvI 3) a0b (fun _ _=>rfl)) a0b)))) a0c)))) (a0j a4a (a0j a6j (a0k (a0v K) (pvI 3) a0b (fun _ _=>rfl)) a0b) a0b) (fun _ _=>rfl))) (a0e (a0p (i:=6) a1f.nd rfl (Or.inl rfl) (a0j a2f a0b (a0j a4a (a0k (a0v K) (pvI 3) a0b (fun _ _=>rfl)) a0b))) (a0e (a0p (i:=7) a1f.nd rfl (Or.inl rfl) (a1q a0c)) (a0e (a2n PassesOwn.never rfl (a3d rfl B.range (a0a a0b a0c)) (a0g (i:=8) a1f.nd rfl (Or.inl rfl)) (a0e (a0p (i:=9) a1f.nd rfl (Or.inl rfl) (a1q a0c)) (a0e (a2n PassesOwn.never rfl (a3d rfl B.range (a0a (a0j a2f a0b (a0j a4a (a0k (a0v K) (pvI 3) (a0j a2f a0b (pvI 8)) (fun _ _=>rfl)) (pvI 1))) a0c)) (a0g (i:=10) a1f.nd rfl (Or.inl rfl)) (a0e (a0p (i:=11) a1f.nd rfl (Or.inl rfl) (a0s D_l_cell_at hr a1k (a0a (pvI 0) (a0a (a0j a2f (a0j a2f a0b (a0j a0u (pvI 1) (pvI 8))) (pvI 10)) a0c)))) (a0e (a0p (i:=12) a1f.nd rfl (Or.inl rfl) (a0s D_l_stream hr a1k (a0a (pvI 11) (a0a (a0j a2f (a0j a0u a0b (pvI 8)) (pvI 10)) a0c)))) (a0e (a2h (a8j (a8s (a1c a9m (a0j a4a (a0k (a0v K) (pvI 3) a0b (fun _ _=>rfl)) a0b) a0b (a1t _)) (b0a (a1c b9y (pvI 11) a0b (a1t _))))) (a0h (a0p (i:=12) a1f.nd rfl (Or.inl rfl) (a1q (a0a (pvI 11) (a0a (a0j a6j (pvI 11) a0b) a0c))))) a1o) (a0e (a0p (i:=13) a1f.nd rfl (Or.inl rfl) (a0j a2f (a0j a0u (a0j a3z (a0j a4a (a0k (a0v K) (pvI 12) a0b (fun _ _=>rfl)) a0b) a0b) (pvI 4)) (pvI 5))) (a0e (a0p (i:=14) a1f.nd rfl (Or.inl rfl) (a0j a3z (a0j a0u (a0j a2f (a0j a3z (a0j a4a (a0k (a0v K) (pvI 12) a0b (fun _ _=>rfl)) a0b) a0b) (a0j a4a (a0k (a0v K) (pvI 3) (a0j a2f a0b (pvI 8)) (fun _ _=>rfl)) a0b)) (pvI 4)) (pvI 5))) (a0h (a3g (show PEi _ _ (tBM K _ _ _ _) from (a5a c6v c7d c7e a2l (pvI 9) (a0a (a0y (a0a (a0s D_l_share hr a1k (a0a (pvI 13) (a0a (pvI 6) a0c))) (a0a (a0s D_l_share hr a1k (a0a (pvI 14) (a0a (pvI 6) a0c))) a0c))) a0c))))))))))) (a0h (a3g (show PEi _ _ (tBM K _ _ _ _) from (a5a c6v c7d c7e a2l (pvI 7) (a0a (pvI 9) a0c)))))))) (a0e (a2h (a1c a9m (a0j a4a (a0k (a0v K) (pvI 3) a0b (fun _ _=>rfl)) a0b) a0b (a1t _)) (a0h (a2x (a6i K (a0k (a0v K) (pvI 7) a0b (fun _ _=>rfl)) (a3h (a7x a7m a0b))) (pg_subI (pvI 7) a0b b3h))) a1o) (a0h (a0r (pvI 7))))))))))),?_⟩;walk_at "rz";refine⟨a,ns,0,rfl,hS,by omega,fun head=>?_⟩;walk_at "rz";refine⟨_,_,rfl,fun ls xs H1 s1 hx hxl hnn=>?_⟩;have nn:∀ j:Nat,0≤xs.getD j 0:=fun j=>getD_nn hnn j;have hx1:SqL K H1 ls (xs.map V.int):=SqL.of hx;walk_at "rz";intro g1 hg1;have n0:=nn 0;have n1:=nn 1;have n2:=nn 2;have hx2:SqL K (upd H1 g1 (.lst [.int 1,.int 1,.int (1+head / 5 % (10:Int)^(30:Int).toNat)])) ls (xs.map V.int):=by walk_at "mv"
 walk_at "rz";have p30':=p30;obtain⟨v1,hv1,hm1⟩:=b9l [V.int 1,V.int 1,V.int (1+head / 5 % (10:Int)^(30:Int).toNat)] (xs.getD 0 0 % 3) (by omega) (by show _<(3:Int);omega);have hs1:∃ sc:Int,v1=V.int sc∧sc.natAbs≤10^30:=by
   rw[p30'] at hm1;simp only[c6f,c6r,or_false] at hm1;rcases hm1 with rfl | rfl | rfl
   · exact⟨_,rfl,by decide⟩
   · exact⟨_,rfl,by decide⟩
   · exact⟨_,rfl,by omega⟩
 obtain⟨sc,rfl,zsc⟩:=hs1;refine⟨g1,_,_,_,rfl,rfl,SqL.of a0d,hv1,?_⟩;walk_at "rz";intro g2 hg2;have hx3:SqL K (upd (upd H1 g1 (.lst [.int 1,.int 1,.int (1+head / 5 % (10:Int)^(30:Int).toNat)])) g2 (.lst [.int 0,.int 0,.int (head / 7 % (10:Int)^(30:Int).toNat*(1 - 2*(xs.getD (c9s 1) 0 % 2)))])) ls (xs.map V.int):=by walk_at "mv"
 walk_at "rz";obtain⟨v2,hv2,hm2⟩:=b9l [V.int 0,V.int 0,V.int (head / 7 % (10:Int)^(30:Int).toNat*(1 - 2*(xs.getD (c9s 1) 0 % 2)))] (xs.getD (c9s 1) 0 / 2 % 3) (by omega) (by show _<(3:Int);omega);have hs2:∃ fa:Int,v2=V.int fa∧fa.natAbs≤10^30:=by
   rw[p30'] at hm2;simp only[c6f,c6r,or_false] at hm2;rcases hm2 with rfl | rfl | rfl
   · exact⟨_,rfl,by decide⟩
   · exact⟨_,rfl,by decide⟩
   · refine⟨_,rfl,?_⟩;rw[d0q];have e1:(1 - 2*(xs.getD (c9s 1) 0 % 2)).natAbs=1:=by omega
     rw[e1];omega
 obtain⟨fa,rfl,zfa⟩:=hs2;refine⟨g2,_,_,_,rfl,rfl,SqL.of a0d,hv2,?_⟩;walk_at "rz";intro lb hlb;have hlbH:H lb=none:=s1.free ((Same.new hg1).free ((Same.new hg2).free hlb));have sA:=(s1.trans (Same.new (o:=.lst [.int 1,.int 1,.int (1+head / 5 % (10:Int)^(30:Int).toNat)]) hg1)).trans (Same.new (o:=.lst [.int 0,.int 0,.int (head / 7 % (10:Int)^(30:Int).toNat*(1 - 2*(xs.getD (c9s 1) 0 % 2)))]) hg2);have sB:Same H (upd (upd (upd H1 g1 (.lst [.int 1,.int 1,.int (1+head / 5 % (10:Int)^(30:Int).toNat)])) g2 (.lst [.int 0,.int 0,.int (head / 7 % (10:Int)^(30:Int).toNat*(1 - 2*(xs.getD (c9s 1) 0 % 2)))])) lb (.lst [])):=sA.trans (Same.new hlb);have nls:ls≠lb:=a0t (a3e (o:=.lst [.int 0,.int 0,.int (head / 7 % (10:Int)^(30:Int).toNat*(1 - 2*(xs.getD (c9s 1) 0 % 2)))]) hg2 (a3e (o:=.lst [.int 1,.int 1,.int (1+head / 5 % (10:Int)^(30:Int).toNat)]) hg1 hx)) hlb;have hx4:=a3e (o:=.lst []) hlb (a3e (o:=.lst [.int 0,.int 0,.int (head / 7 % (10:Int)^(30:Int).toNat*(1 - 2*(xs.getD (c9s 1) 0 % 2)))]) hg2 (a3e (o:=.lst [.int 1,.int 1,.int (1+head / 5 % (10:Int)^(30:Int).toNat)]) hg1 hx));have hb4:(upd (upd (upd H1 g1 (.lst [.int 1,.int 1,.int (1+head / 5 % (10:Int)^(30:Int).toNat)])) g2 (.lst [.int 0,.int 0,.int (head / 7 % (10:Int)^(30:Int).toNat*(1 - 2*(xs.getD (c9s 1) 0 % 2)))])) lb (.lst [])) lb=some (.lst []):=a0d;generalize hH4:upd (upd (upd H1 g1 (.lst [.int 1,.int 1,.int (1+head / 5 % (10:Int)^(30:Int).toNat)])) g2 (.lst [.int 0,.int 0,.int (head / 7 % (10:Int)^(30:Int).toNat*(1 - 2*(xs.getD (c9s 1) 0 % 2)))])) lb (.lst [])=H4 at *;clear hH4 sA hx1 hx2 hx3 hlb hg1 hg2 hv1 hv2 s1 hx;obtain⟨BB,hBB⟩ : ∃ BB:Int,BB=1+xs.getD (c9s 2) 0 % 3:=⟨_,rfl⟩
 have n2':0≤xs.getD (c9s 2) 0:=n2;have B1:1≤BB:=by omega
 have B3:BB≤3:=by omega
 walk_at "rz";refine a4i (fun i σ H'=>∃ (y8 y9 y10 y11 y12 y13 y14:Option V) (vs:List V),σ=[some (.ref a),some (.int (mo:Int)),some (.int head),some (.ref ls),some (.int sc),some (.int fa),some (.int BB),some (.ref lb),y8,y9,y10,y11,y12,y13,y14]∧Same H H'∧H' ls=some (.lst (xs.map V.int))∧H' lb=some (.lst vs)∧vs.length=i∧∀ (j:Nat) (v:V),vs[j]?=some v→∃ l ws ps,l≠lb∧CvB H' v l ws ps BB mo) ⟨none,none,none,none,none,none,none,[],by subst hBB;rfl,sB,hx4,hb4,rfl,fun j v e=>nomatch (show (none:Option V)=some v from e)⟩ ?_ ?_
 · rintro i σ H5 hi ⟨y8,y9,y10,y11,y12,y13,y14,vs,rfl,s5,hx5',hb5,hvl,hvs⟩;have hx5:SqL K H5 ls (xs.map V.int):=SqL.of hx5';walk_at "rz";intro lq hlq;have hi2:i<2:=hi;have hx6:SqL K (upd H5 lq (.lst [])) ls (xs.map V.int):=SqL.same' hx5 (Same.new hlq);walk_at "rz";have nq:=nn (3+(0+(i:Int))).toNat;generalize xs.getD (3+(0+(i:Int))).toNat 0=q at *;refine⟨by omega,?_⟩;have r1:=d1c q (b:=(mo:Int)) (by omega);have r2:=Int.emod_lt_of_pos q (b:=(mo:Int)) (by omega);walk_at "rz";refine⟨by omega,by omega,a4i (fun j σ H'=>∃ (z10 z11 z12 z13 z14:Option V) (us:List V) (ps:List Pt),σ=[some (.ref a),some (.int (mo:Int)),some (.int head),some (.ref ls),some (.int sc),some (.int fa),some (.int BB),some (.ref lb),some (.int (0+(i:Int))),some (.ref lq),z10,z11,z12,z13,z14]∧Same H5 H'∧H' lq=some (.lst us)∧PtsV H' us ps∧ps.length=j∧∀ p∈ps,OvP BB 110 p) ⟨y10,y11,y12,y13,y14,[],[],rfl,Same.new hlq,a0d,PtsV.nil _,rfl,fun p hp=>nomatch hp⟩ ?_ ?_⟩
   · rintro j σ H6 hj ⟨z10,z11,z12,z13,z14,us,ps,rfl,s6,hq6,hP6,hpl,hov⟩;have hj2:(j:Int)<1+q % (mo:Int):=by omega
     have hS6:SqL K H6 a (ns.map V.int):=SqL.same' (SqL.same' hS s5) s6;have hx7:SqL K H6 ls (xs.map V.int):=SqL.same' hx5 s6;walk_at "rz";have nm:0≤(mo:Int)*(0+(i:Int)):=c8p (by omega) (by omega);refine⟨a,ns,_,rfl,hS6,by omega,fun z=>?_⟩;walk_at "rz";refine⟨_,_,rfl,fun lr rx H7 s7 hr7 hrl hrn=>?_⟩;have hx8:SqL K H7 ls (xs.map V.int):=SqL.same' hx7 s7;have hr8:SqL K H7 lr (rx.map V.int):=SqL.of hr7;have hq7:=s7 _ _ hq6;have hP7:=hP6.same s7;have s67:=s6.trans s7;clear hx7 hq6 hP6 s6 s7;walk_at "rz";refine a6k (fun h0=>?_) (fun h0=>?_)
     · walk_at "rz";refine a6k (fun h1=>?_) (fun h1=>?_)
       · walk_at "rz";intro lr2 hlr2;have s78:=Same.new (o:=.lst [.int z,.int (z / 17)]) hlr2;replace hx8:=SqL.same' hx8 s78;replace hq7:=s78 _ _ hq7;replace hP7:=hP7.same s78;have hr9:(upd H7 lr2 (.lst [.int z,.int (z / 17)])) lr2=some (.lst [.int z,.int (z / 17)]):=a0d;replace s67:=s67.trans s78;generalize upd H7 lr2 (.lst [.int z,.int (z / 17)])=H8 at *;walk_at "rz";refine⟨.inl ⟨rfl,_,SqL.of hq7⟩,?_⟩;walk_at "rz";refine⟨_,_,rfl,by omega,Sz.mono (n:=20) (Sz.million (by omega) (by omega)) (by decide),fun v1 G1 t1 w1=>?_⟩;walk_at "rz";refine⟨_,_,rfl,by omega,Sz.mono (n:=20) (Sz.million (by omega) (by omega)) (by decide),fun v2 G2 t2 w2=>?_⟩;walk_at "rz";intro g hg;have sg:=(t1.trans t2).trans (Same.new (o:=.tup [v1,v2]) hg);refine⟨lq,us,_,rfl,rfl,sg _ _ hq7,a0o (by have:=hP7.len;omega),?_⟩;have tg:Tup (upd G2 g (.tup [v1,v2])) (upd (upd G2 g (.tup [v1,v2])) lq (.lst (us++[.ref g]))):=Tup.lst (sg _ _ hq7);have pv:PtV (upd G2 g (.tup [v1,v2])) (.ref g) _ _:=⟨g,v1,v2,rfl,a0d,(w1.same t2).same (Same.new hg),w2.same (Same.new hg)⟩
         refine⟨_,_,_,_,_,us++[.ref g],ps++[(_,_)],rfl,a2g hlq (s67.trans sg),a0d,((hP7.same sg).snoc pv).tup tg,by rw[c5n,hpl];rfl,fun p hp=>?_⟩;rcases c6q.mp hp with hp | hp
         · exact hov p hp
         · rw[c6g.mp hp];exact⟨a5r (by omega) (a6n (by omega) zsc zfa).1,a5r (by omega) (a6n (by omega) zsc zfa).2⟩
       · walk_at "rz";refine⟨.inl ⟨rfl,_,SqL.of hq7⟩,?_⟩;walk_at "rz";refine⟨_,_,rfl,by omega,Sz.mono (n:=20) (Sz.million (by omega) (by omega)) (by decide),fun v1 G1 t1 w1=>?_⟩;walk_at "rz";refine⟨_,_,rfl,by omega,Sz.mono (n:=20) (Sz.million (by omega) (by omega)) (by decide),fun v2 G2 t2 w2=>?_⟩;walk_at "rz";intro g hg;have sg:=(t1.trans t2).trans (Same.new (o:=.tup [v1,v2]) hg);refine⟨lq,us,_,rfl,rfl,sg _ _ hq7,a0o (by have:=hP7.len;omega),?_⟩;have tg:Tup (upd G2 g (.tup [v1,v2])) (upd (upd G2 g (.tup [v1,v2])) lq (.lst (us++[.ref g]))):=Tup.lst (sg _ _ hq7);have pv:PtV (upd G2 g (.tup [v1,v2])) (.ref g) _ _:=⟨g,v1,v2,rfl,a0d,(w1.same t2).same (Same.new hg),w2.same (Same.new hg)⟩
         refine⟨_,_,_,_,_,us++[.ref g],ps++[(_,_)],rfl,a2g hlq (s67.trans sg),a0d,((hP7.same sg).snoc pv).tup tg,by rw[c5n,hpl];rfl,fun p hp=>?_⟩;rcases c6q.mp hp with hp | hp
         · exact hov p hp
         · rw[c6g.mp hp];exact⟨a5r (by omega) (a6n (by omega) zsc zfa).1,a5r (by omega) (a6n (by omega) zsc zfa).2⟩
     · refine iteF ?_;walk_at "rz";refine⟨.inl ⟨rfl,_,SqL.of hq7⟩,?_⟩;walk_at "rz";refine⟨_,_,rfl,by omega,Sz.mono (n:=20) (Sz.million (by omega) (by omega)) (by decide),fun v1 G1 t1 w1=>?_⟩;walk_at "rz";refine⟨_,_,rfl,by omega,Sz.mono (n:=20) (Sz.million (by omega) (by omega)) (by decide),fun v2 G2 t2 w2=>?_⟩;walk_at "rz";intro g hg;have sg:=(t1.trans t2).trans (Same.new (o:=.tup [v1,v2]) hg);refine⟨lq,us,_,rfl,rfl,sg _ _ hq7,a0o (by have:=hP7.len;omega),?_⟩;have tg:Tup (upd G2 g (.tup [v1,v2])) (upd (upd G2 g (.tup [v1,v2])) lq (.lst (us++[.ref g]))):=Tup.lst (sg _ _ hq7);have pv:PtV (upd G2 g (.tup [v1,v2])) (.ref g) _ _:=⟨g,v1,v2,rfl,a0d,(w1.same t2).same (Same.new hg),w2.same (Same.new hg)⟩
       refine⟨_,_,_,_,_,us++[.ref g],ps++[(_,_)],rfl,a2g hlq (s67.trans sg),a0d,((hP7.same sg).snoc pv).tup tg,by rw[c5n,hpl];rfl,fun p hp=>?_⟩;rcases c6q.mp hp with hp | hp
       · exact hov p hp
       · rw[c6g.mp hp];exact⟨a5r (by omega) (a6n (by omega) zsc zfa).1,a5r (by omega) (a6n (by omega) zsc zfa).2⟩
   rintro σ H6 ⟨z10,z11,z12,z13,z14,us,ps,rfl,s6,hq6,hP6,hpl,hov⟩;have nlq:lq≠lb:=fun e=>by rw[e,hb5] at hlq;cases hlq
   refine⟨_,rfl,.inl ⟨rfl,_,SqL.of (s6 _ _ hb5)⟩,?_⟩;walk_at "rz";refine⟨lb,vs,_,rfl,rfl,s6 _ _ hb5,a0o (by omega),?_⟩;have tg:Tup H6 (upd H6 lb (.lst (vs++[.ref lq]))):=Tup.lst (s6 _ _ hb5);refine⟨_,_,_,_,_,_,_,vs++[.ref lq],rfl,a2g hlbH (s5.trans s6),by rw[a0m nls];exact s6 _ _ hx5',a0d,by rw[c5n,hvl];rfl,fun j v e=>?_⟩;rcases a7q e with⟨e1,e2⟩ | ⟨e1,rfl⟩
   · obtain⟨l,ws,ps',n1,c1⟩:=hvs j v e2;exact⟨l,ws,ps',n1,c1.ref,by rw[a0m n1];exact s6 _ _ c1.lst,(c1.pts.same s6).tup tg,c1.l1,c1.l2,c1.ov⟩
   · exact⟨lq,us,ps,nlq,rfl,by rw[a0m nlq];exact hq6,hP6.tup tg,by omega,by omega,hov⟩
 rintro σ H5 ⟨y8,y9,y10,y11,y12,y13,y14,vs,rfl,s5,hx5,hb5,hvl,hvs⟩;obtain⟨v0,v1,rfl⟩:=len2 (l:=vs) hvl;obtain⟨l0,w0,p0,n0',c0⟩:=hvs 0 v0 rfl;obtain⟨l1,w1,p1,n1',c1⟩:=hvs 1 v1 rfl;obtain rfl:=c0.ref;obtain rfl:=c1.ref;walk_at "rz";refine ifB (fun _=>?_) (fun _=>?_)
 · walk_at "rz";refine⟨l0,_,rfl,SqL.of c0.lst,fun l2 hl2=>?_⟩;have s6:=Same.new (o:=.lst w0.reverse) hl2;have hb6:=s6 _ _ hb5;have n2:l2≠lb:=fun e=>by rw[e,hb5] at hl2;cases hl2
   walk_at "rz";show Q (V.ref lb) (upd (upd H5 l2 (.lst w0.reverse)) lb (.lst [.ref l0,.ref l2]));have tg:Tup (upd H5 l2 (.lst w0.reverse)) (upd (upd H5 l2 (.lst w0.reverse)) lb (.lst [.ref l0,.ref l2])):=Tup.lst hb6;refine k lb l0 l2 w0 w0.reverse p0 p0.reverse BB _ (a2g hlbH (s5.trans s6)) hlbH a0d ⟨rfl,by rw[a0m n0'];exact s6 _ _ c0.lst,(c0.pts.same s6).tup tg,c0.l1,c0.l2,c0.ov⟩ ⟨rfl,by rw[a0m n2];exact a0d,(c0.pts.rev.same s6).tup tg,by rw[c7k];exact c0.l1,by rw[c7k];exact c0.l2,fun p hp=>c0.ov p (c8j.mp hp)⟩ B1 B3
 · walk_at "rz";exact k lb l0 l1 w0 w1 p0 p1 BB H5 s5 hlbH hb5 c0 c1 B1 B3
theorem c0b(F:a0q K mg "_law_whole" a5o ["_law_found"])(B:Blt mg):a1b P w K mg base CX0 1 "_law_whole" ["_law_found"] c1k:=by
 refine a1j F b9r (fun vs H Q E h=>?_) (fun f cdv A outer s H vs Q E hr h=>?_)
 · obtain⟨i,rfl,_⟩:=h;rfl
 obtain⟨i,rfl,k⟩:=h;have hu:=hr.units;refine⟨_,(a0h (a0r (pe_andI (a0w (a6m K) (by rfl) B.isinstance c8l (a0a (pvI 0) (a0a (a7y (v:=.ty "int") rfl B.int PyProof.Rows.boot_int rfl) a0c))) (pe_oneI (pe_notI (a0w (a6m K) (by rfl) B.isinstance c8l (a0a (pvI 0) (a0a (a7y (v:=.ty "bool") rfl B.bool PyProof.Rows.boot_bool rfl) a0c)))))))),?_⟩;refine⟨_,rfl,_,"int",_,_,rfl,TyOf.int i,c3q K,_,rfl,iteT ?_⟩;exact⟨_,rfl,_,"bool",_,_,rfl,TyOf.int i,c3r K,_,rfl,k⟩
theorem b3q(F:a0q K mg "_law_is_share" a3t ["_law_found"])(B:Blt mg)(D_l_part:a1b P w K mg base CX0 1 "_law_part" ["_law_one","_law_other"] b7x)(D_l_whole:a1b P w K mg base CX0 1 "_law_whole" ["_law_found"] c1k):a1b P w K mg base CX0 2 "_law_is_share" ["_law_found"] b0k:=by
 refine a1j F b3k (fun vs H Q E h=>?_) (fun f cdv A outer s H vs Q E hr h=>?_)
 · obtain⟨x,q,rfl,_⟩:=h;rfl
 obtain⟨x,q,rfl,⟨a,rfl,ha⟩,k⟩:=h;have hu:=hr.units;refine⟨_,(a0e (a2h (a8j (b2p (a7f (a5x (a0w (a6m K) (by rfl) B.isinstance c8l (a0a (pvI 0) (a0a (a7y (v:=.ty "tuple") rfl B.tuple PyProof.Rows.boot_tuple rfl) a0c))))) (b0t (a1c c2p (a0w (a1p K) (by rfl) B.len PySem.boot_len (a0a (pvI 0) a0c)) a0b (a1t _))))) (a0h (a0r a7z)) a1o) (a0e (a2h (a8j (b2p (a7f (a5x (a0s D_l_whole hr a1k (a0a (a0k (a0l K) (pvI 0) a0b (fun _ _=>rfl)) a0c)))) (b2p (a7f (a5x (a0s D_l_whole hr a1k (a0a (a0k (a0l K) (pvI 0) a0b (fun _ _=>rfl)) a0c)))) (b0t (a1c b9x (a0k (a0l K) (pvI 0) a0b (fun _ _=>rfl)) a0b (a1t _)))))) (a0h (a0r a7z)) a1o) (a0h (a0r (pe_cmpRI a9m (a0s D_l_part hr a1k (a0a (a0w b4g (by rfl) B.abs PyProof.Rows.boot_abs (a0a (a0k (a0l K) (pvI 0) a0b (fun _ _=>rfl)) a0c)) (a0a (a0k (a0l K) (pvI 0) a0b (fun _ _=>rfl)) a0c))) a0b (a1t _)))))),?_⟩;refine⟨_,rfl,_,"tuple",_,_,rfl,TyOf.tup ha,c3p K,_,rfl,ifF rfl ?_⟩;refine⟨_,rfl,a,_,rfl,.inr (SqT.of ha),rfl,_,rfl,ifF rfl ?_⟩;refine⟨_,rfl,a,_,_,_,rfl,rfl,SqT.of ha,rfl,_,rfl,_,rfl,ifF rfl ?_⟩;refine⟨_,rfl,a,_,_,_,rfl,rfl,SqT.of ha,rfl,_,rfl,_,rfl,ifF rfl ?_⟩;refine⟨_,rfl,a,_,_,_,rfl,rfl,SqT.of ha,rfl,_,_,rfl,rfl,_,rfl,ifF ?_ ?_⟩
 · have:=b9g q;simp only[decide_eq_false_iff_not];omega
 · refine⟨_,rfl,a,_,_,_,rfl,rfl,SqT.of ha,rfl,_,rfl,_,rfl,a,_,_,_,rfl,rfl,SqT.of ha,rfl,_,_,rfl,(by split<;>omega),(by have:=b9g q;omega),rfl,?_⟩;rw[gcd_red];exact k
theorem b5f(F:a0q K mg "_law_is_line" a4c ["_law_told","_law_some","_law_others"])(B:Blt mg)(D_l_is_share:a1b P w K mg base CX0 2 "_law_is_share" ["_law_found"] b0k):a1b P w K mg base CX0 3 "_law_is_line" ["_law_told","_law_some","_law_others"] (b7z K):=by
 refine a1j F a1y (fun vs H Q E h=>?_) (fun f cdv A outer s H vs Q E hr h=>?_)
 · obtain⟨c,l0,l1,w0,w1,ps,qs,rfl,_⟩:=h;rfl
 obtain⟨c,l0,l1,w0,w1,ps,qs,rfl,⟨v1,v2,v3,q1,q2,q3,hc,g1,g2,g3,b1,b2,b3,hL⟩,h0,hP,h1,hQ,bp,bq,k⟩:=h;have hu:=hr.units;refine⟨_,(a0e (a2n PassesOwn.never rfl (b2t rfl B.range (a0a a0b (a0a a0b a0c))) (a0g (i:=3) a1y.nd rfl (Or.inl rfl)) (a0h (a2h (a7f (a5x (a0s D_l_is_share hr a1k (a0a (a0k (a0l K) (pvI 0) (pvI 3) (fun _ _=>rfl)) a0c)))) (a0h (a0r a7z)) a1o))) (a0e (ps_par3I (i:=4) (j:=5) (k:=6) rfl a1y.nd rfl rfl rfl (by decide) (by decide) (by decide) rfl rfl rfl (a0a (a0k (a0l K) (pvI 0) a0b (fun _ _=>rfl)) (a0a (a0k (a0l K) (pvI 0) a0b (fun _ _=>rfl)) (a0a (a0k (a0l K) (pvI 0) a0b (fun _ _=>rfl)) a0c))) rfl) (a0e (a2n PassesOwn.never rfl (a1l K (a1q (a0a (a0y (a0a a0b (a0a (pvI 1) a0c))) (a0a (a0y (a0a (a7x a7m a0b) (a0a (pvI 2) a0c))) a0c)))) (a1h (n:=2) K rfl (a0i (a0g (i:=7) a1y.nd rfl (Or.inl rfl)) (a0i (a0g (i:=8) a1y.nd rfl (Or.inl rfl)) a1e))) (a0h (a2n PassesOwn.never rfl (a1l K (pvI 8)) (a1h (n:=2) K rfl (a0i (a0g (i:=9) a1y.nd rfl (Or.inl rfl)) (a0i (a0g (i:=10) a1y.nd rfl (Or.inl rfl)) a1e))) (a0e (a0p (i:=11) a1y.nd rfl (Or.inl rfl) (a0j a0u (a0j a0u (a0j a0u (a0k (a0l K) (pvI 4) a0b (fun _ _=>rfl)) (a0k (a0l K) (pvI 9) a0b (fun _ _=>rfl))) (a0k (a0l K) (pvI 5) a0b (fun _ _=>rfl))) (a0k (a0l K) (pvI 10) a0b (fun _ _=>rfl)))) (a0e (a0p (i:=12) a1y.nd rfl (Or.inl rfl) (a0j a0u (a0j a0u (a0j a0u (a0k (a0l K) (pvI 4) a0b (fun _ _=>rfl)) (a0k (a0l K) (pvI 9) a0b (fun _ _=>rfl))) (a0k (a0l K) (pvI 5) a0b (fun _ _=>rfl))) (a0k (a0l K) (pvI 10) a0b (fun _ _=>rfl)))) (a0e (a0p (i:=12) a1y.nd rfl (Or.inl rfl) (a0j a2f (pvI 12) (a0j a0u (a0j a0u (a0j a0u (a0k (a0l K) (pvI 5) a0b (fun _ _=>rfl)) (a0k (a0l K) (pvI 10) a0b (fun _ _=>rfl))) (a0k (a0l K) (pvI 4) a0b (fun _ _=>rfl))) (a0k (a0l K) (pvI 9) a0b (fun _ _=>rfl))))) (a0h (a2h (a1c op_ge (a0j a0u (a0j a0u (pvI 7) (pvI 12)) (a0k (a0l K) (pvI 6) a0b (fun _ _=>rfl))) (a0j a0u (a0j a0u (pvI 7) (a0k (a0l K) (pvI 6) a0b (fun _ _=>rfl))) (pvI 11)) (a1t _)) (a0h (a0r a7z)) a1o)))))))) (a0h (a0r a7z))))),?_⟩;walk_at "rz";refine⟨1,4,rfl,⟨by decide,by decide,by decide,by decide⟩,a4i (lo:=1) (n:=3) (fun i σ H'=>∃ (y:Option V),σ=[some (.ref c),some (.ref l0),some (.ref l1),y,none,none,none,none,none,none,none,none,none]∧H'=H) ⟨none,rfl,rfl⟩ ?_ ?_⟩
 · rintro i σ H2 hi ⟨y,rfl,rfl⟩;obtain⟨v,q,hv,gv⟩ : ∃ v q,atI [V.str "line",v1,v2,v3] (1+(i:Int))=some v∧ShV H2 v q:=by
     match i,hi with
     | 0,_=>exact⟨v1,q1,rfl,g1⟩
     | 1,_=>exact⟨v2,q2,rfl,g2⟩
     | 2,_=>exact⟨v3,q3,rfl,g3⟩
   walk_at "rz";refine⟨v,q,rfl,gv,?_⟩;walk_at "rz";rfl
 rintro σ H2 ⟨y3,rfl,rfl⟩;walk_at "rz";refine⟨_,_,_,rfl,?_⟩;walk_at "rz";intro t1 ht1;have u1:=Same.new (o:=.tup [.int 1,.ref l0]) ht1;walk_at "rz";intro t2 ht2;have u2:=Same.new (o:=.tup [.int (-1),.ref l1]) ht2;walk_at "rz";intro lt hlt;have u3:=Same.new (o:=.lst [.ref t1,.ref t2]) hlt;have sA:=(u1.trans u2).trans u3;have k1:=u3 _ _ (u2 _ _ (a0d (H:=H2) (a:=t1) (o:=.tup [.int 1,.ref l0])));have k2:=u3 _ _ (a0d (H:=upd H2 t1 (.tup [.int 1,.ref l0])) (a:=t2) (o:=.tup [.int (-1),.ref l1]));have k3:(upd (upd (upd H2 t1 (.tup [.int 1,.ref l0])) t2 (.tup [.int (-1),.ref l1])) lt (.lst [.ref t1,.ref t2])) lt=some (.lst [.ref t1,.ref t2]):=a0d;replace h0:=sA _ _ h0;replace h1:=sA _ _ h1;replace hP:=hP.same sA;replace hQ:=hQ.same sA;replace g1:=g1.same sA;replace g2:=g2.same sA;replace g3:=g3.same sA;obtain⟨S1,S2⟩:=hL.side;clear u1 u2 u3 ht1 ht2 hlt hc hL;generalize upd (upd (upd H2 t1 (.tup [.int 1,.ref l0])) t2 (.tup [.int (-1),.ref l1])) lt (.lst [.ref t1,.ref t2])=H3 at *;obtain⟨a1,rfl,g1⟩:=g1;obtain⟨a2,rfl,g2⟩:=g2;obtain⟨a3,rfl,g3⟩:=g3;walk_at "rz";refine⟨⟨_,SqL.of k3⟩,a4n (xs:=[.ref t1,.ref t2]) (fun i σ H'=>∃ (y3 y7 y8 y9 y10 y11 y12:Option V),σ=[some (.ref c),some (.ref l0),some (.ref l1),y3,some (.ref a1),some (.ref a2),some (.ref a3),y7,y8,y9,y10,y11,y12]∧H'=H3) ⟨_,none,none,none,none,none,none,rfl,rfl⟩ (fun i σ H' _ ⟨_,_,_,_,_,_,_,_,e⟩=>by rw[e];exact SqL.of k3) ?_ ?_⟩
 · rintro i v σ H4 hv ⟨y3,y7,y8,y9,y10,y11,y12,rfl,rfl⟩;obtain⟨t,s,l,ws,pts,rfl,kt,kl,kP,kb,kS,ks⟩ : ∃ (t:Addr) (s:Int) (l:Addr) (ws:List V) (pts:List Pt),v=.ref t∧H4 t=some (.tup [.int s,.ref l])∧H4 l=some (.lst ws)∧PtsV H4 ws pts∧(∀ p∈pts,Bd 2000 p.1∧Bd 2000 p.2)∧SideQ s q1 q2 q3 pts∧Sz 2 s:=by
     match i,hv with
     | 0,hv=>cases hv;exact⟨t1,1,l0,w0,ps,rfl,k1,h0,hP,bp,S1,⟨by decide⟩⟩
     | 1,hv=>cases hv;exact⟨t2,-1,l1,w1,qs,rfl,k2,h1,hQ,bq,S2,⟨by decide⟩⟩
     | i+2,hv=>simp at hv
   refine⟨t,_,rfl,SqT.of kt,rfl,_,_,rfl,_,_,rfl,rfl,?_⟩;walk_at "rz";refine⟨⟨_,SqL.of kl⟩,a4n (xs:=ws) (fun i σ H'=>∃ (y3 y9 y10 y11 y12:Option V),σ=[some (.ref c),some (.ref l0),some (.ref l1),y3,some (.ref a1),some (.ref a2),some (.ref a3),some (.int s),some (.ref l),y9,y10,y11,y12]∧H'=H4) ⟨_,_,_,_,_,rfl,rfl⟩ (fun i σ H' _ ⟨_,_,_,_,_,_,e⟩=>by rw[e];exact SqL.of kl) ?_ ?_⟩
   · rintro j v σ H5 hv ⟨y3,y9,y10,y11,y12,rfl,rfl⟩;obtain⟨p,ep,ap,vx,vy,rfl,hp,⟨ax,rfl,gx⟩,⟨ay,rfl,gy⟩⟩:=kP.atV hv;have hpm:=c5p ep;obtain⟨bx,by_⟩:=kb p hpm;have lt:=kS p hpm;refine⟨ap,_,rfl,SqT.of hp,rfl,_,_,rfl,_,_,rfl,rfl,?_⟩;walk_at "rz";refine ifF (by simpa using lt) ?_;exact⟨_,_,_,_,_,rfl,rfl⟩
   rintro σ H5 ⟨y3,y9,y10,y11,y12,rfl,rfl⟩;exact⟨_,_,_,_,_,_,_,rfl,rfl⟩
 rintro σ H4 ⟨y3,y7,y8,y9,y10,y11,y12,rfl,rfl⟩;walk_at "rz";exact k _ sA
theorem c2u(F:a0q K mg "_law_mean" a6s ["_law_parts","_law_places"])(B:Blt mg)(D_l_share:a1b P w K mg base CX0 2 "_law_share" ["_law_top","_law_bottom"] a9y)(D_l_is_share:a1b P w K mg base CX0 2 "_law_is_share" ["_law_found"] b0k):a1b P w K mg base CX0 3 "_law_mean" ["_law_parts","_law_places"] (c1m K):=by
 refine a1j F a3i (fun vs H Q E h=>?_) (fun f cdv A outer s H vs Q E hr h=>?_)
 · obtain⟨l,m,vl,ws,rs,ps,n1,n2,rfl,_⟩:=h;rfl
 obtain⟨l,m,vl,ws,rs,ps,n1,n2,rfl,hl,hR,hm,hP,hrp,br,bp,s21,hz,z1,z2,k⟩:=h;have hu:=hr.units;refine⟨_,(a0e (a2h (a8j (b2p (a7f (a5x (a0w (a6m K) (by rfl) B.isinstance c8l (a0a (pvI 0) (a0a (a7y (v:=.ty "list") rfl B.list c8u rfl) a0c))))) (b0t (a1c c2p (a0w (a1p K) (by rfl) B.len PySem.boot_len (a0a (pvI 0) a0c)) (a0w (a1p K) (by rfl) B.len PySem.boot_len (a0a (pvI 1) a0c)) (a1t _))))) (a0h (a0r a7h)) a1o) (a0e (a0p (i:=2) a3i.nd rfl (Or.inl rfl) (a1q a0c)) (a0e (a2n PassesOwn.never rfl (a3d rfl B.range (a0a a0b a0c)) (a0g (i:=3) a3i.nd rfl (Or.inl rfl)) (a0e (a0p (i:=4) a3i.nd rfl (Or.inl rfl) a0b) (a0e (a0p (i:=5) a3i.nd rfl (Or.inl rfl) a0b) (a0e (a2n PassesOwn.never rfl (show PIi _ _ _ (iZip K _) from (b3o rfl B.zip (a0a (pvI 0) (a0a (pvI 1) a0c)))) (a1h (n:=2) K rfl (a0i (a0g (i:=6) a3i.nd rfl (Or.inl rfl)) (a0i (a0g (i:=7) a3i.nd rfl (Or.inl rfl)) a1e))) (a0e (a2h (a8j (b2p (a7f (a5x (a0s D_l_is_share hr a1k (a0a (pvI 6) a0c)))) (b0t (a1c b9x (a0k (a0l K) (pvI 6) a0b (fun _ _=>rfl)) a0b (a1t _))))) (a0h (a0r a7h)) a1o) (a0e (a0p (i:=8) a3i.nd rfl (Or.inl rfl) (a0k (a0l K) (a0j (a4m K) (pvI 7) (a0y (a0a (a0y (a0a a0b (a0a a0b a0c))) a0c))) (pvI 3) (fun _ _=>rfl))) (a0e (a0p (i:=9) a3i.nd rfl (Or.inl rfl) (a0j a0u (a0k (a0l K) (pvI 6) a0b (fun _ _=>rfl)) (a0k (a0l K) (pvI 8) a0b (fun _ _=>rfl)))) (a0e (a0p (i:=4) a3i.nd rfl (Or.inl rfl) (a0j a2f (a0j a0u (pvI 4) (pvI 9)) (a0j a0u (a0j a0u (a0k (a0l K) (pvI 6) a0b (fun _ _=>rfl)) (a0k (a0l K) (pvI 8) a0b (fun _ _=>rfl))) (pvI 5)))) (a0h (a0p (i:=5) a3i.nd rfl (Or.inl rfl) (a0j a0u (pvI 5) (pvI 9))))))))) (a0h (a3g (show PEi _ _ (tBM K _ _ _ _) from (a5a c6v c7d c7e a2l (pvI 2) (a0a (a0s D_l_share hr a1k (a0a (pvI 4) (a0a (pvI 5) a0c))) a0c))))))))) (a0h (a0r (pvI 2)))))),?_⟩;have hll:=hR.len;have hwl:=hP.len;walk_at "rz";refine ifF (by simp;omega) ?_;walk_at "rz";intro lf hlf;walk_at "rz";refine a4i (n:=3) (fun i σ H'=>∃ (y3 y4 y5 y6 y7 y8 y9:Option V) (vs:List V),σ=[some (.ref l),some (.ref m),some (.ref lf),y3,y4,y5,y6,y7,y8,y9]∧Same H H'∧H' lf=some (.lst vs)∧ShL H' vs ((c7s i).map fun a=>dotQ rs (axC ps a))) ⟨none,none,none,none,none,none,none,[],rfl,Same.new hlf,a0d,ShL.nil _⟩ ?_ ?_
 · rintro ai σ H2 hai ⟨y3,y4,y5,y6,y7,y8,y9,vs,rfl,s2,h2,hV⟩;walk_at "rz";have hR2:=hR.same s2;have hP2:=hP.same s2;have nlf:H lf=none:=hlf;refine⟨l,m,rfl,⟨_,SqL.of (s2 _ _ hl)⟩,⟨_,SqL.of (s2 _ _ hm)⟩,c0l (a7v (SqL.of (s2 _ _ hl)) (SqL.of (s2 _ _ hm))) (fun i σ H'=>∃ (top bot:Int) (y6 y7 y8 y9:Option V),σ=[some (.ref l),some (.ref m),some (.ref lf),some (.int (0+(ai:Int))),some (.int top),some (.int bot),y6,y7,y8,y9]∧Same H2 H'∧0<bot∧(top:Rat)=dotQ (rs.take i) ((axC ps ai).take i)*bot∧Sz (1+i*(n1+n2+1)) top∧Sz (1+i*(n1+n2+1)) bot) ⟨0,1,y6,y7,y8,y9,rfl,L2.Same.refl _,by decide,by simp[dotQ],by rw[Nat.zero_mul];exact⟨by decide⟩,by rw[Nat.zero_mul];exact⟨by decide⟩⟩ (fun i σ H' ⟨_,_,_,_,_,_,_,s,_⟩=>s) ?_ ?_⟩
   · rintro i a σ H3 H4 hi ⟨top,bot,y6,y7,y8,y9,rfl,s3,b0,et,zt,zb⟩ s34 ha;have hi2:i<rs.length:=by omega
     have er:rs[i]?=some (rs[i]'hi2):=c5j _;have ep:ps[i]?=some (ps[i]'(by omega (config:={}))):=c5j _;have ec:(axC ps ai)[i]?=some ((axC ps ai)[i]'(by rw[a9d];omega)):=c5j _;have hbr:=br _ (c5p er);have hbp:=bp _ (c5p ep);have s4:=s3.trans s34;obtain⟨vr,evr,ar,rfl,gr⟩:=(hR2.same s4).at er;obtain⟨vp,evp,ap,vx,vy,rfl,gp,gx,gy⟩:=(hP2.same s4).at ep;rw[evr,evp] at ha;have dq:=c4o er ec;have cv:∀ (H5:Hp) (g:Addr),Same H4 H5→H5 g=some (.tup [.int 1,.int 1])→∃ w aw,atI [vx,vy,V.ref g] (0+(ai:Int))=some w∧w=.ref aw∧H5 aw=some (.tup [.int ((axC ps ai)[i]'(by rw[a9d];omega)).num,.int (((axC ps ai)[i]'(by rw[a9d];omega)).den:Int)])∧Bd n2 ((axC ps ai)[i]'(by rw[a9d];omega)):=by
       intro H5 g s5 hg;match ai,hai,ec with
       | 0,_,ec=>
         obtain⟨a1,rfl,q1⟩:=gx;refine⟨_,a1,rfl,rfl,?_,?_⟩
         · simp[axC];exact s5 _ _ q1
         · simp[axC];exact hbp.1
       | 1,_,ec=>
         obtain⟨a1,rfl,q1⟩:=gy;refine⟨_,a1,rfl,rfl,?_,?_⟩
         · simp[axC];exact s5 _ _ q1
         · simp[axC];exact hbp.2
       | 2,_,ec=>
         refine⟨_,g,rfl,rfl,?_,?_⟩
         · simp[axC];exact hg
         · simp[axC];exact Bd.one'.mono s21
     generalize (axC ps ai)[i]'(by rw[a9d];omega)=cc at *;generalize rs[i]'hi2=r at *;refine⟨a,_,rfl,ha,rfl,_,_,rfl,_,_,rfl,rfl,?_⟩;walk_at "rz";refine⟨.ref ar,r,rfl,⟨ar,rfl,gr⟩,?_⟩;walk_at "rz";have rn:0≤r.num:=Rat.num_nonneg.mpr hbr.1;refine ifF (by simpa using rn) ?_;walk_at "rz";intro g1 hg1;have u1:=Same.new (o:=.tup [.int 1,.int 1]) hg1;walk_at "rz";intro g2 hg2;have u2:=Same.new (o:=.tup [.ref g1]) hg2;refine⟨ap,g2,_,_,rfl,rfl,SqT.of (u2 _ _ (u1 _ _ gp)),SqT.of a0d,by simp,by show 3≤sizeLine;decide,fun z=>(nomatch z),fun _ g3 hg3=>?_⟩;have u3:=Same.new (o:=.tup ([vx,vy]++[.ref g1])) hg3;have uA:=(u1.trans u2).trans u3;obtain⟨w,aw,hw,rfl,gw,bw⟩:=cv _ g1 uA (u3 _ _ (u2 _ _ a0d));have k3:=a0d (H:=upd (upd H4 g1 (.tup [.int 1,.int 1])) g2 (.tup [.ref g1])) (a:=g3) (o:=.tup ([vx,vy]++[.ref g1]));replace gr:=uA _ _ gr;replace s4:=s4.trans uA;clear cv u1 u2 u3 hg1 hg2 hg3 uA ha;generalize upd (upd (upd H4 g1 (.tup [.int 1,.int 1])) g2 (.tup [.ref g1])) g3 (.tup ([vx,vy]++[.ref g1]))=H5 at *;walk_at "rz";have zr:=Bd.num hbr.2;have zrd:=Bd.den hbr.2;have zc:=Bd.num bw;have zcd:=Bd.den bw;have hml:i*(n1+n2+1)≤8900:=c7w (Nat.mul_le_mul_right _ (c7r hi2)) hz;have zlow:=Sz.mul zrd zcd;have zrc:=Sz.mul zr zc;walk_at "rz";refine⟨mulB zrd zcd (by omega),?_⟩;walk_at "rz";refine⟨mulB zt zlow (by omega),?_⟩;walk_at "rz";refine⟨mulB zr zc (by omega),?_⟩;walk_at "rz";refine⟨mulB zrc zb (by omega),?_⟩;walk_at "rz";refine⟨mulB zb zlow (by omega),?_⟩;have sm:=d0t i (n1+n2+1);have dl:(0:Int)<(r.den:Int)*(cc.den:Int):=c7q (by exact_mod_cast r.den_pos) (by exact_mod_cast cc.den_pos);walk_at "cd";refine⟨_,_,_,_,_,_,rfl,s4,c7q b0 dl,?_,?_,?_⟩
     · rw[dq];exact c3f et rfl
     · exact (Sz.add (Sz.mul zt zlow) (Sz.mul zrc zb)).mono (by rw[Nat.succ_eq_add_one] at sm;omega)
     · exact (Sz.mul zb zlow).mono (by rw[Nat.succ_eq_add_one] at sm;omega)
   rintro σ H3 ⟨top,bot,y6,y7,y8,y9,rfl,s3,b0,et,zt,zb⟩;have hmin:min vl.length ws.length=rs.length:=by omega
   rw[hmin] at et zt zb;rw[c6x (c5v _),c6x (by rw[a9d];omega)] at et;refine⟨_,rfl,.inl ⟨rfl,_,SqL.of (s3 _ _ h2)⟩,?_⟩;walk_at "rz";refine⟨top,bot,rfl,b0,zb.mono (by omega),fun v H4 s4 gv=>?_⟩;have hv:c5r top bot=dotQ rs (axC ps ai):=by
     have nb:(bot:Rat)≠0:=a9c b0;have:=a2t (x:=top) b0;rw[et] at this;exact a4f nb this
   rw[hv] at gv;walk_at "rz";have h4:=s4 _ _ (s3 _ _ h2);have hvl:=hV.len;rw[c5l,c7z] at hvl;refine⟨lf,vs,v,rfl,rfl,h4,a0o (by omega),?_⟩;have tg:Tup H4 (upd H4 lf (.lst (vs++[v]))):=Tup.lst h4;refine⟨_,_,_,_,_,_,_,vs++[v],rfl,a2g hlf ((s2.trans s3).trans s4),a0d,?_⟩;rw[List.range_succ,d0f];exact ((((hV.same s3).same s4).tup tg).snoc (gv.tup tg))
 rintro σ H2 ⟨y3,y4,y5,y6,y7,y8,y9,vs,rfl,s2,h2,hV⟩;walk_at "rz";have hvl:=hV.len;obtain⟨u1,u2,u3,rfl⟩:=len3 (l:=vs) (by rw[hvl];rfl);refine k lf u1 u2 u3 H2 s2 hlf h2 (hV.get 0 _ _ rfl rfl) (hV.get 1 _ _ rfl rfl) ?_;have:=hV.get 2 u3 _ rfl rfl;have e:dotQ rs (axC ps 2)=rs.sum:=by
   show dotQ rs (c5q ps.length 1)=_;rw[← hrp];exact b5r rs
 rw[← e];exact this
theorem c2v(F:a0q K mg "_law_kind" a6t ["_law_told","_law_some","_law_others"])(B:Blt mg)(D_l_is_line:a1b P w K mg base CX0 3 "_law_is_line" ["_law_told","_law_some","_law_others"] (b7z K))(D_l_mean:a1b P w K mg base CX0 3 "_law_mean" ["_law_parts","_law_places"] (c1m K)):a1b P w K mg base CX0 4 "_law_kind" ["_law_told","_law_some","_law_others"] (c1n K):=by
 refine a1j F b4v (fun vs H Q E h=>?_) (fun f cdv A outer s H vs Q E hr h=>?_)
 · obtain⟨c,l0,l1,w0,w1,ps,qs,rfl,_⟩:=h;rfl
 obtain⟨c,l0,l1,w0,w1,ps,qs,rfl,h0,hP,h1,hQ,kk⟩:=h;have hu:=hr.units;refine⟨_,(a0e (a2h (a8j (b2p (a7f (a5x (a0w (a6m K) (by rfl) B.isinstance c8l (a0a (pvI 0) (a0a (a7y (v:=.ty "tuple") rfl B.tuple PyProof.Rows.boot_tuple rfl) a0c))))) (b0t (a1c a9m (a0w (a1p K) (by rfl) B.len PySem.boot_len (a0a (pvI 0) a0c)) a0b (a1t _))))) (a0h (a0r a4z)) a1o) (a0e (a2h (a8j (a8s (a1c a9m (a0k (a0l K) (pvI 0) a0b (fun _ _=>rfl)) a4z (a1t _)) (a8s (a1c a9m (a0w (a1p K) (by rfl) B.len PySem.boot_len (a0a (pvI 0) a0c)) a0b (a1t _)) (b0a (a5x (a0s D_l_is_line hr a1k (a0a (pvI 0) (a0a (pvI 1) (a0a (pvI 2) a0c))))))))) (a0h (a0r a4z)) a1o) (a0e (a2h (a8j (a8s (a1c a9m (a0k (a0l K) (pvI 0) a0b (fun _ _=>rfl)) a4z (a1t _)) (b0a (a1c a9m (a0w (a1p K) (by rfl) B.len PySem.boot_len (a0a (pvI 0) a0c)) a0b (a1t _))))) (a0e (a0p (i:=3) b4v.nd rfl (Or.inl rfl) (a0s D_l_mean hr a1k (a0a (a0k (a0l K) (pvI 0) a0b (fun _ _=>rfl)) (a0a (pvI 1) a0c)))) (a0h (a2h (a8j (a8s (a1c op_notN (pvI 3) a7h (a1t _)) (a8s (a1c (b0v K hu) (pvI 3) (a0s D_l_mean hr a1k (a0a (a0k (a0l K) (pvI 0) a0b (fun _ _=>rfl)) (a0a (pvI 2) a0c))) (a1t _)) (b0a (a1c (b0v K hu) (a0k (a0v K) (pvI 3) a0b (fun _ _=>rfl)) (a0y (a0a a0b (a0a a0b a0c))) (a1t _)))))) (a0h (a0r a4z)) a1o))) a1o) (a0h (a0r a4z))))),?_⟩;rcases kk with⟨hL,bp,bq,k⟩ | ⟨s1,s2,d1,d2,hC,bp,bq,z1,y1,y2,z2,z3,k⟩
 · obtain⟨v1,v2,v3,q1,q2,q3,hc,hr⟩:=id hL;walk_at "rz";refine⟨c,l0,l1,w0,w1,ps,qs,rfl,hL,h0,hP,h1,hQ,bp,bq,fun H2 s2=>?_⟩;walk_at "rz";exact k _ s2
 · obtain⟨v1,v2,r1,r2,hc,g1,g2,S1,S2,br1,br2,mq⟩:=id hC;walk_at "rz";refine⟨d1,l0,v1,w0,r1,ps,s1,s2,rfl,g1,S1,h0,hP,mq.l1,fun r hr=>⟨mq.n1 r hr,br1 r hr⟩,bp,z1,by rw[mq.l1];exact y1,z2,z3,fun e1 u1 u2 u3 H2 t2 hn1 he1 a1 a2 a3=>?_⟩;have hc2:=t2 _ _ hc;walk_at "rz";refine⟨d2,l1,v2,w1,r2,qs,s1,s2,rfl,t2 _ _ g2,S2.same t2,t2 _ _ h1,hQ.same t2,mq.l2,fun r hr=>⟨mq.n2 r hr,br2 r hr⟩,bq,z1,by rw[mq.l2];exact y2,z2,z3,fun e2 w1' w2' w3' H3 t3 hn2 he2 b1 b2 b3=>?_⟩;rw[← mq.ex] at b1;rw[← mq.ey] at b2;rw[mq.o2] at b3;rw[mq.o1] at a3;have he1':=t3 _ _ he1;have L1:ShL H3 [u1,u2,u3] [dotQ r1 (ps.map (·.1)),dotQ r1 (ps.map (·.2)),1]:=shl3 (a1.same t3) (a2.same t3) (a3.same t3);have L2':ShL H3 [w1',w2',w3'] [dotQ r1 (ps.map (·.1)),dotQ r1 (ps.map (·.2)),1]:=shl3 b1 b2 b3;refine⟨_,_,L1.dn (SqL.of he1'),L2'.dn (SqL.of he2),b5s _ 6,b5s _ 6,fun b0 hb0=>?_⟩;obtain rfl:=hb0.mpr rfl;walk_at "rz";intro g hg;have ug:=Same.new (o:=.tup [.int 1,.int 1]) hg;have go:ShV (upd H3 g (.tup [.int 1,.int 1])) (.ref g) 1:=⟨g,rfl,a0d⟩
   refine⟨_,_,((a3.same t3).same ug).dn,go.dn,b3y 1 6,b3y 1 6,fun b1 hb1=>?_⟩;obtain rfl:=hb1.mpr rfl;walk_at "rz";exact k _ ((t2.trans t3).trans ug)
theorem b6y(F:a0q K mg "_law_halved" a4d ["_law_some"])(B:Blt mg):a1b P w K mg base CX0 1 "_law_halved" ["_law_some"] (b4r K):=by
 refine a1j F a3s (fun vs H Q E h=>?_) (fun f cdv A outer s H vs Q E hr h=>?_)
 · obtain⟨a,ws,c,n,rfl,_⟩:=h;rfl
 obtain⟨a,ws,c,n,rfl,ha,hP,h1,h12,hz,hn,k⟩:=h;have hu:=hr.units;refine⟨_,(a0e (a0p (i:=1) a3s.nd rfl (Or.inl rfl) (a0j a3z (a0w (a1p K) (by rfl) B.len PySem.boot_len (a0a (pvI 0) a0c)) a0b)) (a0e (a0p (i:=2) a3s.nd rfl (Or.inr rfl) (a5q (a3p K) rfl B.list c8u (a0a (pvI 0) a0c))) (a0e (a0p (i:=3) a3s.nd rfl (Or.inl rfl) (a1q a0c)) (a0e (a0p (i:=4) a3s.nd rfl (Or.inl rfl) (a1q a0c)) (a0e (a2n PassesOwn.never rfl (a3d rfl B.range (a0a (a0j a2f (pvI 1) a0b) a0c)) (a0g (i:=5) a3s.nd rfl (Or.inl rfl)) (a0e (a3g (show PEi _ _ (tBM K _ _ _ _) from (a5a c6v c7d c7e a2l (pvI 3) (a0a (a0y (a0a (a0j a0u (a0k (a0l K) (a0k (a0v K) (pvI 2) a0b (fun _ _=>rfl)) a0b (fun _ _=>rfl)) (a0j b2u a0b (a0j a3z (pvI 1) (pvI 5)))) (a0a (a0j a0u (a0k (a0l K) (a0k (a0v K) (pvI 2) a0b (fun _ _=>rfl)) a0b (fun _ _=>rfl)) (a0j b2u a0b (a0j a3z (pvI 1) (pvI 5)))) a0c))) a0c)))) (a0e (a3g (show PEi _ _ (tBM K _ _ _ _) from (a5a c6v c7d c7e a2l (pvI 4) (a0a (a0y (a0a (a0j a0u (a0k (a0l K) (a0k (a0v K) (pvI 2) (a7x a7m a0b) (fun _ _=>rfl)) a0b (fun _ _=>rfl)) (a0j b2u a0b (a0j a3z (pvI 1) (pvI 5)))) (a0a (a0j a0u (a0k (a0l K) (a0k (a0v K) (pvI 2) (a7x a7m a0b) (fun _ _=>rfl)) a0b (fun _ _=>rfl)) (a0j b2u a0b (a0j a3z (pvI 1) (pvI 5)))) a0c))) a0c)))) (a0h (a0p (i:=2) a3s.nd rfl (Or.inr rfl) (a2k (os:=["_law_j"]) (caps:=[(2,"_law_row")]) ["_law_some","_law_n","_law_row","_law_left","_law_right","_law_k"] (a0f a4d) (a3d rfl B.range (a0a (a0j a3z (a0w (a1p K) (by rfl) B.len PySem.boot_len (a0a (pvI 2) a0c)) a0b) a0c)) (fun _ _ _ _ _=>(a0g (i:=0) (show c6p (["_law_j","_law_row"]:List Str) from by decide +kernel) rfl (Or.inl rfl))) (fun _ _ _ _ _=>(a0y (a0a (a0j a2f (a0k (a0l K) (a0k (a0v K) (pvI 1) (pvI 0) (fun _ _=>rfl)) a0b (fun _ _=>rfl)) (a0k (a0l K) (a0k (a0v K) (pvI 1) (a0j a2f (pvI 0) a0b) (fun _ _=>rfl)) a0b (fun _ _=>rfl))) (a0a (a0j a2f (a0k (a0l K) (a0k (a0v K) (pvI 1) (pvI 0) (fun _ _=>rfl)) a0b (fun _ _=>rfl)) (a0k (a0l K) (a0k (a0v K) (pvI 1) (a0j a2f (pvI 0) a0b) (fun _ _=>rfl)) a0b (fun _ _=>rfl))) a0c)))) (by decide +kernel))))))) (a0h (a0r (a1q (a0a (pvI 3) (a0a (a6i K (pvI 4) (a3h (a7x a7m a0b))) a0c)))))))))),?_⟩;have hul:=hP.len;walk_at "rz";intro lr hlr;have s1:=Same.new (o:=.lst ws) hlr;have r1:=a0d (H:=H) (a:=lr) (o:=.lst ws);generalize upd H lr (.lst ws)=H1 at *;have hP1:=hP.same s1;walk_at "rz";intro lf hlf;have s2:=s1.trans (Same.new (o:=.lst []) hlf);have r2:=Same.new (o:=.lst []) hlf _ _ r1;have f2:=a0d (H:=H1) (a:=lf) (o:=.lst []);have hP2:=hP1.same (Same.new (o:=.lst []) hlf);have nlf:H lf=none:=s1.free hlf;generalize upd H1 lf (.lst [])=H2 at *;walk_at "rz";intro lg hlg;have s3:=s2.trans (Same.new (o:=.lst []) hlg);have r3:=Same.new (o:=.lst []) hlg _ _ r2;have f3:=Same.new (o:=.lst []) hlg _ _ f2;have g3:=a0d (H:=H2) (a:=lg) (o:=.lst []);have hP3:=hP2.same (Same.new (o:=.lst []) hlg);have nlg:H lg=none:=s2.free hlg;have nfg:lf≠lg:=fun z=>by rw[← z,f2] at hlg;cases hlg
 have nrf:lr≠lf:=fun z=>by rw[← z,r1] at hlf;cases hlf
 have nrg:lr≠lg:=fun z=>by rw[← z,r2] at hlg;cases hlg
 generalize upd H2 lg (.lst [])=H3 at *;clear s1 s2 hP1 hP2 r1 r2 f2 hlf hlg;walk_at "rz";refine⟨by omega,by omega,a4i (fun i σ H'=>∃ (lr:Addr) (rs us1 us2:List V) (y5:Option V),σ=[some (.ref a),some (.int ((ws.length:Int) - 1)),some (.ref lr),some (.ref lf),some (.ref lg),y5]∧Same H H'∧H' lf=some (.lst us1)∧H' lg=some (.lst us2)∧H' lr=some (.lst rs)∧lr≠lf∧lr≠lg∧PlsV H' rs (srow c i)∧PlsV H' us1 ((c7s i).map fun r=>hroL c r 0)∧PlsV H' us2 ((c7s i).map fun r=>hroL c r (c.length - 1 - r))) ⟨lr,ws,[],[],none,rfl,s3,f3,g3,r3,nrf,nrg,hP3,⟨rfl,fun i v p e=>by simp at e⟩,⟨rfl,fun i v p e=>by simp at e⟩⟩ ?_ ?_⟩
 · rintro i σ H4 hi ⟨lr,rs,us1,us2,y5,rfl,s4,q1,q2,q3,n1,n2,P3,P1,P2⟩;have hi':i<c.length:=by omega
   have hrl:=P3.len;rw[a3k] at hrl;have u1l:=P1.len;have u2l:=P2.len;rw[c5l,c7z] at u1l u2l;have zs:=c1j hz i;have e0:(srow c i)[0]?=some ((srow c i)[0]'(by rw[a3k];omega)):=c5j _;obtain⟨a0,w0,g0⟩:=P3.at e0;obtain⟨vL,wL,aL,rfl,gL⟩:=pls_last P3 (by rw[a3k];omega);rw[a3k] at gL;have v0:=c4b c i 0 (by omega);have v1:=c4b c i (c.length - 1 - i) (by omega);have zz0:Sz 2020 ((srow c i)[0]'(by rw[a3k];omega)).1∧Sz 2020 ((srow c i)[0]'(by rw[a3k];omega)).2:=⟨(zs _ (c6z _)).1.mono (by omega),(zs _ (c6z _)).2.mono (by omega)⟩
   have zz1:Sz 2020 (((srow c i)[c.length - 1 - i]?).getD (0,0)).1∧Sz 2020 (((srow c i)[c.length - 1 - i]?).getD (0,0)).2:=by
     have:=b1h (P:=fun p=>Sz (n+i) p.1∧Sz (n+i) p.2) ⟨a8l _,a8l _⟩ zs (c.length - 1 - i);exact⟨this.1.mono (by omega),this.2.mono (by omega)⟩
   rw[e0] at v0;simp only[Option.getD_some] at v0;generalize ((srow c i)[0]'(by rw[a3k];omega))=p0 at *;rw[show c.length - i - 1=c.length - 1 - i by omega] at gL;generalize ((srow c i)[c.length - 1 - i]?).getD (0,0)=pL at *;have hpw:(1:Int)*2^((ws.length:Int) - 1 - (0+(i:Int))).toNat=2^(c.length - 1 - i):=by
     rw[d1b,show ((ws.length:Int) - 1 - (0+(i:Int))).toNat=c.length - 1 - i by omega]
   have zpw:Sz 14 ((1:Int)*2^((ws.length:Int) - 1 - (0+(i:Int))).toNat):=by rw[hpw];exact (a4j _).mono (by omega)
   have hcp:CPow 1 ((ws.length:Int) - 1 - (0+(i:Int))):=⟨by omega,by omega,by decide⟩
   walk_at "rz";refine⟨.inl ⟨rfl,_,SqL.of q1⟩,?_⟩;walk_at "rz";refine⟨lr,rs,_,_,rfl,rfl,SqL.of q3,a1v (j:=0) rfl w0,?_⟩;walk_at "rz";refine⟨hcp,?_⟩;walk_at "rz";refine⟨mulN zz0.1 zpw (by decide),?_⟩;walk_at "rz";refine⟨lr,rs,_,_,rfl,rfl,SqL.of q3,a1v (j:=0) rfl w0,?_⟩;walk_at "rz";refine⟨hcp,?_⟩;walk_at "rz";refine⟨mulN zz0.2 zpw (by decide),?_⟩;walk_at "rz";intro t1 ht1;have k1:(upd H4 t1 (.tup [.int (p0.1*(1*2^((ws.length:Int) - 1 - (0+(i:Int))).toNat)),.int (p0.2*(1*2^((ws.length:Int) - 1 - (0+(i:Int))).toNat))])) t1=some (.tup [.int (hroL c i 0).1,.int (hroL c i 0).2]):=by rw[a0d,v0,hpw]
   have s5:=Same.new (o:=.tup [.int (p0.1*(1*2^((ws.length:Int) - 1 - (0+(i:Int))).toNat)),.int (p0.2*(1*2^((ws.length:Int) - 1 - (0+(i:Int))).toNat))]) ht1;generalize upd H4 t1 (.tup [.int (p0.1*(1*2^((ws.length:Int) - 1 - (0+(i:Int))).toNat)),.int (p0.2*(1*2^((ws.length:Int) - 1 - (0+(i:Int))).toNat))])=H5 at *;dsimp only[tNil];refine⟨lf,us1,_,rfl,rfl,s5 _ _ q1,a0o (by omega),?_⟩;have t5:Tup H5 (upd H5 lf (.lst (us1++[.ref t1]))):=Tup.lst (s5 _ _ q1);have q1':(upd H5 lf (.lst (us1++[.ref t1]))) lf=some (.lst (us1++[.ref t1])):=a0d;have q2':(upd H5 lf (.lst (us1++[.ref t1]))) lg=some (.lst us2):=by rw[a0m nfg.symm];exact s5 _ _ q2
   have q3':(upd H5 lf (.lst (us1++[.ref t1]))) lr=some (.lst rs):=by rw[a0m n1];exact s5 _ _ q3
   have s6:Same H (upd H5 lf (.lst (us1++[.ref t1]))):=a2g nlf (s4.trans s5);have P1':=((P1.same s5).snoc (v:=.ref t1) (p:=hroL c i 0) ⟨t1,rfl,k1⟩).tup t5;have P2':=(P2.same s5).tup t5;have P3':=(P3.same s5).tup t5;have gL':=t5 _ _ (s5 _ _ gL);clear q1 q2 q3 s4 P1 P2 P3 gL t5 k1 ht1 v0 zz0 w0 g0;generalize upd H5 lf (.lst (us1++[.ref t1]))=H6 at *;walk_at "rz";refine⟨.inl ⟨rfl,_,SqL.of q2'⟩,?_⟩;walk_at "rz";refine⟨lr,rs,_,_,rfl,rfl,SqL.of q3',b1v rs (.ref aL) wL (by omega),?_⟩;walk_at "rz";refine⟨hcp,?_⟩;walk_at "rz";refine⟨mulN zz1.1 zpw (by decide),?_⟩;walk_at "rz";refine⟨lr,rs,_,_,rfl,rfl,SqL.of q3',b1v rs (.ref aL) wL (by omega),?_⟩;walk_at "rz";refine⟨hcp,?_⟩;walk_at "rz";refine⟨mulN zz1.2 zpw (by decide),?_⟩;walk_at "rz";intro t2 ht2;have k2:(upd H6 t2 (.tup [.int (pL.1*(1*2^((ws.length:Int) - 1 - (0+(i:Int))).toNat)),.int (pL.2*(1*2^((ws.length:Int) - 1 - (0+(i:Int))).toNat))])) t2=some (.tup [.int (hroL c i (c.length - 1 - i)).1,.int (hroL c i (c.length - 1 - i)).2]):=by rw[a0d,v1,hpw]
   have s7:=Same.new (o:=.tup [.int (pL.1*(1*2^((ws.length:Int) - 1 - (0+(i:Int))).toNat)),.int (pL.2*(1*2^((ws.length:Int) - 1 - (0+(i:Int))).toNat))]) ht2;generalize upd H6 t2 (.tup [.int (pL.1*(1*2^((ws.length:Int) - 1 - (0+(i:Int))).toNat)),.int (pL.2*(1*2^((ws.length:Int) - 1 - (0+(i:Int))).toNat))])=H7 at *;dsimp only[tNil];refine⟨lg,us2,_,rfl,rfl,s7 _ _ q2',a0o (by omega),?_⟩;have t7:Tup H7 (upd H7 lg (.lst (us2++[.ref t2]))):=Tup.lst (s7 _ _ q2');have c1:(upd H7 lg (.lst (us2++[.ref t2]))) lf=some (.lst (us1++[.ref t1])):=by rw[a0m nfg];exact s7 _ _ q1'
   have c2:(upd H7 lg (.lst (us2++[.ref t2]))) lg=some (.lst (us2++[.ref t2])):=a0d;have c3:(upd H7 lg (.lst (us2++[.ref t2]))) lr=some (.lst rs):=by rw[a0m n2];exact s7 _ _ q3'
   have s8:Same H (upd H7 lg (.lst (us2++[.ref t2]))):=a2g nlg (s6.trans s7);have R1:=(P1'.same s7).tup t7;have R2:=((P2'.same s7).snoc (v:=.ref t2) (p:=hroL c i (c.length - 1 - i)) ⟨t2,rfl,k2⟩).tup t7;have R3:=(P3'.same s7).tup t7;clear q1' q2' q3' s6 s7 P1' P2' P3' gL' t7 k2 ht2 v1 zz1 wL;generalize upd H7 lg (.lst (us2++[.ref t2]))=H8 at *;walk_at "rz";refine⟨by omega,by omega,b5w (a5z 0 ((rs.length:Int) - 1).toNat _) (by omega) (fun j v H=>RwV H v (((smN (srow c i))[j]?).getD (0,0)).1 (((smN (srow c i))[j]?).getD (0,0)).2) (fun _ _ _ _ t h=>h.tup t) (fun j H9 kk hj s9 hk=>?_) (fun D ys H9 hD s9 hd hyl hr=>?_)⟩
   · have e1:(srow c i)[j]?=some ((srow c i)[j]'(by rw[a3k];omega)):=c5j _;have e2:(srow c i)[j+1]?=some ((srow c i)[j+1]'(by rw[a3k];omega)):=c5j _;obtain⟨b1,w1,g1⟩:=R3.at e1;obtain⟨b2,w2,g2⟩:=R3.at e2;have es:=smN_get e1 e2;generalize ((srow c i)[j]'(by rw[a3k];omega))=p1 at *;generalize ((srow c i)[j+1]'(by rw[a3k];omega))=p2 at *;replace g1:=s9 _ _ g1;replace g2:=s9 _ _ g2;have c9:=s9 _ _ c3;walk_at "rz";refine⟨lr,rs,_,_,rfl,rfl,SqL.of c9,a1v (j:=j) (by omega) w1,?_⟩;walk_at "rz";refine⟨lr,rs,_,_,rfl,rfl,SqL.of c9,a1v (j:=j+1) (by omega) w2,?_⟩;walk_at "rz";refine⟨lr,rs,_,_,rfl,rfl,SqL.of c9,a1v (j:=j) (by omega) w1,?_⟩;walk_at "rz";refine⟨lr,rs,_,_,rfl,rfl,SqL.of c9,a1v (j:=j+1) (by omega) w2,?_⟩;walk_at "rz";intro t ht;refine hk _ _ (Same.new ht) ⟨t,rfl,?_⟩;rw[a0d,es];rfl
   · walk_at "cd";refine⟨D,ys,_,_,_,rfl,s8.trans s9,s9 _ _ c1,s9 _ _ c2,hd,(fun z=>by rw[z,c1] at hD;cases hD),(fun z=>by rw[z,c2] at hD;cases hD),⟨by show ys.length=(smN (srow c i)).length;rw[c1w,a3k];omega,fun j v p w1 w2=>?_⟩,?_,?_⟩
     · have:=hr j v w1;rw[show (smN (srow c i))[j]?=some p from w2] at this;exact this
     · rw[List.range_succ,d0f];exact R1.same s9
     · rw[List.range_succ,d0f];exact R2.same s9
 · rintro σ H4 ⟨lr,rs,us1,us2,y5,rfl,s4,q1,q2,q3,n1,n2,P3,P1,P2⟩;rw[show ((ws.length:Int) - 1+1).toNat=c.length by omega] at P1 P2;rw[fhL_eq] at P1;have u2l:=P2.len;rw[c5l,c7z] at u2l;walk_at "rz";refine⟨lg,us2,rfl,SqL.of q2,fun l5 hl5=>?_⟩;have s5:=Same.new (o:=.lst us2.reverse) hl5;have k5:=a0d (H:=H4) (a:=l5) (o:=.lst us2.reverse);have P5:=(P2.rev).same s5;rw[lhL_eq] at P5;generalize upd H4 l5 (.lst us2.reverse)=H5 at *;dsimp only[tNil];walk_at "rz";intro r hr;have s6:=Same.new (o:=.lst [.ref lf,.ref l5]) hr;exact k r lf l5 us1 us2.reverse _ ((s4.trans s5).trans s6) a0d ((s4.trans s5).free hr) nlf (s4.free hl5) (s6 _ _ (s5 _ _ q1)) (s6 _ _ k5) ((P1.same s5).same s6) (P5.same s6)
theorem a9n(F:a0q K mg "_law_whole_seats" a2e ["_law_curve"])(D_l_part:a1b P w K mg base CX0 1 "_law_part" ["_law_one","_law_other"] b7x):a1b P w K mg base CX0 2 "_law_whole_seats" ["_law_curve"] (b7v K):=by
 refine a1j F a2z (fun vs H Q E h=>?_) (fun f cdv A outer s H vs Q E hr h=>?_)
 · obtain⟨a,ws,ps,B0,m,rfl,_⟩:=h;rfl
 obtain⟨a,ws,ps,B0,m,rfl,hS,hP,hB,zB,hm,hov,hn,k⟩:=h;have hu:=hr.units;refine⟨_,(a0e (a0p (i:=1) a2z.nd rfl (Or.inr rfl) a0b) (a0e (a2n PassesOwn.never rfl (a1l K (pvI 0)) (a0g (i:=2) a2z.nd rfl (Or.inl rfl)) (a0h (a2n PassesOwn.never rfl (a7w K (pvI 2)) (a0g (i:=3) a2z.nd rfl (Or.inl rfl)) (a0h (a0p (i:=1) a2z.nd rfl (Or.inr rfl) (a0j a0u (a0j a4l (pvI 1) (a0s D_l_part hr a1k (a0a (pvI 1) (a0a (a0k (a0l K) (pvI 3) a0b (fun _ _=>rfl)) a0c)))) (a0k (a0l K) (pvI 3) a0b (fun _ _=>rfl)))))))) (a0h (a0r (a0y (a0a (pvI 1) (a0a (a2k (os:=["_law_x","_law_y"]) (caps:=[(1,"_law_bottom")]) ["_law_curve","_law_bottom","_law_place","_law_one"] (a0f a2e) (a1l K (pvI 0)) (fun _ _ _ _ _=>(a1h (n:=2) K rfl (a0i (a0g (i:=0) (show c6p (["_law_x","_law_y","_law_bottom"]:List Str) from by decide +kernel) rfl (Or.inl rfl)) (a0i (a0g (i:=1) (show c6p (["_law_x","_law_y","_law_bottom"]:List Str) from by decide +kernel) rfl (Or.inl rfl)) a1e)))) (fun _ _ _ _ _=>(a0y (a0a (a0j a0u (a0k (a0l K) (pvI 0) a0b (fun _ _=>rfl)) (a0j a4l (pvI 2) (a0k (a0l K) (pvI 0) a0b (fun _ _=>rfl)))) (a0a (a0j a0u (a0k (a0l K) (pvI 1) a0b (fun _ _=>rfl)) (a0j a4l (pvI 2) (a0k (a0l K) (pvI 1) a0b (fun _ _=>rfl)))) a0c)))) (by decide +kernel)) a0c))))))),?_⟩;have hpl:=hP.len;walk_at "rz";refine⟨⟨_,SqL.of hS⟩,a4n (xs:=ws) (fun i σ H'=>∃ (y2 y3:Option V) (b:Int),σ=[some (.ref a),some (.int b),y2,y3]∧Same H H'∧0<b∧b∣B0∧∀ p∈ps.take i,(p.1.den:Int)∣b∧(p.2.den:Int)∣b) ⟨none,none,1,rfl,L2.Same.refl _,by decide,Int.one_dvd _,fun p hp=>by simp at hp⟩ ?_ ?_ ?_⟩
 · rintro i σ H' _ ⟨_,_,_,_,s2,_⟩;exact SqL.of (s2 _ _ hS)
 · rintro i x σ H2 hx ⟨y2,y3,b,rfl,s2,b0,bB,hpre⟩;have hi:i<ps.length:=by rw[← hpl];exact (c5m.mp hx).1
   have hp:=b9b hi;obtain⟨c,u,v,rfl,hc,hu,hv⟩:=hP.get i x _ hx hp;have hb:=hov _ (gq_mem hi);have htk:ps.take (i+1)=ps.take i++[gq ps i]:=by rw[d0p,hp];rfl
   generalize gq ps i=p at *;walk_at "rz";refine⟨⟨_,SqT.of (s2 _ _ hc)⟩,c4k (xs:=[u,v]) (fun j σ H'=>∃ (y3:Option V) (b:Int),σ=[some (.ref a),some (.int b),some (.ref c),y3]∧Same H H'∧0<b∧b∣B0∧(∀ p∈ps.take i,(p.1.den:Int)∣b∧(p.2.den:Int)∣b)∧(1≤j→(p.1.den:Int)∣b)∧(2≤j→(p.2.den:Int)∣b)) ⟨_,b,rfl,s2,b0,bB,hpre,fun z=>by omega,fun z=>by omega⟩ ?_ ?_ ?_⟩
   · rintro j σ H' _ ⟨_,_,_,s3,_⟩;exact SqT.of (s3 _ _ hc)
   · rintro j x σ H3 hx ⟨y3,b,rfl,s3,b0,bB,hpre,h1,h2⟩;have hq:∃ q:Rat,ShV H x q∧Ov B0 m q∧((j=0∧q=p.1)∨(j=1∧q=p.2)):=by
       match j,hx with
       | 0,hx=>cases hx;exact⟨_,hu,hb.1,.inl ⟨rfl,rfl⟩⟩
       | 1,hx=>cases hx;exact⟨_,hv,hb.2,.inr ⟨rfl,rfl⟩⟩
       | j+2,hx=>simp at hx
     obtain⟨q,⟨t,rfl,ht⟩,oq,ej⟩:=hq;replace ht:=s3 _ _ ht;have d0:(0:Int)<(q.den:Int):=by have:=q.den_pos;omega
     obtain⟨c0,c1,c2,c3⟩:=c3m b0 d0 bB (a4k oq);have zb:Sz 60 b:=a7a b0 hB bB zB;have zq:Sz 60 (q.den:Int):=a7a d0 hB (a4k oq) zB;have g0:(0:Int)<(c6o b (q.den:Int):Int):=by
       have:0<c6o b (q.den:Int):=Int.gcd_pos_of_ne_zero_left _ (by omega);omega
     walk_at "rz";dsimp only[tNil];refine⟨b,q.den,rfl,by omega,by omega,?_⟩;have zg:Sz 60 (c6o b (q.den:Int):Int):=a7a g0 b0 (Int.gcd_dvd_left ..) zb;have f0:0<b.fdiv (c6o b (q.den:Int):Int):=a7g d0 (by rw[c8n];exact c0);have zf:Sz 60 (b.fdiv (c6o b (q.den:Int):Int)):=a7a f0 hB (d0h ⟨_,rfl⟩ c3) zB;walk_at "rz";refine⟨⟨by omega,zg.mono (by decide)⟩,?_⟩;walk_at "rz";refine⟨_,_,rfl,s3,c0,c3,fun p' hp'=>⟨d0h (hpre p' hp').1 c1,d0h (hpre p' hp').2 c1⟩,fun _=>?_,fun z=>?_⟩
     · rcases ej with⟨_,rfl⟩ | ⟨e,_⟩
       · exact c2
       · exact d0h (h1 (by omega)) c1
     · rcases ej with⟨e,_⟩ | ⟨_,rfl⟩
       · omega
       · exact c2
   · rintro σ H3 ⟨y3,b,rfl,s3,b0,bB,hpre,h1,h2⟩;refine⟨_,_,b,rfl,s3,b0,bB,fun p' hp'=>?_⟩;rw[htk] at hp';rcases c6q.mp hp' with z | z
     · exact hpre p' z
     · rw[c6g.mp z];exact⟨h1 (by show 1≤2;decide),h2 (by show 2≤2;decide)⟩
 · rintro σ H2 ⟨y2,y3,Bo,rfl,s2,B1,bB,hdv⟩;rw[hpl,c9y] at hdv;have hS2:=s2 _ _ hS;have zBo:Sz 60 Bo:=a7a B1 hB bB zB;obtain⟨fx,fy,hJ,hxy⟩:=b9s (K:=K) (SqL.of hS2) (hP.same s2);walk_at "rz";refine⟨⟨ws,SqL.of hS2⟩,comp2 hJ (by omega) (fun i v H=>RwV H v (whP Bo (gq ps i)).1 (whP Bo (gq ps i)).2) (fun _ _ _ _ t h=>h.tup t) (fun i H5 kk hi s5 hk=>?_) (fun E ys H5 hE s5 hE' hl5 hr=>?_)⟩
   · have hp:=b9b hi;obtain⟨⟨ua,eua,hu⟩,⟨va,eva,hv⟩⟩:=hxy i _ hp;have hb:=hov _ (gq_mem hi);have hb':=a7i hB zB hb 2000 (by omega) (by omega);have hu5:=s5 _ _ hu;have hv5:=s5 _ _ hv;rw[eua,eva];have d1:((gq ps i).1.den:Int)≠0:=by have:=(gq ps i).1.den_pos;omega
     have d2:((gq ps i).2.den:Int)≠0:=by have:=(gq ps i).2.den_pos;omega
     walk_at "rz";refine⟨⟨d1,hb'.1.den.mono (by decide)⟩,?_⟩;walk_at "rz";refine⟨mulN hb'.1.num (by rw[b3v];exact div_sz B1 zBo) (by omega),?_⟩;walk_at "rz";refine⟨⟨d2,hb'.2.den.mono (by decide)⟩,?_⟩;walk_at "rz";refine⟨mulN hb'.2.num (by rw[b3v];exact div_sz B1 zBo) (by omega),?_⟩;walk_at "rz";intro g hg;refine hk _ _ (Same.new hg) ⟨g,rfl,?_⟩;rw[a0d];simp only[whP,← b3v]
   · walk_at "rz";intro t ht;have s6:=Same.new (o:=.tup [.int Bo,.ref E]) ht;have etp:toP Bo Bo (ps.map (whP Bo))=ps:=by
       unfold toP;rw[d0b];exact (c7x fun p hp=>b3b B1 (hdv p hp).1 (hdv p hp).2).trans (List.map_id _)
     refine k t E ys (ps.map (whP Bo)) Bo _ ((s2.trans s5).trans s6) a0d (s2.free hE) (s6 _ _ hE') ?_ B1 bB etp ?_
     · refine PlsV.same (H:=H5) ⟨by rw[hl5,c5l],fun i v p w1 w2=>?_⟩ s6;rw[c5t] at w2;obtain⟨c,ec,rfl⟩:=c8e.mp w2;have hi':=(c5m.mp ec).1;rw[b9b hi'] at ec;cases ec;exact hr i v w1
     · intro p hp;obtain⟨q,hq,rfl⟩:=c6h.mp hp;have ho:=hov q hq;rw[← b3b B1 (hdv q hq).1 (hdv q hq).2] at ho;exact⟨b0h B1 hB bB ho.1,b0h B1 hB bB ho.2⟩
theorem b2d(F:a0q K mg "_law_stretches" a2w ["_law_curve","_law_level"])(B:Blt mg)(D_l_share:a1b P w K mg base CX0 2 "_law_share" ["_law_top","_law_bottom"] a9y)(D_l_halved:a1b P w K mg base CX0 1 "_law_halved" ["_law_some"] (b4r K))(D_l_whole_seats:a1b P w K mg base CX0 2 "_law_whole_seats" ["_law_curve"] (b7v K)):a1b P w K mg base CX0 3 "_law_stretches" ["_law_curve","_law_level"] (spLStr K):=by
 refine a1j F a1u (fun vs H Q E h=>?_) (fun f cdv A outer s H vs Q E hr h=>?_)
 · obtain⟨a,ws,ps,B0,m,L,rfl,_⟩:=h;rfl
 obtain⟨a,ws,ps,B0,m,L,rfl,ha,hP,hB,zB,hm,hov,h1,h12,hL,hLm,k⟩:=h;have hu:=hr.units;refine⟨_,(a0e (a2x (a0s D_l_whole_seats hr a1k (a0a (pvI 0) a0c)) (a1h (n:=2) K rfl (a0i (a0g (i:=2) a1u.nd rfl (Or.inr rfl)) (a0i (a0g (i:=3) a1u.nd rfl (Or.inl rfl)) a1e)))) (a0e (a0p (i:=4) a1u.nd rfl (Or.inl rfl) (a1q (a0a (pvI 3) a0c))) (a0e (a2n PassesOwn.never rfl (a3d rfl B.range (a0a (pvI 1) a0c)) (a0g (i:=5) a1u.nd rfl (Or.inl rfl)) (a0e (a0p (i:=6) a1u.nd rfl (Or.inl rfl) (a1q a0c)) (a0e (a2n PassesOwn.never rfl (a1l K (pvI 4)) (a0g (i:=7) a1u.nd rfl (Or.inl rfl)) (a0h (a3g (show PEi _ _ (tBM K _ _ _ _) from (a5a c6v PySem.F.slot_list_extend PySem.F.type_list_extend b5i (pvI 6) (a0a (a0s D_l_halved hr a1k (a0a (pvI 7) a0c)) a0c)))))) (a0e (a0p (i:=4) a1u.nd rfl (Or.inl rfl) (pvI 6)) (a0h (a0p (i:=2) a1u.nd rfl (Or.inr rfl) (a0j a0u (pvI 2) (a0j b2u a0b (a0j a3z (a0w (a1p K) (by rfl) B.len PySem.boot_len (a0a (pvI 0) a0c)) a0b))))))))) (a0h (a0r (a2k (os:=["_law_one"]) (caps:=[(2,"_law_bottom")]) ["_law_curve","_law_level","_law_bottom","_law_some","_law_found","_law_turn","_law_halves","_law_one"] (a0f a2w) (a1l K (pvI 4)) (fun _ _ _ _ _=>(a0g (i:=0) (show c6p (["_law_one","_law_bottom"]:List Str) from by decide +kernel) rfl (Or.inl rfl))) (fun _ _ _ _ _=>(c2j (os:=["_law_x","_law_y"]) (caps:=[(1,"_law_bottom")]) (a1l K (pvI 0)) (fun _ _ _ _ _=>(a1h (n:=2) K rfl (a0i (a0g (i:=0) (show c6p (["_law_x","_law_y","_law_bottom"]:List Str) from by decide +kernel) rfl (Or.inl rfl)) (a0i (a0g (i:=1) (show c6p (["_law_x","_law_y","_law_bottom"]:List Str) from by decide +kernel) rfl (Or.inl rfl)) a1e)))) (fun _ _ _ _ _=>(a0y (a0a (a0s D_l_share hr a1k (a0a (pvI 0) (a0a (pvI 2) a0c))) (a0a (a0s D_l_share hr a1k (a0a (pvI 1) (a0a (pvI 2) a0c))) a0c)))) (by kernel_rfl))) (by decide +kernel))))))),?_⟩;have hul:=hP.len;walk_at "rz";dsimp only[tNil];refine⟨a,ws,ps,B0,m,rfl,ha,hP,hB,zB,by omega,hov,by omega,fun t l us c b H1 s1 ht hl0 hl hC b0 bB etp zc=>?_⟩;have hcl:c.length=ps.length:=by rw[← etp,a3r]
 walk_at "cd";refine⟨t,_,rfl,SqT.of ht,rfl,_,_,rfl,_,_,rfl,rfl,?_⟩;walk_at "rz";intro lf hlf;have s2:=Same.new (o:=.lst [.ref l]) hlf;have f2:=a0d (H:=H1) (a:=lf) (o:=.lst [.ref l]);generalize upd H1 lf (.lst [.ref l])=H2 at *;have hC2:=c4t (s2 _ _ hl) (hC.same s2);have s02:=s1.trans s2;clear hC;have zb:Sz 60 b:=a7a b0 hB bB zB;have LV:=LvL.all etp zc;walk_at "rz";refine⟨by omega,by omega,a4i (fun d σ H'=>∃ (lf:Addr) (ys:List V) (y5 y6 y7:Option V),σ=[some (.ref a),some (.int (L:Int)),some (.int (b*2^(d*(ps.length - 1)))),some (.ref l),some (.ref lf),y5,y6,y7]∧Same H H'∧H' lf=some (.lst ys)∧CsV H' none ys (lvL c d)) ⟨lf,_,none,none,none,by rw[Nat.zero_mul,Int.pow_zero,d0m];rfl,s02,f2,hC2⟩ ?_ ?_⟩
 · rintro d σ H3 hd ⟨lf,ys,y5,y6,y7,rfl,s3,f3,hC3⟩;have hd':d<L:=by omega
   have Ld:=LV d;have hyl:=hC3.len;have p6:(2:Nat)^d≤64:=by
     have:(2:Nat)^d≤2^6:=Nat.pow_le_pow_right (by decide) (by omega);omega
   have hLd:d*(ps.length+1)≤100:=c7w (Nat.mul_le_mul_right _ (by omega)) hLm;have hLn:d*(ps.length - 1)≤100:=c7w (c9i _ (by omega)) hLd;walk_at "rz";intro lh hlh;have s4:=Same.new (o:=.lst []) hlh;have h4:=a0d (H:=H3) (a:=lh) (o:=.lst []);generalize upd H3 lh (.lst [])=H4 at *;walk_at "rz";refine⟨⟨_,SqL.of (s4 _ _ f3)⟩,a4n (xs:=ys) (fun i σ H'=>∃ (y7:Option V) (zs:List V),σ=[some (.ref a),some (.int (L:Int)),some (.int (b*2^(d*(ps.length - 1)))),some (.ref l),some (.ref lf),some (.int (0+(d:Int))),some (.ref lh),y7]∧Same H3 H'∧H' lh=some (.lst zs)∧CsV H' (some lh) zs (a5l ((lvL c d).take i))) ⟨_,[],rfl,s4,h4,⟨rfl,fun i v c e=>by simp at e⟩⟩ ?_ ?_ ?_⟩
   · rintro i σ H5 _ ⟨_,_,_,s5,_⟩;exact SqL.of (s5 _ _ f3)
   · rintro i x σ H5 hx ⟨y7,zs,rfl,s5,h5,hZ⟩;have hi:i<(lvL c d).length:=by rw[← hyl];exact (c5m.mp hx).1
     have hci:(lvL c d)[i]?=some ((lvL c d)[i]):=c5j hi;obtain⟨lc,uc,rfl,_,hlc,hPc⟩:=hC3.get i x _ hx hci;have hcl2:=Ld.len _ (c6z hi);have hcz:=Ld.sz _ (c6z hi);have htk:a5l ((lvL c d).take (i+1))=(a5l ((lvL c d).take i)++[fhL (lvL c d)[i]])++[lhL (lvL c d)[i]]:=by
       unfold a5l;rw[d0p,hci,List.flatMap_append];simp
     have hzl:=hZ.len;have hzl2:zs.length≤200:=by
       rw[hzl];unfold a5l;rw[List.length_flatMap];have:=a9x (fun _:List Pl=>2) 2 ((lvL c d).take i) fun _ _=>rfl;have h2:(List.map (fun a=>[fhL a,lhL a].length) ((lvL c d).take i)).sum=((lvL c d).take i).length*2:=this;rw[h2,c6u,Ld.n];omega
     generalize (lvL c d)[i]=ci at *;walk_at "rz";refine⟨.inl ⟨rfl,_,SqL.of h5⟩,?_⟩;walk_at "rz";dsimp only[tNil];refine⟨lc,uc,ci,m+d*(ps.length+1),rfl,s5 _ _ hlc,hPc.same s5,by omega,by omega,hcz,by omega,fun r l1 l2 u1 u2 H6 s6 hr hr0 hl10 hl20 hl1 hl2 hP1 hP2=>?_⟩;refine⟨lh,r,zs,_,rfl,rfl,s6 _ _ h5,hr,by have:=a0o (n:=zs.length+2) (by omega);exact c7r this,?_⟩;have nl1:some l1≠some lh:=fun z=>by cases z;rw[h5] at hl10;cases hl10
     have nl2:some l2≠some lh:=fun z=>by cases z;rw[h5] at hl20;cases hl20
     have Z6:=((hZ.same s6).snoc nl1 hl1 hP1).snoc nl2 hl2 hP2;rw[c6i] at Z6;refine⟨_,zs++[.ref l1,.ref l2],rfl,a2g hlh (s5.trans s6),a0d,?_⟩;rw[htk];exact CsV.upd Z6 (s6 _ _ h5)
   · rintro σ H5 ⟨y7,zs,rfl,s5,h5,hZ⟩;rw[hyl,c9y] at hZ;have ha5:=s5 _ _ (s3 _ _ ha);have hpw:(1:Int)*2^((ws.length:Int) - 1).toNat=2^(ps.length - 1):=by rw[d1b,show ((ws.length:Int) - 1).toNat=ps.length - 1 by omega]
     walk_at "rz";refine⟨⟨by omega,by omega,by decide⟩,?_⟩;have zp1:Sz 200 (b*2^(d*(ps.length - 1))):=(zb.mul (a4j _)).mono (by omega);have zp2:Sz 20 ((1:Int)*2^((ws.length:Int) - 1).toNat):=by rw[hpw];exact (a4j _).mono (by omega)
     walk_at "rz";refine⟨lh,zs,some (.int (0+(d:Int))),some (.ref lh),y7,?_,s3.trans s5,h5,hZ.drop⟩;show [some (V.ref a),some (V.int (L:Int)),some (V.int (b*2^(d*(ps.length - 1))*(1*2^((ws.length:Int) - 1).toNat))),some (V.ref l),some (V.ref lh),some (V.int (0+(d:Int))),some (V.ref lh),y7]=_;rw[hpw,c9r,← Int.pow_add,show d*(ps.length - 1)+(ps.length - 1)=(d+1)*(ps.length - 1) by rw[d0t]]
 · rintro σ H3 ⟨lf,ys,y5,y6,y7,rfl,s3,f3,hC3⟩;rw[show ((L:Int)).toNat=L from rfl] at hC3 ⊢;have Ld:=LV L;have hyl:=hC3.len;rw[Ld.n] at hyl;have p6:(2:Nat)^L≤64:=by
     have:(2:Nat)^L≤2^6:=Nat.pow_le_pow_right (by decide) (by omega);omega
   have hLn:L*(ps.length - 1)≤100:=c7w (c9i _ (by omega)) hLm;have zB':Sz 9000 (b*2^(L*(ps.length - 1))):=(zb.mul (a4j _)).mono (by omega);have B1:0<b*2^(L*(ps.length - 1)):=c7q b0 (a5y _);have eL:=Ld.eq;generalize b*2^(L*(ps.length - 1))=Bo at *;walk_at "rz";refine⟨⟨_,SqL.of f3⟩,compL (a3c (SqL.of f3)) (by omega) (fun i xs H=>PtsV H xs (gP (lvP ps L) i)) (fun _ _ _ _ tt h=>h.tup tt) (fun j H8 kk hj s8 hk=>?_) (fun D zs H8 hD s8 hd hzl hLs=>?_)⟩
   · have hcj:(lvL c L)[j]?=some ((lvL c L)[j]'(by rw[Ld.n];omega)):=c5j _;obtain⟨lc,uc,ec,hlc,hPc⟩:=hC3.at hcj;have hcl2:=Ld.len _ (c6z (show j<(lvL c L).length by rw[Ld.n];omega));have ej:gP (lvP ps L) (j:Int)=toP Bo Bo ((lvL c L)[j]'(by rw[Ld.n];omega)):=by
       unfold gP;rw[← eL,c9q,c5t,hcj];rfl
     rw[ec];show _;rw[ej] at hk;generalize (lvL c L)[j]'(by rw[Ld.n];omega)=cj at *;walk_at "rz";refine⟨⟨_,SqL.of (s8 _ _ hlc)⟩,comp2 (b5d (SqL.of (s8 _ _ hlc)) (hPc.same s8)) (by omega) (fun i v H=>PtV H v (c5r ((cj[i]?).getD (0,0)).1 Bo) (c5r ((cj[i]?).getD (0,0)).2 Bo)) (fun _ _ _ _ t h=>h.tup t) (fun i H9 k9 hi s9 hk9=>?_) (fun E es H9 hE s9 he hel hr=>?_)⟩
     · walk_at "rz";dsimp only[tNil];refine⟨_,Bo,rfl,B1,zB',fun v1 H10 s10 g1=>?_⟩;walk_at "rz";dsimp only[tNil];refine⟨_,Bo,rfl,B1,zB',fun v2 H11 s11 g2=>?_⟩;walk_at "rz";intro t ht;have s12:=Same.new (o:=.tup [v1,v2]) ht;exact hk9 _ _ ((s10.trans s11).trans s12) ⟨t,v1,v2,rfl,a0d,(g1.same s11).same s12,g2.same s12⟩
     · refine hk E es H9 s9 hE he ⟨by rw[hel,a3r],fun i v p w1 w2=>?_⟩;have:=hr i v w1;unfold toP at w2;rw[c5t] at w2;obtain⟨q,eq,rfl⟩:=c8e.mp w2;rw[eq] at this;exact this
   · refine k D zs H8 (s3.trans s8) (s3.free hD) hd (by rw[hzl,hyl]) fun i v e=>?_;obtain⟨l',xs,r1,r2,r3,r4,r5⟩:=hLs.get i v e;exact⟨l',xs,r1,s3.free r2,r4,r5⟩
theorem a8b(F:a0q K mg "greatest_common" a2c ["one","other"])(B:Blt mg):a1b P w K mg base CX0 1 "greatest_common" ["one","other"] spGcd:=by
 refine a1j F a5g (fun vs H Q E h=>?_) (fun f cdv A outer s H vs Q E hr h=>?_)
 · obtain⟨a,b,rfl,_⟩:=h;rfl
 obtain⟨a,b,rfl,k⟩:=h;have hu:=hr.units;refine⟨_,(a0e (a7t PassesOwn.never (a1c c2p (pvI 1) a0b (a1t _)) (a0h (a6f (i:=0) (j:=1) rfl a5g.nd rfl rfl (by decide) rfl rfl (a0a (pvI 1) (a0a (a0j op_modN (pvI 0) (pvI 1)) a0c)) rfl))) (a0h (a0r (a0w b4g (by rfl) B.abs PyProof.Rows.boot_abs (a0a (pvI 0) a0c))))),?_⟩;refine b3a (fun σ H'=>∃ x y:Int,σ=[some (.int x),some (.int y)]∧H'=H∧c6o x y=c6o a b) (fun σ _=>match σ with | [_,some (.int y)]=>y.natAbs | _=>0) ⟨a,b,rfl,rfl,rfl⟩ ?_ ?_
 · rintro σ H' ⟨x,y,rfl,rfl,e⟩;refine⟨_,rfl,rfl,_,rfl,?_⟩;by_cases hy:y=0
   · subst hy;refine iteNS rfl ?_;refine⟨_,rfl,_,rfl,?_⟩;rw[gcd_zero,e];exact k
   · refine ifT (c0p hy) ?_;refine⟨_,rfl,_,rfl,_,rfl,_,_,rfl,rfl,hy,_,_,rfl,⟨_,_,rfl,rfl,?_⟩,?_⟩
     · rw[b9c];exact e
     · exact fmod_lt x y hy
 · rintro σ H' Q Q' hq ⟨v,h1,hs,k1,h2,h3⟩;exact⟨v,h1,hs,k1,h2,hq _ _ h3⟩
theorem a8u(F:a0q K mg "common_bottoms" a2i ["shares"])(D_greatest_common:a1b P w K mg base CX0 1 "greatest_common" ["one","other"] spGcd):a1b P w K mg base CX0 2 "common_bottoms" ["shares"] (b8c K):=by
 refine a1j F a2a (fun vs H Q E h=>?_) (fun f cdv A outer s H vs Q E hr h=>?_)
 · obtain⟨a,ws,qs,D,rfl,_⟩:=h;rfl
 obtain⟨a,ws,qs,D,rfl,hS,hQ,hD,zD,hdv,h40,k⟩:=h;have hu:=hr.units;refine⟨_,(a0e (a0p (i:=1) a2a.nd rfl (Or.inl rfl) (a1q a0c)) (a0e (a0p (i:=2) a2a.nd rfl (Or.inl rfl) a0b) (a0e (a2n PassesOwn.never rfl (a1l K (pvI 0)) (a0g (i:=3) a2a.nd rfl (Or.inl rfl)) (a0e (a0p (i:=4) a2a.nd rfl (Or.inl rfl) (a0j a4l (a0k (a0l K) (pvI 3) a0b (fun _ _=>rfl)) (a0s D_greatest_common hr a1k (a0a (pvI 2) (a0a (a0k (a0l K) (pvI 3) a0b (fun _ _=>rfl)) a0c))))) (a0h (a2h (a1c b9y (pvI 4) a0b (a1t _)) (a0e (a3g (show PEi _ _ (tBM K _ _ _ _) from (a5a c6v c7d c7e a2l (pvI 1) (a0a (pvI 4) a0c)))) (a0h (a0p (i:=2) a2a.nd rfl (Or.inl rfl) (a0j a0u (pvI 2) (pvI 4))))) a1o)))) (a0h (a0r (pvI 1)))))),?_⟩;walk_at "rd";intro l hl;walk_at "rd";refine⟨⟨ws,by walk_at "mv"⟩,a4n (xs:=ws) (fun i σ H'=>∃ (y1 y2:Option V) (W:Int) (bs:List Int),σ=[some (.ref a),some (.ref l),some (.int W),y1,y2]∧W=a1g bs∧Same H H'∧H' l=some (.lst (bs.map V.int))∧(∀ b∈bs,0<b∧Sz 9000 b)∧W∣D∧(∀ j q,j<i→qs[j]?=some q→(q.den:Int)∣W)∧bs.length≤i)
   ⟨none,none,1,[],rfl,rfl,Same.new hl,a0d,(fun _ h=>nomatch h),⟨D,by rw[d1b]⟩,fun j q h=>absurd h (Nat.not_lt_zero _),c5v _⟩ ?_ ?_ ?_⟩
 · rintro i σ H' hi ⟨y1,y2,W,bs,rfl,eW,s1,h1,hb,hW,hq,hn⟩;exact s1.seq hS
 · rintro i x σ H' hx ⟨y1,y2,W,bs,rfl,eW,s1,h1,hb,hW,hq,hn⟩;have hi:i<ws.length:=(c5m.mp hx).1;have hwl:=hQ.len;obtain⟨q,eq,c,rfl,hc⟩:=(hQ.same s1).atV hx;have hdq:=hdv q (c5p eq);have hd0:0<(q.den:Int):=by have:=q.den_pos;omega
   obtain⟨g1,g2,g3,g4,g5⟩:=b8u hd0 hW hdq;have zq:Sz 9000 (q.den:Int):=b2k (by omega) hdq zD;have zg:Sz 9000 (c6o W q.den:Int):=b2k (by omega) g5 zq;walk_at "rd";refine⟨W,q.den,rfl,?_⟩;refine⟨_,_,rfl,rfl,⟨by omega,zg⟩,?_⟩;walk_at "rd";have zW:Sz 9000 W:=b2k (by omega) hW zD;have zm:Sz 9000 ((q.den:Int).fdiv (c6o W q.den)):=c2d hd0 g4 g5 zq;refine a6k (fun hm=>?_) (fun hm=>?_)
   · walk_at "rd";refine⟨.inl ⟨rfl,_,SqL.of h1⟩,?_⟩;walk_at "rd";refine⟨l,_,_,rfl,rfl,h1,a0o (by rw[c5l];omega),?_⟩;walk_at "rd";refine⟨_,_,_,bs++[(q.den:Int).fdiv (c6o W q.den)],rfl,by rw[b2r,eW],fun b o e=>?_,?_,?_,g2,?_,?_⟩
     · rw[a0m (a0t e hl)];exact s1 b o e
     · rw[a0d,d0f];rfl
     · intro b hb';rcases c6q.mp hb' with h | h
       · exact hb b h
       · rw[c6g.mp h];exact⟨g3,zm⟩
     · intro j r hj er;by_cases hji:j=i
       · subst hji;rw[eq] at er;cases er;exact g1
       · exact d0h (hq j r (by omega) er) ⟨_,rfl⟩
     · rw[c5n];show bs.length+1≤i+1;omega
   · have e1:(q.den:Int).fdiv (c6o W q.den)=1:=by omega
     rw[e1,d0m] at g1;refine⟨_,_,_,bs,rfl,eW,s1,h1,hb,hW,?_,by omega⟩;intro j r hj er;by_cases hji:j=i
     · subst hji;rw[eq] at er;cases er;exact g1
     · exact hq j r (by omega) er
 · rintro σ H' ⟨y1,y2,W,bs,rfl,eW,s1,h1,hb,hW,hq,hn⟩;have hwl:=hQ.len;refine⟨_,rfl,k l bs H' s1 h1 hb (fun q hm=>?_) (eW ▸ hW) (by omega)⟩;obtain⟨j,hj,rfl⟩:=c6k hm;rw[← eW];exact hq j _ (by omega) (c5j hj)
theorem b9z(F:a0q K mg "product" a5m ["numbers"]):a1b P w K mg base CX0 1 "product" ["numbers"] (a7p K):=by
 refine a1j F a6o (fun vs H Q E h=>?_) (fun f cdv A outer s H vs Q E hr h=>?_)
 · obtain⟨a,bs,rfl,_⟩:=h;rfl
 obtain⟨a,bs,rfl,hS,hb,hn,k⟩:=h;have hu:=hr.units;refine⟨_,(a0e (a0p (i:=1) a6o.nd rfl (Or.inl rfl) a0b) (a0e (a2n PassesOwn.never rfl (a1l K (pvI 0)) (a0g (i:=2) a6o.nd rfl (Or.inl rfl)) (a0h (a0p (i:=1) a6o.nd rfl (Or.inl rfl) (a0j a0u (pvI 1) (pvI 2))))) (a0h (a0r (pvI 1))))),?_⟩;walk_at "rd";refine⟨⟨_,hS⟩,a4n (xs:=bs.map V.int) (fun i σ H'=>∃ (y:Option V) (W:Int),σ=[some (.ref a),some (.int W),y]∧W=a1g (bs.take i)∧H'=H) ⟨none,1,rfl,rfl,rfl⟩ ?_ ?_ ?_⟩
 · rintro i σ H' hi ⟨y,W,rfl,eW,rfl⟩;exact hS
 · rintro i x σ H' hx ⟨y,W,rfl,eW,rfl⟩;obtain⟨b,eb,rfl⟩:=ints_at hx;have zW:Sz (9000*100+1) W:=by
     rw[eW];exact (prod_sz fun c hc=>hb c (c7p hc)).mono (by rw[c6u];omega)
   walk_at "rd";refine⟨mulB zW (hb b (c5p eb)).2,_,_,rfl,?_,rfl⟩;rw[b4o eb,b2r,eW]
 · rintro σ H' ⟨y,W,rfl,eW,rfl⟩;refine⟨_,rfl,?_⟩;rw[c5l,c9y] at eW;rw[eW];exact k
theorem ok_axis(F:a0q K mg "axis" b0p ["shares"])(D_common_bottoms:a1b P w K mg base CX0 2 "common_bottoms" ["shares"] (b8c K))(D_product:a1b P w K mg base CX0 1 "product" ["numbers"] (a7p K)):a1b P w K mg base CX0 3 "axis" ["shares"] (c1t K):=by
 refine a1j F b6s (fun vs H Q E h=>?_) (fun f cdv A outer s H vs Q E hr h=>?_)
 · obtain⟨a,ws,qs,D,m,rfl,_⟩:=h;rfl
 obtain⟨a,ws,qs,D,m,rfl,hS,hQ,hD,zD,hdv,hm,h40,k⟩:=h;have hu:=hr.units;refine⟨_,(a0e (a0p (i:=1) b6s.nd rfl (Or.inl rfl) (a0s D_common_bottoms hr a1k (a0a (pvI 0) a0c))) (a0e (a0p (i:=2) b6s.nd rfl (Or.inr rfl) (a0s D_product hr a1k (a0a (pvI 1) a0c))) (a0h (a0r (a0y (a0a (a2k (os:=["one"]) (caps:=[(2,"whole")]) ["shares","bottoms","whole"] (a0f b0p) (a1l K (pvI 0)) (fun _ _ _ _ _=>(a0g (i:=0) (show c6p (["one","whole"]:List Str) from by decide +kernel) rfl (Or.inl rfl))) (fun _ _ _ _ _=>(a0j a0u (a0k (a0l K) (pvI 0) a0b (fun _ _=>rfl)) (a0j a4l (pvI 1) (a0k (a0l K) (pvI 0) a0b (fun _ _=>rfl))))) (by decide +kernel)) (a0a (pvI 1) a0c))))))),?_⟩;walk_at "rd";refine⟨a,ws,qs,D,rfl,hS,hQ,hD,zD,fun q hq=>(hdv q hq).1,h40,fun lb bs H1 s1 hlb hb hdb hbD hbl=>?_⟩;have hW:0<a1g bs:=a4y fun b hb'=>(hb b hb').1;have zW:Sz 9000 (a1g bs):=b2k (by omega) hbD zD;have hwl:=hQ.len;walk_at "rd";refine⟨lb,bs,rfl,SqL.of hlb,hb,by omega,?_⟩;walk_at "rd";refine⟨⟨_,s1.seq hS⟩,b5w (a3c (s1.seq hS)) (by omega) (fun i v _=>∀ q,qs[i]?=some q→v=.int (q.num*(a1g bs).fdiv q.den)) (fun _ _ _ _ _ h=>h) (fun i H2 kk hi s2 hk=>?_) (fun E2 ys H2 hE s2 hE2 hl hr=>?_)⟩
 · have ew:ws[i]?=some ws[i]:=c5j hi;obtain⟨q,eq,c,ec,hc⟩:=((hQ.same s1).same s2).atV ew;have ef:(ws[i]?).getD V.non=.ref c:=by rw[ew];exact ec
   obtain⟨dq,bq⟩:=hdv q (c5p eq);have hd0:0<(q.den:Int):=by have:=q.den_pos;omega
   have zq:Sz 9000 (q.den:Int):=b2k (by omega) dq zD;have dW:=hdb q (c5p eq);have zf:Sz 9000 ((a1g bs).fdiv q.den):=c2d hW hd0 dW zW;rw[ef];walk_at "rd";refine⟨⟨by omega,zq⟩,?_⟩;refine⟨_,_,rfl,rfl,mulN bq.num zf (by omega),?_⟩;refine hk _ _ (L2.Same.refl _) fun q' e'=>?_;rw[eq] at e';cases e';rfl
 · walk_at "rd";intro p hp;have ey:=ints_of (by omega) hr;refine k _ (qs.map fun q=>q.num*(a1g bs).fdiv q.den) bs _ (by walk_at "sm") ⟨p,E2,lb,rfl,a0d,?_,?_,?_,hb,by omega,by rw[c5l];omega⟩ (axR_tops hW hdb) hbl hbD
   · rw[← ey];exact a3e hp hE2
   · exact a3e hp (s2 _ _ hlb)
   · intro x hx;obtain⟨q,hq,rfl⟩:=c6h.mp hx;obtain⟨dq,bq⟩:=hdv q hq;exact (bq.num.mul (c2d hW (by have:=q.den_pos;omega) (hdb q hq) zW)).mono (by omega)
theorem ok_axes(F:a0q K mg "axes" a9f ["points"])(D_axis:a1b P w K mg base CX0 3 "axis" ["shares"] (c1t K)):a1b P w K mg base CX0 4 "axes" ["points"] (b3f K):=by
 refine a1j F sc_axes (fun vs H Q E h=>?_) (fun f cdv A outer s H vs Q E hr h=>?_)
 · obtain⟨a,ws,ps,D,m,rfl,_⟩:=h;rfl
 obtain⟨a,ws,ps,D,m,rfl,hS,hP,hD,zD,hdv,hm,h40,k⟩:=h;have hu:=hr.units;refine⟨_,(a0h (a0r (a0y (a0a (a0s D_axis hr a1k (a0a (a2k (os:=["place"]) (caps:=[]) ["points"] (a0f a9f) (a1l K (pvI 0)) (fun _ _ _ _ _=>(a0g (i:=0) (show c6p (["place"]:List Str) from by decide +kernel) rfl (Or.inl rfl))) (fun _ _ _ _ _=>(a0k (a0l K) (pvI 0) a0b (fun _ _=>rfl))) (by decide +kernel)) a0c)) (a0a (a0s D_axis hr a1k (a0a (a2k (os:=["place"]) (caps:=[]) ["points"] (a0f a9f) (a1l K (pvI 0)) (fun _ _ _ _ _=>(a0g (i:=0) (show c6p (["place"]:List Str) from by decide +kernel) rfl (Or.inl rfl))) (fun _ _ _ _ _=>(a0k (a0l K) (pvI 0) a0b (fun _ _=>rfl))) (by decide +kernel)) a0c)) a0c))))),?_⟩;have hwl:=hP.len;walk_at "rd";refine⟨⟨ws,by walk_at "mv"⟩,b5w (a3c (by walk_at "mv" : SqL K _ a ws)) (by omega) (fun i v H=>∀ p,ps[i]?=some p→ShV H v p.1) (fun _ _ _ _ t h p e=>(h p e).tup t) (fun i H2 kk hi s2 hk=>?_) (fun E2 ys2 H2 hE2 s2 hE'2 hl2 hr2=>?_)⟩
 · have ew:ws[i]?=some ws[i]:=c5j hi;obtain⟨p,ep,c,vx,vy,ec,hc,hx,hy⟩:=(show PtsV H2 ws ps by walk_at "mv").atV ew;have ef:(ws[i]?).getD V.non=.ref c:=by rw[ew];exact ec
   rw[ef];walk_at "rd";refine hk _ _ (L2.Same.refl _) fun p' e'=>?_;rw[ep] at e';cases e';assumption
 have hq2:ShL H2 ys2 (ps.map (·.1)):=ShL.map (by omega) hr2;clear hr2;refine⟨E2,ys2,ps.map (·.1),D,m,rfl,SqL.of hE'2,hq2,hD,zD,fun q hq=>?_,hm,by rw[c5l];omega,fun v3 t3 b3 H3 s3 A3 e3 n3 g3=>?_⟩
 · obtain⟨p,hp,rfl⟩:=c6h.mp hq;exact (hdv p hp).1
 rw[c5l] at n3;walk_at "rd";refine⟨⟨ws,by walk_at "mv"⟩,b5w (a3c (by walk_at "mv" : SqL K _ a ws)) (by omega) (fun i v H=>∀ p,ps[i]?=some p→ShV H v p.2) (fun _ _ _ _ t h p e=>(h p e).tup t) (fun i H4 kk hi s4 hk=>?_) (fun E4 ys4 H4 hE4 s4 hE'4 hl4 hr4=>?_)⟩
 · have ew:ws[i]?=some ws[i]:=c5j hi;obtain⟨p,ep,c,vx,vy,ec,hc,hx,hy⟩:=(show PtsV H4 ws ps by walk_at "mv").atV ew;have ef:(ws[i]?).getD V.non=.ref c:=by rw[ew];exact ec
   rw[ef];walk_at "rd";refine hk _ _ (L2.Same.refl _) fun p' e'=>?_;rw[ep] at e';cases e';assumption
 have hq4:ShL H4 ys4 (ps.map (·.2)):=ShL.map (by omega) hr4;clear hr4;refine⟨E4,ys4,ps.map (·.2),D,m,rfl,SqL.of hE'4,hq4,hD,zD,fun q hq=>?_,hm,by rw[c5l];omega,fun v5 t5 b5 H5 s5 A5 e5 n5 g5=>?_⟩
 · obtain⟨p,hp,rfl⟩:=c6h.mp hq;exact (hdv p hp).2
 rw[c5l] at n5;walk_at "rd";intro c hc;exact k c v3 v5 t3 b3 t5 b5 _ (by walk_at "sm") a0d (by walk_at "mv") (by walk_at "mv") e3 e5 n3 n5 g3 g5
theorem b6w(F:a0q K mg "room_for" a4s ["seats","level"]):a1b P w K mg base CX0 1 "room_for" ["seats","level"] spRoom:=by
 refine a1j F b6r (fun vs H Q E h=>?_) (fun f cdv A outer s H vs Q E hr h=>?_)
 · obtain⟨n,L,rfl,_⟩:=h;rfl
 obtain⟨n,L,rfl,h1,h2,h3,k⟩:=h;have hu:=hr.units;refine⟨_,(a0h (a0r (a0j b2u a0b (a0j a0u (pvI 1) (a0j a3z (pvI 0) a0b))))),?_⟩;walk_at "rd";have e:(L:Int)*((n:Int) - 1)=((L*(n - 1):Nat):Int):=by
   rw[show (n:Int) - 1=((n - 1:Nat):Int) by omega];exact (Int.natCast_mul L (n - 1)).symm
 have m1:L*(n - 1)≤1000*1000:=c8o (by omega) (by omega);refine⟨⟨by show (0:Int)≤(L:Int)*((n:Int) - 1);omega,by show (L:Int)*((n:Int) - 1)≤1000000;omega,by decide⟩,?_⟩;show Q (.int (1*2^((L:Int)*((n:Int) - 1)).toNat)) H;rw[e,c9q,d1b];exact k
theorem b2a(F:a0q K mg "whole_curve" a2u ["xs","ys","room"])(B:Blt mg):a1b P w K mg base CX0 1 "whole_curve" ["xs","ys","room"] b7u:=by
 refine a1j F b1x (fun vs H Q E h=>?_) (fun f cdv A outer s H vs Q E hr h=>?_)
 · obtain⟨x,y,n,t1,b1,t2,b2,R,rfl,_⟩:=h;rfl
 obtain⟨_,_,n,t1,b1,t2,b2,R,rfl,⟨a1,lt1,lb1,rfl,h1,ht1,hb1,z1,g1,n1,m1⟩,⟨a2,lt2,lb2,rfl,h2,ht2,hb2,z2,g2,n2,m2⟩,h12,zR,hn,k⟩:=h;have hu:=hr.units;refine⟨_,(a0h (a0r (a2k (os:=["x","y"]) (caps:=[(2,"room")]) ["xs","ys","room"] (a0f a2u) (show PIi _ _ _ (iZip K _) from (b3o rfl B.zip (a0a (a0k (a0l K) (pvI 0) a0b (fun _ _=>rfl)) (a0a (a0k (a0l K) (pvI 1) a0b (fun _ _=>rfl)) a0c)))) (fun _ _ _ _ _=>(a1h (n:=2) K rfl (a0i (a0g (i:=0) (show c6p (["x","y","room"]:List Str) from by decide +kernel) rfl (Or.inl rfl)) (a0i (a0g (i:=1) (show c6p (["x","y","room"]:List Str) from by decide +kernel) rfl (Or.inl rfl)) a1e)))) (fun _ _ _ _ _=>(a0y (a0a (a0j a0u (pvI 0) (pvI 2)) (a0a (a0j a0u (pvI 1) (pvI 2)) a0c)))) (by decide +kernel)))),?_⟩;walk_at "rd";refine⟨_,_,rfl,⟨_,SqL.of ht1⟩,⟨_,SqL.of ht2⟩,comp2 (a7v (SqL.of ht1) (SqL.of ht2)) (by rw[c5l,c5l];omega) (fun i v H=>∀ x y,t1[i]?=some x→t2[i]?=some y→RwV H v (x*R) (y*R)) (fun _ _ _ _ t h x y e f=>(h x y e f).tup t) (fun i H2 kk hi s2 hk=>?_) (fun D us H2 hD s2 hD2 hl hr=>?_)⟩
 · rw[c5l,c5l] at hi;have e1:t1[i]?=some (t1[i]'(by omega (config:={}))):=c5j _;have e2:t2[i]?=some (t2[i]'(by omega (config:={}))):=c5j _;rw[b5l e1,b5l e2];have c1:=z1 _ (c5p e1);have c2:=z2 _ (c5p e2);walk_at "rd";refine⟨mulN c1 zR (by omega),?_⟩;walk_at "rd";refine⟨mulN c2 zR (by omega),?_⟩;walk_at "rd";intro p hp;refine hk _ _ (by walk_at "sm") fun x y ex ey=>?_;rw[e1] at ex;rw[e2] at ey;cases ex;cases ey;exact⟨p,rfl,a0d⟩
 · rw[c5l,c5l] at hl;refine k D us H2 s2 hD hD2 ⟨by unfold wcI;rw[c8r];exact hl,fun i v p e1 e2=>?_⟩;have hi:i<us.length:=(c5m.mp e1).1;have f1:t1[i]?=some (t1[i]'(by omega (config:={}))):=c5j _;have f2:t2[i]?=some (t2[i]'(by omega (config:={}))):=c5j _;unfold wcI at e2;rw[c8h,f1,f2] at e2;cases e2;exact hr i v e1 _ _ f1 f2
theorem a8c{C_Ground:Addr}(T_Ground:ClsK K mg "Ground" C_Ground)(N_Ground_room:a2s K C_Ground "room")(N_Ground_x_bottoms:a2s K C_Ground "x_bottoms")(N_Ground_y_bottoms:a2s K C_Ground "y_bottoms")(N_Ground_ones:a2s K C_Ground "ones")(N_Ground_others:a2s K C_Ground "others")(F:b4k K C_Ground "__init__" "Ground.__init__" a2d ["self","one","other","level"])(B:Blt mg)(D_axes:a1b P w K mg base CX0 4 "axes" ["points"] (b3f K))(D_room_for:a1b P w K mg base CX0 1 "room_for" ["seats","level"] spRoom)(D_whole_curve:a1b P w K mg base CX0 1 "whole_curve" ["xs","ys","room"] b7u):b4j P w K mg base CX0 5 C_Ground "__init__" ["self","one","other","level"] (c1o K C_Ground):=by
 refine mth_ok F a3f (fun vs H Q E h=>?_) (fun f cdv A outer s H vs Q E hr h=>?_)
 · obtain⟨x,a,b,dx,us,ws,ps,qs,D,m,L,rfl,_⟩:=h;rfl
 obtain⟨x,a,b,dx,us,ws,ps,qs,D,m,L,rfl,hx,ha,hP,hb,hR,p1,p12,q1,q12,hD,zD,hm,hov,hL,hLn,k⟩:=h;have hu:=hr.units;refine⟨_,(a0e (a2x (a0s D_axes hr a1k (a0a (a0j c2q (pvI 1) (pvI 2)) a0c)) (a1h (n:=2) K rfl (a0i (a0g (i:=4) a3f.nd rfl (Or.inl rfl)) (a0i (a0g (i:=5) a3f.nd rfl (Or.inl rfl)) a1e)))) (a0e (show PSi _ _ (sFld K _ _ _) from (ps_fldI (pvI 0) (a0s D_room_for hr a1k (a0a (a0w (c4z rfl) (by rfl) B.max PyProof.Rows.boot_max (a0a (a0w (a1p K) (by rfl) B.len PySem.boot_len (a0a (pvI 1) a0c)) (a0a (a0w (a1p K) (by rfl) B.len PySem.boot_len (a0a (pvI 2) a0c)) a0c))) (a0a (pvI 3) a0c))))) (a0e (a2x (a0y (a0a (a0k (a0l K) (pvI 4) a0b (fun _ _=>rfl)) (a0a (a0k (a0l K) (pvI 5) a0b (fun _ _=>rfl)) a0c))) (a1h (n:=2) K rfl (a0i (a8t K (pvI 0)) (a0i (a8t K (pvI 0)) a1e)))) (a0e (a0p (i:=6) a3f.nd rfl (Or.inl rfl) (a0s D_whole_curve hr a1k (a0a (pvI 4) (a0a (pvI 5) (a0a (show PEi _ _ (tFld K _ _) from (a6h (pvI 0))) a0c))))) (a0h (a2x (a0y (a0a (a1q (a0a (a3j (a5d K) (pvI 6) a3v (a3h (a0w (a1p K) (by rfl) B.len PySem.boot_len (a0a (pvI 1) a0c)))) a0c)) (a0a (a1q (a0a (a3j (a5d K) (pvI 6) (a3h (a0w (a1p K) (by rfl) B.len PySem.boot_len (a0a (pvI 1) a0c))) a3v) a0c)) a0c))) (a1h (n:=2) K rfl (a0i (a8t K (pvI 0)) (a0i (a8t K (pvI 0)) a1e))))))))),?_⟩;have hpl:=hP.len;have hql:=hR.len;walk_at "rz";refine⟨a0o (by omega) |> c7r,fun l0 hl0=>?_⟩;have hPQ:PtsV H (us++ws) (ps++qs):=hP.append hR;have hov2:∀ p∈ps++qs,((p.1.den:Int)∣D∧Bd 400 p.1)∧(p.2.den:Int)∣D∧Bd 400 p.2:=fun p hp=>by
   obtain⟨o1,o2⟩:=hov p hp;obtain⟨b1,b2⟩:=a7i hD zD ⟨o1,o2⟩ 400 (by omega) (by omega);exact⟨⟨a4k o1,b1⟩,a4k o2,b2⟩
 walk_at "rz";dsimp only[tNil];refine⟨l0,us++ws,ps++qs,D,400,rfl,SqL.of a0d,hPQ.same (Same.new hl0),hD,zD.mono (by decide),hov2,by decide,by rw[c5n];omega,fun c vx vy t1 b1 t2 b2 H1 s1 hc A1 A2 e1 e2 n1 n2 g1 g2=>?_⟩;have W1:0<a1g b1:=by obtain⟨_,_,_,_,_,_,_,_,zz,_⟩:=id A1;exact a4y fun b hb=>(zz b hb).1
 have W2:0<a1g b2:=by obtain⟨_,_,_,_,_,_,_,_,zz,_⟩:=id A2;exact a4y fun b hb=>(zz b hb).1
 have l1:t1.length=ps.length+qs.length:=by have:=congrArg c9v e1;rw[b4h,c5l,c5n] at this;exact this
 have l2:t2.length=ps.length+qs.length:=by have:=congrArg c9v e2;rw[b4h,c5l,c5n] at this;exact this
 walk_at "cd";refine⟨c,_,rfl,SqT.of hc,rfl,_,_,rfl,_,_,rfl,rfl,?_⟩;have s01:Same H H1:=(Same.new hl0).trans s1;walk_at "rz";dsimp only[tNil];refine⟨_,_,rfl,?_⟩;walk_at "rz";dsimp only[tNil];refine⟨max ps.length qs.length,L,?_,by omega,by omega,by omega,?_⟩
 · rw[hpl,hql];congr 2;by_cases h:(qs.length:Int) > (ps.length:Int)
   · rw[if_pos h];congr 1;omega
   · rw[if_neg h];congr 1;omega
 walk_at "rz";have hx1:=s01 _ _ hx;refine⟨x,C_Ground,dx,[],rfl,hx1,T_Ground.cl,N_Ground_room,by show 0<1000;decide,?_⟩;generalize eR:(2:Int)^(L*(max ps.length qs.length - 1))=R at *;have i2:Ins H1 (upd H1 x (.ins C_Ground dx (putF "room" (.int R) []))):=Ins.upd hx1;have hx2:(upd H1 x (.ins C_Ground dx (putF "room" (.int R) []))) x=some (.ins C_Ground dx (putF "room" (.int R) [])):=a0d;have n2':∀ b,b≠x→(upd H1 x (.ins C_Ground dx (putF "room" (.int R) []))) b=H1 b:=fun b hb=>a0m hb;generalize upd H1 x (.ins C_Ground dx (putF "room" (.int R) []))=H2 at *;obtain⟨ax,lt1,lx,rfl,ha1,ha2,ha3,ha4⟩:=id (A1.ins i2);obtain⟨ay,lt2,ly,rfl,hb1,hb2,hb3,hb4⟩:=id (A2.ins i2);walk_at "rz";intro tp htp;have ntx:x≠tp:=fun z=>by rw[← z,hx2] at htp;cases htp
 have hx3:(upd H2 tp (.tup [.ref lx,.ref ly])) x=some (.ins C_Ground dx (putF "room" (.int R) [])):=by rw[a0m ntx];exact hx2
 walk_at "cd";refine⟨tp,_,rfl,SqT.of a0d,rfl,_,_,rfl,_,rfl,x,C_Ground,dx,_,rfl,hx3,T_Ground.cl,N_Ground_x_bottoms,by show 1<1000;decide,_,_,rfl,_,rfl,x,C_Ground,dx,_,rfl,a0d,T_Ground.cl,N_Ground_y_bottoms,by show 2<1000;decide,rfl,?_⟩;have i3:Ins H2 (upd (upd (upd H2 tp (.tup [.ref lx,.ref ly])) x (.ins C_Ground dx (putF "x_bottoms" (.ref lx) (putF "room" (.int R) [])))) x (.ins C_Ground dx (putF "y_bottoms" (.ref ly) (putF "x_bottoms" (.ref lx) (putF "room" (.int R) []))))):=((Ins.same (Same.new htp)).trans (Ins.upd hx3)).trans (Ins.upd a0d);have b3:ButX x H2 (upd (upd (upd H2 tp (.tup [.ref lx,.ref ly])) x (.ins C_Ground dx (putF "x_bottoms" (.ref lx) (putF "room" (.int R) [])))) x (.ins C_Ground dx (putF "y_bottoms" (.ref ly) (putF "x_bottoms" (.ref lx) (putF "room" (.int R) []))))):=((ButX.same (Same.new htp)).trans ButX.upd).trans ButX.upd;have hx4:(upd (upd (upd H2 tp (.tup [.ref lx,.ref ly])) x (.ins C_Ground dx (putF "x_bottoms" (.ref lx) (putF "room" (.int R) [])))) x (.ins C_Ground dx (putF "y_bottoms" (.ref ly) (putF "x_bottoms" (.ref lx) (putF "room" (.int R) []))))) x=some (.ins C_Ground dx (putF "y_bottoms" (.ref ly) (putF "x_bottoms" (.ref lx) (putF "room" (.int R) [])))):=a0d;generalize (upd (upd (upd H2 tp (.tup [.ref lx,.ref ly])) x (.ins C_Ground dx (putF "x_bottoms" (.ref lx) (putF "room" (.int R) [])))) x (.ins C_Ground dx (putF "y_bottoms" (.ref ly) (putF "x_bottoms" (.ref lx) (putF "room" (.int R) [])))))=H3 at *;have b13:ButX x H H3:=((ButX.same s01).trans (fun b o hb e=>by rw[n2' b hb];exact e)).trans b3;walk_at "rz";refine⟨x,C_Ground,dx,_,.int R,rfl,hx4,T_Ground.cl,N_Ground_room,by rw[a0z,if_neg (by decide),a0z,if_neg (by decide)];rfl,?_⟩;have hKK:L*(max ps.length qs.length - 1)≤40:=hLn;have R0:0<R:=by rw[← eR];exact a5y _
 have zR:Sz 41 R:=by rw[← eR];exact (a4j _).mono (by omega)
 walk_at "rz";dsimp only[tNil];refine⟨.ref ax,.ref ay,_,t1,b1,t2,b2,R,rfl,(A1.ins i2).ins i3,(A2.ins i2).ins i3,by omega,zR.mono (by decide),by omega,fun l3 u3 H4 s4 hl3 hu3 hP3=>?_⟩;have hul3:=hP3.len;rw[wc_len (by omega)] at hul3;have nax:a≠x:=fun z=>by rw[z,hx] at ha;cases ha
 have nbx:b≠x:=fun z=>by rw[z,hx] at hb;cases hb
 have b14:ButX x H H4:=b13.trans (ButX.same s4);have ha4':=b14 _ _ nax ha;have hx5:=s4 _ _ hx4;walk_at "rz";refine⟨l3,u3,rfl,SqL.of hu3,fun c1 hc1=>?_⟩;rw[c4s u3 (us.length:Int) us.length rfl];walk_at "rz";intro lo hlo;have s5:Same H4 (upd (upd H4 c1 (.lst (u3.take us.length))) lo (.lst [.ref c1])):=(Same.new hc1).trans (Same.new hlo);have f1:(upd (upd H4 c1 (.lst (u3.take us.length))) lo (.lst [.ref c1])) c1=some (.lst (u3.take us.length)):=a3e hlo a0d;have f2:(upd (upd H4 c1 (.lst (u3.take us.length))) lo (.lst [.ref c1])) lo=some (.lst [.ref c1]):=a0d;have hlo4:H4 lo=none:=(Same.new hc1).free hlo;generalize upd (upd H4 c1 (.lst (u3.take us.length))) lo (.lst [.ref c1])=H5 at *;have ha5:=s5 _ _ ha4';have hu5:=s5 _ _ hu3;walk_at "rz";refine⟨l3,u3,rfl,SqL.of hu5,fun c2 hc2=>?_⟩;rw[a8g u3 (us.length:Int) us.length rfl (by omega)];walk_at "rz";intro lt hlt;have s6:Same H5 (upd (upd H5 c2 (.lst (u3.drop us.length))) lt (.lst [.ref c2])):=(Same.new hc2).trans (Same.new hlt);have f3:(upd (upd H5 c2 (.lst (u3.drop us.length))) lt (.lst [.ref c2])) c2=some (.lst (u3.drop us.length)):=a3e hlt a0d;have f4:(upd (upd H5 c2 (.lst (u3.drop us.length))) lt (.lst [.ref c2])) lt=some (.lst [.ref c2]):=a0d;have hlt5:H5 lt=none:=(Same.new hc2).free hlt;generalize upd (upd H5 c2 (.lst (u3.drop us.length))) lt (.lst [.ref c2])=H6 at *;walk_at "rz";intro tq htq;have s7:Same H6 (upd H6 tq (.tup [.ref lo,.ref lt])):=Same.new htq;have g7:(upd H6 tq (.tup [.ref lo,.ref lt])) tq=some (.tup [.ref lo,.ref lt]):=a0d;generalize upd H6 tq (.tup [.ref lo,.ref lt])=H7 at *;have s47:Same H4 H7:=(s5.trans s6).trans s7;have hx7:=s47 _ _ hx5;walk_at "cd";refine⟨tq,_,rfl,SqT.of g7,rfl,_,_,rfl,_,rfl,x,C_Ground,dx,_,rfl,hx7,T_Ground.cl,N_Ground_ones,by show 3<1000;decide,_,_,rfl,_,rfl,x,C_Ground,dx,_,rfl,a0d,T_Ground.cl,N_Ground_others,by show 4<1000;decide,rfl,?_⟩;have iF:Ins H7 (upd H7 x (.ins C_Ground dx [])):=Ins.upd hx7;have i37:Ins H3 (upd H7 x (.ins C_Ground dx [])):=(Ins.same (s4.trans s47)).trans iF;have i47:Ins H4 (upd H7 x (.ins C_Ground dx [])):=(Ins.same s47).trans iF;have T1:∀ x∈t1,Sz m x:=a8k W1 hD g1 e1 fun q hq=>by obtain⟨p,hp,rfl⟩:=c6h.mp hq;exact (hov p hp).1
 have T2:∀ x∈t2,Sz m x:=a8k W2 hD g2 e2 fun q hq=>by obtain⟨p,hp,rfl⟩:=c6h.mp hq;exact (hov p hp).2
 have C0:=wc_toP (R:=R) (by omega) e1 e2;obtain⟨q1',q2'⟩:=wc_take C0;have C1:=wc_dvs (L*(max ps.length qs.length - 1)) t1 t2;have C2:=wc_sz (k:=L*(max ps.length qs.length - 1)) T1 T2;rw[eR] at C1 C2;have fin:=k b1 b2 ((wcI R t1 t2).take ps.length) ((wcI R t1 t2).drop ps.length) lx ly lo lt [.ref c1] [.ref c2] (upd H7 x (.ins C_Ground dx [])) ((b14.trans (ButX.same s47)).back hx) (i37.1 _ _ (i3.1 _ _ ha3)) (i37.1 _ _ (i3.1 _ _ hb3)) (iF.1 _ _ (s7 _ _ (s6 _ _ f2))) (c4t (iF.1 _ _ (s7 _ _ (s6 _ _ f1))) (by rw[hpl];exact (PlsV.take hP3 _).tup i47.2)) (iF.1 _ _ (s7 _ _ f4)) (c4t (iF.1 _ _ (s7 _ _ f3)) (by rw[hpl];exact (plsdrop hP3 _).tup i47.2)) ⟨W1,W2,ha4.2.1,hb4.2.1,by rw[c5n] at n1;omega,by rw[c5n] at n2;omega,by rw[eR];exact q1',by rw[eR];exact q2',fun p hp=>C1 p (c7p hp),fun p hp=>C1 p (c7l hp),fun p hp=>C2 p (c7p hp),fun p hp=>C2 p (c7l hp),a7a W1 hD g1 zD,a7a W2 hD g2 zD⟩ (b14.free hx5 hlo4) ((b14.trans (ButX.same s5)).free (s5 _ _ hx5) hlt5);rw[b6j] at fin;rw[b6j];exact fin
theorem c2w(F:a0q K mg "halves" a5v ["curve"])(B:Blt mg):a1b P w K mg base CX0 1 "halves" ["curve"] b8a:=by
 refine a1j F a7r (fun vs H Q E h=>?_) (fun f cdv A outer s H vs Q E hr h=>?_)
 · obtain⟨a,ws,c,rfl,_⟩:=h;rfl
 obtain⟨a,ws,c,rfl,ha,hP,h12,k⟩:=h;have hu:=hr.units;refine⟨_,(a0e (a6f (i:=1) (j:=2) rfl a7r.nd rfl rfl (by decide) rfl rfl (a0a (a1q a0c) (a0a (a1q a0c) a0c)) rfl) (a0e (a0p (i:=3) a7r.nd rfl (Or.inl rfl) (pvI 0)) (a0e (a7t PassesOwn.never (pt_lstI (pvI 3)) (a0e (a3g (show PEi _ _ (tBM K _ _ _ _) from (a5a c6v c7d c7e a2l (pvI 1) (a0a (a0k (a0v K) (pvI 3) a0b (fun _ _=>rfl)) a0c)))) (a0e (a3g (show PEi _ _ (tBM K _ _ _ _) from (a5a c6v c7d c7e a2l (pvI 2) (a0a (a0k (a0v K) (pvI 3) (a7x a7m a0b) (fun _ _=>rfl)) a0c)))) (a0h (a7u (i:=3) (os:=["x","y","u","v"]) (caps:=[]) ["curve","first","second","row"] (a0f a5v) a7r.nd rfl rfl (show PIi _ _ _ (iZip K _) from (b3o rfl B.zip (a0a (pvI 3) (a0a (a3j (a5d K) (pvI 3) (a3h a0b) a3v) a0c)))) (fun _ _ _ _ _=>(a1h (n:=2) K rfl (a0i (a1h (n:=2) K rfl (a0i (a0g (i:=0) (show c6p (["x","y","u","v"]:List Str) from by decide +kernel) rfl (Or.inl rfl)) (a0i (a0g (i:=1) (show c6p (["x","y","u","v"]:List Str) from by decide +kernel) rfl (Or.inl rfl)) a1e))) (a0i (a1h (n:=2) K rfl (a0i (a0g (i:=2) (show c6p (["x","y","u","v"]:List Str) from by decide +kernel) rfl (Or.inl rfl)) (a0i (a0g (i:=3) (show c6p (["x","y","u","v"]:List Str) from by decide +kernel) rfl (Or.inl rfl)) a1e))) a1e)))) (fun _ _ _ _ _=>(a0y (a0a (a0j a6j (a0j a2f (pvI 0) (pvI 2)) a0b) (a0a (a0j a6j (a0j a2f (pvI 1) (pvI 3)) a0b) a0c)))) (by decide +kernel)))))) (a0h (a0r (a0y (a0a (pvI 1) (a0a (a6i K (pvI 2) (a3h (a7x a7m a0b))) a0c)))))))),?_⟩;walk_at "rz";intro l1 hl1;walk_at "rz";intro l2 hl2;refine⟨_,_,rfl,?_⟩;walk_at "rz";have n12:l1≠l2:=fun e=>by subst e;rw[a0d] at hl2;cases hl2
 have na1:a≠l1:=a0t ha hl1;have hl2':H l2=none:=(Same.new (o:=.lst []) hl1).free hl2;have na2:a≠l2:=a0t ha hl2';have sA:Same H (upd (upd H l1 (.lst [])) l2 (.lst [])):=(Same.new hl1).trans (Same.new hl2);have b1:(upd (upd H l1 (.lst [])) l2 (.lst [])) l1=some (.lst []):=a3e hl2 a0d;have b2:(upd (upd H l1 (.lst [])) l2 (.lst [])) l2=some (.lst []):=a0d;clear hl2;generalize upd (upd H l1 (.lst [])) l2 (.lst [])=H2 at *;refine b3a (fun σ H'=>∃ (lr:Addr) (rs us1 us2:List V) (r:Nat),σ=[some (.ref a),some (.ref l1),some (.ref l2),some (.ref lr)]∧Same H H'∧H' l1=some (.lst us1)∧H' l2=some (.lst us2)∧H' lr=some (.lst rs)∧lr≠l1∧lr≠l2∧PlsV H' rs (hrow c r)∧r≤c.length∧PlsV H' us1 ((c7s r).map fun r=>((hrow c r)[0]?).getD (0,0))∧PlsV H' us2 ((c7s r).map fun r=>((hrow c r)[c.length - 1 - r]?).getD (0,0))) muR ⟨a,ws,[],[],0,rfl,sA,b1,b2,sA _ _ ha,na1,na2,hP.same sA,by omega,⟨rfl,fun i v p e=>by simp at e⟩,⟨rfl,fun i v p e=>by simp at e⟩⟩ ?_ ?_
 · rintro σ H3 ⟨lr,rs,us1,us2,r,rfl,s3,q1,q2,q3,n1,n2,P3,hr,P1,P2⟩;have hrl:=P3.len;rw[a6a] at hrl;have mu0:muR [some (.ref a),some (.ref l1),some (.ref l2),some (.ref lr)] H3=rs.length:=muR_eq q3;have u1l:=P1.len;have u2l:=P2.len;rw[c5l,c7z] at u1l u2l;refine⟨_,rfl,lr,rs,rfl,q3,?_⟩;refine ifB (fun he=>?_) (fun he=>?_)
   · have hlt:r<c.length:=by
       cases rs with
       | nil=>simp at he
       | cons x xs=>simp at hrl;omega
     have e0:(hrow c r)[0]?=some ((hrow c r)[0]'(by rw[a6a];omega)):=c5j _;obtain⟨a0,w0,g0⟩:=P3.at e0;obtain⟨vL,wL,gL⟩:=row_last hlt P3;refine⟨_,rfl,.inl ⟨rfl,_,SqL.of q1⟩,?_⟩;refine⟨_,rfl,lr,_,_,_,rfl,rfl,SqL.of q3,a1v (j:=0) rfl w0,?_⟩;refine⟨l1,_,_,rfl,rfl,q1,a0o (by omega),?_⟩;have t1:Tup H3 (upd H3 l1 (.lst (us1++[.ref a0]))):=Tup.lst q1;have q1':(upd H3 l1 (.lst (us1++[.ref a0]))) l1=some (.lst (us1++[.ref a0])):=a0d;have q2':(upd H3 l1 (.lst (us1++[.ref a0]))) l2=some (.lst us2):=by rw[a0m n12.symm];exact q2
     have q3':(upd H3 l1 (.lst (us1++[.ref a0]))) lr=some (.lst rs):=by rw[a0m n1];exact q3
     have s3':Same H (upd H3 l1 (.lst (us1++[.ref a0]))):=a2g hl1 s3;have P1':=(P1.snoc (v:=.ref a0) (p:=((hrow c r)[0]'(by rw[a6a];omega))) ⟨a0,rfl,g0⟩).tup t1;have P2':=P2.tup t1;have P3':=P3.tup t1;have gL':=gL.tup t1;clear q1 q2 q3 s3 P1 P2 P3 gL t1;generalize upd H3 l1 (.lst (us1++[.ref a0]))=H4 at *;refine⟨_,rfl,.inl ⟨rfl,_,SqL.of q2'⟩,?_⟩;walk_at "rz";refine⟨lr,_,_,_,rfl,rfl,SqL.of q3',b1v rs vL wL (by omega),?_⟩;refine⟨l2,_,_,rfl,rfl,q2',a0o (by omega),?_⟩;have t2:Tup H4 (upd H4 l2 (.lst (us2++[vL]))):=Tup.lst q2';have c1:(upd H4 l2 (.lst (us2++[vL]))) l1=some (.lst (us1++[.ref a0])):=by rw[a0m n12];exact q1'
     have c2:(upd H4 l2 (.lst (us2++[vL]))) l2=some (.lst (us2++[vL])):=a0d;have c3:(upd H4 l2 (.lst (us2++[vL]))) lr=some (.lst rs):=by rw[a0m n2];exact q3'
     have s5:Same H (upd H4 l2 (.lst (us2++[vL]))):=a2g hl2' s3';have R1:=P1'.tup t2;have R2:=(P2'.snoc (v:=vL) (p:=((hrow c r)[c.length - 1 - r]?).getD (0,0)) gL').tup t2;have R3:=P3'.tup t2;clear q1' q2' q3' s3' P1' P2' P3' gL' t2;generalize upd H4 l2 (.lst (us2++[vL]))=H5 at *;walk_at "rz";refine⟨lr,_,rfl,SqL.of c3,fun l5 hl5=>?_⟩;rw[cut_rest rs (by omega)];have s6:Same H5 (upd H5 l5 (.lst (rs.drop 1))):=Same.new hl5;refine⟨_,_,rfl,⟨_,SqL.of (s6 _ _ c3)⟩,⟨_,SqL.of a0d⟩,comp_hv (s6 _ _ c3) (R3.same s6) a0d (by rw[a6a];omega) (fun H6 kk x y u v s7 hk=>?_) (fun D ys H6 hD s7 hd hP6=>?_)⟩
     · walk_at "rz";intro p hp;exact hk _ _ (Same.new hp) ⟨p,rfl,a0d⟩
     have s8:Same H5 H6:=s6.trans s7;have d1:=s8 _ _ c1;have d2:=s8 _ _ c2;have nD:H5 D=none:=s6.free hD;walk_at "cd";refine⟨⟨D,ys,_,_,r+1,rfl,s5.trans s8,d1,d2,hd,(fun e=>by rw[e,c1] at nD;cases nD),(fun e=>by rw[e,c2] at nD;cases nD),hP6,by omega,?_,?_⟩,?_⟩
     · rw[b2o,e0];exact R1.same s8
     · rw[b2o];exact R2.same s8
     · show muR [_,_,_,some (.ref D)] H6<muR [_,_,_,some (.ref lr)] H3;rw[muR_eq hd,mu0,hP6.len,b1f,a6a,hrl];omega
   · have hre:r=c.length:=by
       cases rs with
       | nil=>simp at hrl;omega
       | cons x xs=>simp at he
     subst hre;walk_at "rz";refine⟨l2,_,rfl,SqL.of q2,fun l6 hl6=>?_⟩;walk_at "rz";intro p hp;have s6:=(Same.new (o:=.lst us2.reverse) hl6).trans (Same.new (o:=.tup [.ref l1,.ref l6]) hp);have P2r:=P2.rev;rw[lh_rev] at P2r;exact k p l1 l6 us1 us2.reverse _ (s3.trans s6) a0d hl1 (s3.free hl6) (s6 _ _ q1) (a3e hp a0d) (P1.same s6) (P2r.same s6)
 · rintro σ H1 Q1 Q2 hq ⟨v,h1,p,ys,h2,h3,h4⟩;exact⟨v,h1,p,ys,h2,h3,hq _ _ h4⟩
theorem c2x(F:a0q K mg "halved" a5w ["curves"])(D_halves:a1b P w K mg base CX0 1 "halves" ["curve"] b8a):a1b P w K mg base CX0 2 "halved" ["curves"] (b8b K):=by
 refine a1j F c2c (fun vs H Q E h=>?_) (fun f cdv A outer s H vs Q E hr h=>?_)
 · obtain⟨a,ys,css,rfl,_⟩:=h;rfl
 obtain⟨a,ys,css,rfl,ha,hC,hn,hc,k⟩:=h;have hu:=hr.units;refine⟨_,(a0h (a0r (b9w (os:=["curve","half"]) (caps:=[]) ["curves"] (a0f a5w) (a1l K (pvI 0)) (fun _ _ _ _ _=>(a0g (i:=0) (show c6p (["curve","half"]:List Str) from by decide +kernel) rfl (Or.inl rfl))) (fun _ _ _ _ _=>(a7w K (a0s D_halves hr a1k (a0a (pvI 0) a0c)))) (fun _ _ _ _ _=>(a0g (i:=1) (show c6p (["curve","half"]:List Str) from by decide +kernel) rfl (Or.inl rfl))) (fun _ _ _ _ _=>(pvI 1)) (by decide +kernel)))),?_⟩;walk_at "rd";refine⟨⟨_,SqL.of ha⟩,b7d ha hC hn (fun l us c o H2 R hm hl hP hR=>?_) (fun v o H2 kk hk=>?_) (fun D zs H2 hD s2 hd hCs=>?_)⟩
 · walk_at "rd";refine⟨l,us,c,rfl,hl,hP,hc c hm,fun p l1 l2 u1 u2 H3 s3 hp f1 f2 g1 g2 P1 P2=>?_⟩;walk_at "rd";exact⟨⟨_,SqT.of hp⟩,hR p l1 l2 u1 u2 H3 s3 hp f1 f2 g1 g2 P1 P2⟩
 · walk_at "rd";exact hk
 · exact k D zs H2 s2 hD hd hCs
theorem a8v{C_Ground:Addr}(T_Ground:ClsK K mg "Ground" C_Ground)(N_Ground_room:a2s K C_Ground "room")(N_Ground_x_bottoms:a2s K C_Ground "x_bottoms")(N_Ground_y_bottoms:a2s K C_Ground "y_bottoms")(N_Ground_ones:a2s K C_Ground "ones")(N_Ground_others:a2s K C_Ground "others")(F:b4k K C_Ground "go_down" "Ground.go_down" a2j ["self"])(D_halved:a1b P w K mg base CX0 2 "halved" ["curves"] (b8b K)):b4j P w K mg base CX0 3 C_Ground "go_down" ["self"] (c1p K C_Ground):=by
 refine mth_ok F a8o (fun vs H Q E h=>?_) (fun f cdv A outer s H vs Q E hr h=>?_)
 · obtain⟨g,dx,lx,ly,lo,lt,R,yo,yt,As,Bs,rfl,_⟩:=h;rfl
 obtain⟨g,dx,lx,ly,lo,lt,R,yo,yt,As,Bs,rfl,hg,ho,hA,ht,hB,a1,a2,b1,b2,k⟩:=h;have hu:=hr.units;refine⟨_,(a0h (a2x (a0y (a0a (a0s D_halved hr a1k (a0a (show PEi _ _ (tFld K _ _) from (a6h (pvI 0))) a0c)) (a0a (a0s D_halved hr a1k (a0a (show PEi _ _ (tFld K _ _) from (a6h (pvI 0))) a0c)) a0c))) (a1h (n:=2) K rfl (a0i (a8t K (pvI 0)) (a0i (a8t K (pvI 0)) a1e))))),?_⟩;walk_at "rd";refine⟨g,C_Ground,dx,_,_,rfl,hg,T_Ground.cl,N_Ground_ones,a9h R lx ly lo lt,?_⟩;walk_at "rd";dsimp only[tNil];refine⟨lo,yo,As,rfl,ho,hA,a1,a2,fun l1 u1 H1 s1 h10 h1 hC1=>?_⟩;walk_at "rd";refine⟨g,C_Ground,dx,_,_,rfl,s1 _ _ hg,T_Ground.cl,N_Ground_others,a6z R lx ly lo lt,?_⟩;walk_at "rd";dsimp only[tNil];refine⟨lt,yt,Bs,rfl,s1 _ _ ht,hB.same s1,b1,b2,fun l2 u2 H2 s2 h20 h2 hC2=>?_⟩;walk_at "rd";intro tq htq;have s3:Same H2 (upd H2 tq (.tup [.ref l1,.ref l2])):=Same.new htq;have g3:(upd H2 tq (.tup [.ref l1,.ref l2])) tq=some (.tup [.ref l1,.ref l2]):=a0d;generalize upd H2 tq (.tup [.ref l1,.ref l2])=H3 at *;have s03:=s1.trans (s2.trans s3);have hg3:=s03 _ _ hg;refine⟨tq,_,rfl,SqT.of g3,rfl,_,_,rfl,_,rfl,g,C_Ground,dx,_,rfl,hg3,T_Ground.cl,N_Ground_ones,by rw[c4g];decide,_,_,rfl,_,rfl,g,C_Ground,dx,_,rfl,a0d,T_Ground.cl,N_Ground_others,by rw[b9a,c4g];decide,rfl,?_⟩;rw[b6j,b9a,c0h];exact k l1 l2 u1 u2 H3 s03 h10 (s1.free h20) (s3 _ _ (s2 _ _ h1)) (hC1.same (s2.trans s3)) (s3 _ _ h2) (hC2.same s3)
theorem b2c(F:a0q K mg "pairs_below" a2v ["pairs"])(B:Blt mg):a1b P w K mg base CX0 1 "pairs_below" ["pairs"] (c1s K):=by
 refine a1j F b1z (fun vs H Q E h=>?_) (fun f cdv A outer s H vs Q E hr h=>?_)
 · obtain⟨a,us,pl,rfl,_⟩:=h;rfl
 obtain⟨a,us,pl,rfl,ha,hP,hnd,hn,hz,k⟩:=h;have hu:=hr.units;refine⟨_,(a0h (a0r (a0w (c0u K) (by rfl) B.sorted PyProof.Rows.boot_sorted (a0a (b9v (os:=["i","j","k","m"]) (caps:=[]) ["pairs"] (a0f a2v) (a1l K (pvI 0)) (fun _ _ _ _ _=>(a1h (n:=2) K rfl (a0i (a0g (i:=0) (show c6p (["i","j","k","m"]:List Str) from by decide +kernel) rfl (Or.inl rfl)) (a0i (a0g (i:=1) (show c6p (["i","j","k","m"]:List Str) from by decide +kernel) rfl (Or.inl rfl)) a1e)))) (fun _ _ _ _ _=>(a7w K (a0y (a0a a0b (a0a a0b a0c))))) (fun _ _ _ _ _=>(a0g (i:=2) (show c6p (["i","j","k","m"]:List Str) from by decide +kernel) rfl (Or.inl rfl))) (fun _ _ _ _ _=>(a7w K (a0y (a0a a0b (a0a a0b a0c))))) (fun _ _ _ _ _=>(a0g (i:=3) (show c6p (["i","j","k","m"]:List Str) from by decide +kernel) rfl (Or.inl rfl))) (fun _ _ _ _ _=>(a0y (a0a (a0j a2f (a0j a0u a0b (pvI 0)) (pvI 2)) (a0a (a0j a2f (a0j a0u a0b (pvI 1)) (pvI 3)) a0c)))) (by decide +kernel)) a0c)))),?_⟩;walk_at "rd";refine⟨⟨_,SqL.of ha⟩,c0w ha hP hn (fun v p o1 o2 o3 o4 H2 R hp hv hR=>?_) (fun σ H2 R hR=>?_) (fun p x y H2 R hp hR=>?_) (fun D ys H2 hD s2 hd hY=>?_)⟩
 · obtain⟨b,rfl,hb⟩:=hv;exact⟨b,_,rfl,SqT.of hb,rfl,_,_,rfl,_,_,rfl,rfl,hR⟩
 · walk_at "rd";intro t ht;exact⟨t,rfl,⟨_,SqT.of a0d⟩,hR t ht⟩
 · obtain⟨z1,z2⟩:=hz p hp;walk_at "rd";exact hR
 · walk_at "rd";refine⟨D,ys,below pl,rfl,SqL.of hd,hY,b1t hnd,by rw[a8h];omega,fun l vs qs hl hpm hst hV=>?_⟩;exact k l vs qs _ (s2.trans (Same.new hl)) (s2.free hl) a0d (hV.same (Same.new hl)) hpm hst
theorem ok_along(F:a0q K mg "along" a7d ["places","way"]):a1b P w K mg base CX0 1 "along" ["places","way"] (c1u K):=by
 refine a1j F sc_along (fun vs H Q E h=>?_) (fun f cdv A outer s H vs Q E hr h=>?_)
 · obtain⟨a,b,ws,pl,w,rfl,_⟩:=h;rfl
 obtain⟨a,b,ws,pl,w,rfl,ha,hP,hw,zp,zw,hl,k⟩:=h;have hu:=hr.units;refine⟨_,(a0h (a0r (a2k (os:=["x","y"]) (caps:=[(1,"way")]) ["places","way"] (a0f a7d) (a1l K (pvI 0)) (fun _ _ _ _ _=>(a1h (n:=2) K rfl (a0i (a0g (i:=0) (show c6p (["x","y","way"]:List Str) from by decide +kernel) rfl (Or.inl rfl)) (a0i (a0g (i:=1) (show c6p (["x","y","way"]:List Str) from by decide +kernel) rfl (Or.inl rfl)) a1e)))) (fun _ _ _ _ _=>(a0j a2f (a0j a0u (pvI 0) (a0k (a0l K) (pvI 2) a0b (fun _ _=>rfl))) (a0j a0u (pvI 1) (a0k (a0l K) (pvI 2) a0b (fun _ _=>rfl))))) (by decide +kernel)))),?_⟩;have z3:=zw.1;have z4:=zw.2;have hwl:=hP.len;walk_at "rd";refine⟨⟨_,SqL.of ha⟩,comp2 (b5d (SqL.of ha) hP) (by omega) (fun i v _=>v=V.int (dt w ((pl[i]?).getD (0,0)))) (fun _ _ _ _ _ h=>h) (fun i H2 kk hi s2 hk=>?_) (fun E us H2 hE s2 hE2 hlu hr=>?_)⟩
 · have hw2:=SqT.same' hw s2;have ep:pl[i]?=some (pl[i]'(by omega (config:={}))):=c5j _;have zi:=zp _ (c6z (show i<pl.length by omega));rw[ep] at hk ⊢;generalize pl[i]'(by omega (config:={}))=p at *;have z1:=zi.1;have z2:=zi.2;walk_at "rd";refine hk _ _ (L2.Same.refl _) ?_;show V.int (p.1*w.1+p.2*w.2)=V.int (dt w p);unfold dt;rw[c8n p.1,c8n p.2]
 rw[ints_dt hlu hr] at hE2;walk_at "rd";exact k E H2 s2 hE hE2
theorem b2b(F:a0q K mg "step_across" a3l ["ones","others","i","j"]):a1b P w K mg base CX0 1 "step_across" ["ones","others","i","j"] (b3d K):=by
 refine a1j F b1y (fun vs H Q E h=>?_) (fun f cdv A outer s H vs Q E hr h=>?_)
 · obtain⟨a,b,ws,us,pl,ql,i,j,p,q,rfl,_⟩:=h;rfl
 obtain⟨a,b,ws,us,pl,ql,i,j,p,q,rfl,ha,hP,hb,hQ,ei,ej,k⟩:=h;have hu:=hr.units;refine⟨_,(a0h (a0r (a0y (a0a (a0j a3z (a0k (a0l K) (a0k (a0v K) (pvI 1) (pvI 3) (fun _ _=>rfl)) a0b (fun _ _=>rfl)) (a0k (a0l K) (a0k (a0v K) (pvI 0) (pvI 2) (fun _ _=>rfl)) a0b (fun _ _=>rfl))) (a0a (a0j a3z (a0k (a0l K) (a0k (a0v K) (pvI 1) (pvI 3) (fun _ _=>rfl)) a0b (fun _ _=>rfl)) (a0k (a0l K) (a0k (a0v K) (pvI 0) (pvI 2) (fun _ _=>rfl)) a0b (fun _ _=>rfl))) (a0a (pvI 2) (a0a (pvI 3) a0c))))))),?_⟩;obtain⟨ap,wp,gp⟩:=hP.at ei;obtain⟨aq,wq,gq⟩:=hQ.at ej;have xi:atI ws (i:Int)=some (.ref ap):=a1v (j:=i) rfl wp;have xj:atI us (j:Int)=some (.ref aq):=a1v (j:=j) rfl wq;walk_at "rd";intro c hc;exact k c _ (Same.new hc) a0d
theorem ok_reach(F:a0q K mg "reach" a8q ["ones","others","way"])(B:Blt mg)(D_along:a1b P w K mg base CX0 1 "along" ["places","way"] (c1u K))(D_step_across:a1b P w K mg base CX0 1 "step_across" ["ones","others","i","j"] (b3d K)):a1b P w K mg base CX0 2 "reach" ["ones","others","way"] (c1l K):=by
 refine a1j F b3j (fun vs H Q E h=>?_) (fun f cdv A outer s H vs Q E hr h=>?_)
 · obtain⟨a,b,d,ws,us,pl,ql,w,rfl,_⟩:=h;rfl
 obtain⟨a,b,d,ws,us,pl,ql,w,rfl,ha,hP,hb,hQ,hd,zp,zq,zw,p1,q1,pM,qM,k⟩:=h;have hu:=hr.units;refine⟨_,(a0e (a6f (i:=3) (j:=4) rfl b3j.nd rfl rfl (by decide) rfl rfl (a0a (a0s D_along hr a1k (a0a (pvI 0) (a0a (pvI 2) a0c))) (a0a (a0s D_along hr a1k (a0a (pvI 1) (a0a (pvI 2) a0c))) a0c)) rfl) (a0e (a6f (i:=5) (j:=6) rfl b3j.nd rfl rfl (by decide) rfl rfl (a0a (a0w (c4y rfl) (by rfl) B.max PyProof.Rows.boot_max (a0a (pvI 3) a0c)) (a0a (a0w (c4x rfl) (by rfl) B.min PyProof.Rows.boot_min (a0a (pvI 4) a0c)) a0c)) rfl) (a0h (a0r (a0y (a0a (pvI 5) (a0a (pvI 6) (a0a (a0s D_step_across hr a1k (a0a (pvI 0) (a0a (pvI 1) (a0a (show PEi _ _ (tBM K _ _ _ _) from (a5a c6v PySem.F.slot_list_index PySem.F.type_list_index b8r (pvI 3) (a0a (pvI 5) a0c))) (a0a (show PEi _ _ (tBM K _ _ _ _) from (a5a c6v PySem.F.slot_list_index PySem.F.type_list_index b8r (pvI 4) (a0a (pvI 6) a0c))) a0c))))) a0c)))))))),?_⟩;walk_at "rz";refine⟨a,d,ws,pl,w,rfl,ha,hP,hd,zp,zw,pM,fun l1 H1 s1 h10 h1=>?_⟩;walk_at "rz";refine⟨b,d,us,ql,w,rfl,s1 _ _ hb,hQ.same s1,SqT.same' hd s1,zq,zw,qM,fun l2 H2 s2 h20 h2=>?_⟩;replace h1:=s2 _ _ h1;have s12:=s1.trans s2;replace ha:=s12 _ _ ha;replace hb:=s12 _ _ hb;replace hP:=hP.same s12;replace hQ:=hQ.same s12;refine⟨_,_,rfl,?_⟩;walk_at "rz";refine⟨l1,pl.map (dt w),rfl,SqL.of h1,by rw[c5l];omega,fun M hM hmax=>?_⟩;walk_at "rz";refine⟨l2,ql.map (dt w),rfl,SqL.of h2,by rw[c5l];omega,fun N hN hmin=>?_⟩;refine⟨_,_,rfl,?_⟩;obtain⟨i,ei,ni⟩:=b9e hM;obtain⟨j,ej,nj⟩:=b9e hN;have ei':=ei;have ej':=ej;rw[c5t] at ei' ej';obtain⟨p,ep,rfl⟩:=c8e.mp ei';obtain⟨q,eq,rfl⟩:=c8e.mp ej';walk_at "rz";refine⟨.inl ⟨rfl,_,SqL.of h1⟩,?_⟩;walk_at "rz";refine⟨ni,?_⟩;refine⟨_,rfl,.inl ⟨rfl,_,SqL.of h2⟩,?_⟩;walk_at "rz";refine⟨nj,?_⟩;refine⟨a,b,ws,us,pl,ql,i,j,p,q,rfl,ha,hP,hb,hQ,ep,eq,fun f0 H3 s3 hf=>?_⟩;walk_at "rz";intro c hc;exact k c f0 i j p q _ ((s12.trans s3).trans (Same.new hc)) a0d ((Same.new hc) _ _ hf) ep eq (fun p' hp'=>hmax _ (c6h.mpr ⟨p',hp',rfl⟩)) (fun q' hq'=>hmin _ (c6h.mpr ⟨q',hq',rfl⟩))
theorem b0x(F:a0q K mg "turn_between" a3b ["one","other"]):a1b P w K mg base CX0 1 "turn_between" ["one","other"] (b6m K):=by
 refine a1j F b0n (fun vs H Q E h=>?_) (fun f cdv A outer s H vs Q E hr h=>?_)
 · obtain⟨a,b,p,q,i,j,m,n,rfl,_⟩:=h;rfl
 obtain⟨a,b,p,q,i,j,m,n,rfl,ha,hb,zp,zq,k⟩:=h;have hu:=hr.units;refine⟨_,(a0h (a0r (a0j a3z (a0j a0u (a0k (a0l K) (pvI 0) a0b (fun _ _=>rfl)) (a0k (a0l K) (pvI 1) a0b (fun _ _=>rfl))) (a0j a0u (a0k (a0l K) (pvI 0) a0b (fun _ _=>rfl)) (a0k (a0l K) (pvI 1) a0b (fun _ _=>rfl)))))),?_⟩;have z1:=zp.1;have z2:=zp.2;have z3:=zq.1;have z4:=zq.2;walk_at "rd";exact k
theorem b6v(F:a0q K mg "way_amid" a4r ["right","left"]):a1b P w K mg base CX0 1 "way_amid" ["right","left"] (spAmid K):=by
 refine a1j F b6q (fun vs H Q E h=>?_) (fun f cdv A outer s H vs Q E hr h=>?_)
 · obtain⟨x,y,r,l,rfl,_⟩:=h;rfl
 obtain⟨_,_,r,l,rfl,⟨ar,rfl,hR0⟩,⟨al,rfl,hL0⟩,k⟩:=h;have hu:=hr.units;refine⟨_,(a0e (a2h (a1c (b0v K hu) (pvI 0) (pvI 1) (a1t _)) (a0h (a0r (a3j (b6p K) (pvI 0) a3v (a3h a0b)))) a1o) (a0h (a0r (a0y (a0a (a0j a3z (a0k (a0l K) (pvI 1) a0b (fun _ _=>rfl)) (a0k (a0l K) (pvI 0) a0b (fun _ _=>rfl))) (a0a (a0j a3z (a0k (a0l K) (pvI 0) a0b (fun _ _=>rfl)) (a0k (a0l K) (pvI 1) a0b (fun _ _=>rfl))) a0c)))))),?_⟩;walk_at "rd";refine⟨b1l r,b1l l,dnSt ⟨ar,rfl,hR0⟩,dnSt ⟨al,rfl,hL0⟩,b0d _ 6,b0d _ 6,fun b0 hb0=>?_⟩;refine⟨_,rfl,?_⟩;by_cases e:r=l
 · obtain rfl:=hb0.mpr (a8f.mpr e);refine iteT ?_;walk_at "rd";refine⟨ar,_,rfl,SqT.of hR0,show ¬ (HT.sIx 4 0 none=0∧HT.sIx 4 4 (some 2)=4) by decide,fun c hc=>?_⟩;have e2:wayA r l=r.1:=if_pos e;exact k c _ (Same.new hc) (by rw[a0d,e2];rfl)
 · have hf:b0=false:=by
     cases b0 with
     | false=>rfl
     | true=>exact absurd (a8f.mp (hb0.mp rfl)) e
   subst hf;refine iteF ?_;have e2:wayA r l=amid r.1 l.1:=if_neg e;walk_at "rd";intro c hc;exact k c _ (Same.new hc) (by rw[a0d,e2];rfl)
theorem c2s(F:a0q K mg "parted" a6q ["ones","others"]){A_PLAIN_WAYS B1_PLAIN_WAYS B2_PLAIN_WAYS B3_PLAIN_WAYS B4_PLAIN_WAYS:Addr}{t_MOST_PAIRS:Tok}(G:Cst K mg A_PLAIN_WAYS B1_PLAIN_WAYS B2_PLAIN_WAYS B3_PLAIN_WAYS B4_PLAIN_WAYS t_MOST_PAIRS)(D_step_across:a1b P w K mg base CX0 1 "step_across" ["ones","others","i","j"] (b3d K))(D_reach:a1b P w K mg base CX0 2 "reach" ["ones","others","way"] (c1l K))(D_turn_between:a1b P w K mg base CX0 1 "turn_between" ["one","other"] (b6m K))(D_way_amid:a1b P w K mg base CX0 1 "way_amid" ["right","left"] (spAmid K)):a1b P w K mg base CX0 3 "parted" ["ones","others"] (b3e K):=by
 refine a1j F a2q (fun vs H Q E h=>?_) (fun f cdv A outer s H vs Q E hr h=>?_)
 · obtain⟨a,b,ws,us,pl,ql,n,rfl,_⟩:=h;rfl
 obtain⟨a,b,ws,us,pl,ql,n,rfl,ha,hP,hb,hQ,zp0,zq0,hn1,hn,p1,q1,pM,qM,k1,k2⟩:=h;have hu:=hr.units;refine⟨_,(a0e (a2n PassesOwn.never rfl (a7w K (b8l (v:=.ref A_PLAIN_WAYS) rfl G.PLAIN_WAYS rfl)) (a0g (i:=2) a2q.nd rfl (Or.inl rfl)) (a0e (a2x (a0s D_reach hr a1k (a0a (pvI 0) (a0a (pvI 1) (a0a (pvI 2) a0c)))) (a1h (n:=3) K rfl (a0i (a0g (i:=3) a2q.nd rfl (Or.inl rfl)) (a0i (a0g (i:=4) a2q.nd rfl (Or.inl rfl)) (a0i (a0g (i:=5) a2q.nd rfl (Or.inl rfl)) a1e))))) (a0h (a2h (a1c b9x (pvI 3) (pvI 4) (a1t _)) (a0h (a0r (a0y (a0a (a0j (a4m K) (pvI 2) (a0y (a0a (a0j a2f (pvI 3) (pvI 4)) a0c))) (a0a (a1q a0c) a0c))))) a1o)))) (a0e (ps_asg2I (a0s D_step_across hr a1k (a0a (pvI 0) (a0a (pvI 1) (a0a a0b (a0a a0b a0c))))) (a0g (i:=6) a2q.nd rfl (Or.inl rfl)) (a0g (i:=7) a2q.nd rfl (Or.inl rfl))) (a0e (a2h (a1c (b0v K hu) (a3j (b6p K) (pvI 6) a3v (a3h a0b)) (a0y (a0a a0b (a0a a0b a0c))) (a1t _)) (a0h (a0r (a0y (a0a a7h (a0a (a1q (a0a (pvI 6) a0c)) a0c))))) a1o) (a0h (a7t PassesOwn.never (a5x a7z) (a0e (a0p (i:=2) a2q.nd rfl (Or.inl rfl) (a0s D_way_amid hr a1k (a0a (pvI 6) (a0a (pvI 7) a0c)))) (a0e (a2x (a0s D_reach hr a1k (a0a (pvI 0) (a0a (pvI 1) (a0a (pvI 2) a0c)))) (a1h (n:=3) K rfl (a0i (a0g (i:=3) a2q.nd rfl (Or.inl rfl)) (a0i (a0g (i:=4) a2q.nd rfl (Or.inl rfl)) (a0i (a0g (i:=5) a2q.nd rfl (Or.inl rfl)) a1e))))) (a0e (a2h (a1c b9x (pvI 3) (pvI 4) (a1t _)) (a0h (a0r (a0y (a0a (a0j (a4m K) (pvI 2) (a0y (a0a (a0j a2f (pvI 3) (pvI 4)) a0c))) (a0a (a1q a0c) a0c))))) a1o) (a0h (a2h (a1c b9y (a0s D_turn_between hr a1k (a0a (pvI 6) (a0a (pvI 5) a0c))) a0b (a1t _)) (a0h (a0p (i:=7) a2q.nd rfl (Or.inl rfl) (pvI 5))) (a0h (a2h (a1c b9y (a0s D_turn_between hr a1k (a0a (pvI 5) (a0a (pvI 7) a0c))) a0b (a1t _)) (a0h (a0p (i:=6) a2q.nd rfl (Or.inl rfl) (pvI 5))) (a0h (a0r (a0y (a0a a7h (a0a (c2i (a1c (b0v K hu) (pvI 6) (pvI 7) (a1t _)) (a1q (a0a (pvI 6) (a0a (pvI 5) a0c))) (a1q (a0a (pvI 6) (a0a (pvI 7) (a0a (pvI 5) a0c))))) a0c))))))))))))))))),?_⟩;have zp:=zp0.mono hn;have zq:=zq0.mono hn;walk_at "rd";refine⟨⟨_,G.pPLAIN_WAYS H⟩,c4k (xs:=[.ref B1_PLAIN_WAYS,.ref B2_PLAIN_WAYS,.ref B3_PLAIN_WAYS,.ref B4_PLAIN_WAYS]) (fun i σ H'=>∃ (y2 y3 y4 y5:Option V),σ=[some (.ref a),some (.ref b),y2,y3,y4,y5,none,none]∧Same H H') ⟨none,none,none,none,rfl,L2.Same.refl _⟩ (fun i σ H' _ _=>G.pPLAIN_WAYS H') ?_ ?_⟩
 · rintro i v σ H2 hv ⟨y2,y3,y4,y5,rfl,s2⟩;obtain⟨B0,w,rfl,hw,zw⟩ : ∃ (B0:Addr) (w:Pl),v=.ref B0∧(∀ H,SqT K H B0 [.int w.1,.int w.2])∧SzW (n+2) w:=by
     have o:Sz (n+2) 1:=Sz.mono Sz.one (by omega);have z:Sz (n+2) 0:=Sz.mono Sz.zero (by omega);match i,hv with
     | 0,hv=>cases hv;exact⟨_,(1,0),rfl,fun H=>(G.wPLAIN_WAYS H).1,o,z⟩
     | 1,hv=>cases hv;exact⟨_,(-1,0),rfl,fun H=>(G.wPLAIN_WAYS H).2.1,o.neg,z⟩
     | 2,hv=>cases hv;exact⟨_,(0,1),rfl,fun H=>(G.wPLAIN_WAYS H).2.2.1,z,o⟩
     | 3,hv=>cases hv;exact⟨_,(0,-1),rfl,fun H=>(G.wPLAIN_WAYS H).2.2.2,z,o.neg⟩
     | i+4,hv=>exact absurd (c5m.mp hv).1 (by simp)
   walk_at "rd";refine⟨a,b,B0,ws,us,pl,ql,w,rfl,s2 _ _ ha,hP.same s2,s2 _ _ hb,hQ.same s2,hw _,zp,zq,⟨zw.1.mono (by omega),zw.2.mono (by omega)⟩,p1,q1,pM,qM,fun c f0 i1 j1 p q H3 s3 hc hf ei ej hmax hmin=>?_⟩;refine⟨c,_,rfl,SqT.of hc,rfl,_,_,rfl,_,_,rfl,_,_,rfl,rfl,?_⟩;walk_at "rd";by_cases h:dt w p<dt w q
   · refine ifT (by simpa using h) ?_;walk_at "rd";intro g hg;have wg:=Same.new (o:=.tup [.int (dt w p+dt w q)]) hg;refine⟨B0,g,_,_,rfl,rfl,hw _,SqT.of a0d,by simp,by show 3≤sizeLine;decide,fun z=>(nomatch z),fun _ d hd=>?_⟩;have wd:=Same.new (o:=.tup ([.int w.1,.int w.2]++[.int (dt w p+dt w q)])) hd;walk_at "rd";intro e he;have we:=Same.new (o:=.lst []) he;walk_at "rd";intro c2 hc2;have wc:=Same.new (o:=.tup [.ref d,.ref e]) hc2;exact k1 c2 d e w p q _ (((((s2.trans s3).trans wg).trans wd).trans we).trans wc) a0d (wc _ _ (we _ _ a0d)) (wc _ _ a0d) zw (c5p ei) (c5p ej) h hmax hmin
   · refine ifF (by simpa using h) ?_;exact⟨_,_,_,_,rfl,s2.trans s3⟩
 rintro σ H2 ⟨y2,y3,y4,y5,rfl,s2⟩;walk_at "rd";refine⟨a,b,ws,us,pl,ql,0,0,_,_,rfl,s2 _ _ ha,hP.same s2,s2 _ _ hb,hQ.same s2,c5j (show 0<pl.length by omega),c5j (show 0<ql.length by omega),fun c H3 s3 hc=>?_⟩;have s23:=s2.trans s3;obtain⟨r0,hr0⟩ : ∃ r0:Stp,r0=((((ql[0]'(by omega (config:={}))).1 - (pl[0]'(by omega (config:={}))).1,(ql[0]'(by omega (config:={}))).2 - (pl[0]'(by omega (config:={}))).2):Pl),(((0:Nat):Int),((0:Nat):Int))):=⟨_,rfl⟩
 have hc0:H3 c=some (.tup [.int r0.1.1,.int r0.1.2,.int r0.2.1,.int r0.2.2]):=by rw[hr0];exact hc
 have ac0:a7b pl ql r0:=⟨0,0,_,_,c5j (show 0<pl.length by omega),c5j (show 0<ql.length by omega),hr0⟩
 clear hc hr0;walk_at "rd";refine⟨c,_,rfl,SqT.of hc0,show ¬ (HT.sIx 4 0 none=0∧HT.sIx 4 4 (some 2)=4) by decide,fun g hg=>?_⟩;have wg:Same H3 (upd H3 g (.tup (cutV [.int r0.1.1,.int r0.1.2,.int r0.2.1,.int r0.2.2] none (some 2)))):=Same.new hg;have hg2:(upd H3 g (.tup (cutV [.int r0.1.1,.int r0.1.2,.int r0.2.1,.int r0.2.2] none (some 2)))) g=some (.tup [.int r0.1.1,.int r0.1.2]):=a0d;generalize upd H3 g (.tup (cutV [.int r0.1.1,.int r0.1.2,.int r0.2.1,.int r0.2.2] none (some 2)))=H4 at *;walk_at "rd";intro g2 hn2;have wg2:Same H4 (upd H4 g2 (.tup [.int 0,.int 0])):=Same.new hn2;have hz2:(upd H4 g2 (.tup [.int 0,.int 0])) g2=some (.tup [.int 0,.int 0]):=a0d;generalize upd H4 g2 (.tup [.int 0,.int 0])=H5 at *;refine⟨.tuple [.int r0.1.1,.int r0.1.2],.tuple [.int 0,.int 0],dnPl2 (SqT.of (wg2 _ _ hg2)),dnPl2 (SqT.of hz2),datPl2 _ _ 6,datPl2 _ _ 6,fun b0 hb0=>?_⟩;have hc5:=wg2 _ _ (wg _ _ hc0);have s5:Same H H5:=(s23.trans wg).trans wg2;clear hc0 hg2 hz2 wg wg2 s23 s2 s3 hn2 hg;refine⟨_,rfl,?_⟩;by_cases e0:r0.1=(0,0)
 · have hb1:b0=true:=hb0.mpr (by rw[e0]);subst hb1;refine iteT ?_;walk_at "rd";intro e he;have we:=Same.new (o:=.lst [.ref c]) he;walk_at "rd";intro c2 hc2;have wc:=Same.new (o:=.tup [.non,.ref e]) hc2;refine k2 c2 e [.ref c] [r0] _ ((s5.trans we).trans wc) a0d (wc _ _ a0d) ⟨rfl,fun i v s e1 e2=>?_⟩ (fun s hs=>by cases c6g.mp hs;exact ac0) (.inl ⟨r0,rfl,e0⟩);match i,e1,e2 with
   | 0,e1,e2=>cases e1;cases e2;exact⟨c,rfl,wc _ _ (we _ _ hc5)⟩
   | i+1,e1,e2=>simp at e1
 have hb1:b0=false:=by
   cases b0 with
   | false=>rfl
   | true=>
     have:=hb0.mp rfl;simp at this;exact absurd (Prod.ext this.1 this.2) e0
 subst hb1;refine iteF ?_;walk_at "rd";refine while_gh (fun m σ H'=>∃ (ar al:Addr) (r l:Stp) (y2 y3 y4 y5:Option V),σ=[some (.ref a),some (.ref b),y2,y3,y4,y5,some (.ref ar),some (.ref al)]∧Same H H'∧H' ar=some (.tup [.int r.1.1,.int r.1.2,.int r.2.1,.int r.2.2])∧H' al=some (.tup [.int l.1.1,.int l.1.2,.int l.2.1,.int l.2.2])∧a7b pl ql r∧a7b pl ql l∧RLok r l∧m=mS (allSt pl ql) r l) ⟨c,c,r0,r0,_,_,_,_,rfl,s5,hc5,hc5,ac0,ac0,.inl ⟨rfl,e0⟩,rfl⟩ ?_ ?_
 · rintro m σ H6 ⟨ar,al,r,l,y2,y3,y4,y5,rfl,s6,hr6,hl6,acr,acl,hrl,rfl⟩;have zr:=acr.sz zp0 zq0;have zl:=acl.sz zp0 zq0;have zw:=wayA_sz zr zl;refine⟨_,rfl,?_⟩;refine iteT ?_;walk_at "rd";refine⟨_,_,r,l,rfl,⟨ar,rfl,hr6⟩,⟨al,rfl,hl6⟩,fun w0 H7 s7 hw7=>?_⟩;have s67:=s6.trans s7;walk_at "rd";refine⟨a,b,w0,ws,us,pl,ql,wayA r l,rfl,s67 _ _ ha,hP.same s67,s67 _ _ hb,hQ.same s67,SqT.of hw7,zp,zq,⟨zw.1.mono (by omega),zw.2.mono (by omega)⟩,p1,q1,pM,qM,fun c8 f0 i1 j1 p q H8 s8 hc8 hf ei ej hmax hmin=>?_⟩;have hw8:=s8 _ _ hw7;have hr8:=s8 _ _ (s7 _ _ hr6);have hl8:=s8 _ _ (s7 _ _ hl6);have s68:=s67.trans s8;clear hr6 hl6 hw7 s6 s67 s7 s8;refine⟨c8,_,rfl,SqT.of hc8,rfl,_,_,rfl,_,_,rfl,_,_,rfl,rfl,?_⟩;obtain⟨f,hfe⟩ : ∃ f:Stp,f=((q.1 - p.1,q.2 - p.2),((i1:Int),(j1:Int))):=⟨_,rfl⟩
   have acf:a7b pl ql f:=⟨i1,j1,p,q,ei,ej,hfe⟩
   have hf8:H8 f0=some (.tup [.int f.1.1,.int f.1.2,.int f.2.1,.int f.2.2]):=by rw[hfe];exact hf
   have hdt:dt (wayA r l) f.1=dt (wayA r l) q - dt (wayA r l) p:=by rw[hfe];exact dt_sub _ _ _
   have zf:=acf.sz zp0 zq0;clear hf hfe;walk_at "rd";by_cases h:dt (wayA r l) p<dt (wayA r l) q
   · refine ifT (by simpa using h) ?_;walk_at "rd";intro g hg;have wg:=Same.new (o:=.tup [.int (dt (wayA r l) p+dt (wayA r l) q)]) hg;refine⟨w0,g,_,_,rfl,rfl,SqT.of (wg _ _ hw8),SqT.of a0d,by simp,by show 3≤sizeLine;decide,fun z=>(nomatch z),fun _ d hd=>?_⟩;have wd:=Same.new (o:=.tup ([.int (wayA r l).1,.int (wayA r l).2]++[.int (dt (wayA r l) p+dt (wayA r l) q)])) hd;walk_at "rd";intro e he;have we:=Same.new (o:=.lst []) he;walk_at "rd";intro c2 hc2;have wc:=Same.new (o:=.tup [.ref d,.ref e]) hc2;exact k1 c2 d e (wayA r l) p q _ ((((s68.trans wg).trans wd).trans we).trans wc) a0d (wc _ _ (we _ _ a0d)) (wc _ _ a0d) zw (c5p ei) (c5p ej) h hmax hmin
   refine ifF (by simpa using h) ?_;have hw0:dt (wayA r l) f.1≤0:=by omega
   walk_at "rd";refine⟨ar,f0,r.1,f.1,_,_,_,_,rfl,hr8,hf8,⟨zr.1.mono (by omega),zr.2.mono (by omega)⟩,⟨zf.1.mono (by omega),zf.2.mono (by omega)⟩,?_⟩;walk_at "rd";by_cases h1:0<cr r.1 f.1
   · refine ifT (by simpa using h1) ?_;walk_at "rd";obtain⟨z1,z2⟩:=c1i acf.mem hrl hw0 h1;exact⟨_,z2,ar,f0,r,f,_,_,_,_,rfl,s68,hr8,hf8,acr,acf,z1,rfl⟩
   refine ifF (by simpa using h1) ?_;walk_at "rd";refine⟨f0,al,f.1,l.1,_,_,_,_,rfl,hf8,hl8,⟨zf.1.mono (by omega),zf.2.mono (by omega)⟩,⟨zl.1.mono (by omega),zl.2.mono (by omega)⟩,?_⟩;walk_at "rd";by_cases h2:0<cr f.1 l.1
   · refine ifT (by simpa using h2) ?_;walk_at "rd";obtain⟨z1,z2⟩:=b9q acf.mem hrl hw0 h2;exact⟨_,z2,f0,al,f,l,_,_,_,_,rfl,s68,hf8,hl8,acf,acl,z1,rfl⟩
   refine ifF (by simpa using h2) ?_;walk_at "rd";refine⟨b1l r,b1l l,dnSt ⟨ar,rfl,hr8⟩,dnSt ⟨al,rfl,hl8⟩,b0d _ 6,b0d _ 6,fun b0 hb0=>?_⟩;refine⟨_,rfl,?_⟩;by_cases e:r=l
   · obtain rfl:=hb0.mpr (a8f.mpr e);subst e;refine iteT ?_;walk_at "rd";intro e1 he;have we:=Same.new (o:=.lst [.ref ar,.ref f0]) he;walk_at "rd";intro c2 hc2;have wc:=Same.new (o:=.tup [.non,.ref e1]) hc2;refine k2 c2 e1 [.ref ar,.ref f0] [r,f] _ ((s68.trans we).trans wc) a0d (wc _ _ a0d) ⟨rfl,fun i v s e3 e4=>?_⟩ (fun s hs=>by simp at hs;rcases hs with rfl | rfl<;>assumption) (end_two hrl hw0 h1 h2);match i,e3,e4 with
     | 0,e3,e4=>cases e3;cases e4;exact⟨ar,rfl,wc _ _ (we _ _ hr8)⟩
     | 1,e3,e4=>cases e3;cases e4;exact⟨f0,rfl,wc _ _ (we _ _ hf8)⟩
     | i+2,e3,e4=>simp at e3
   · have hf9:b0=false:=by
       cases b0 with
       | false=>rfl
       | true=>exact absurd (a8f.mp (hb0.mp rfl)) e
     subst hf9;refine iteF ?_;walk_at "rd";intro e1 he;have we:=Same.new (o:=.lst [.ref ar,.ref al,.ref f0]) he;walk_at "rd";intro c2 hc2;have wc:=Same.new (o:=.tup [.non,.ref e1]) hc2;refine k2 c2 e1 [.ref ar,.ref al,.ref f0] [r,l,f] _ ((s68.trans we).trans wc) a0d (wc _ _ a0d) ⟨rfl,fun i v s e3 e4=>?_⟩ (fun s hs=>by simp at hs;rcases hs with rfl | rfl | rfl<;>assumption) (c4n hrl e h1 h2);match i,e3,e4 with
     | 0,e3,e4=>cases e3;cases e4;exact⟨ar,rfl,wc _ _ (we _ _ hr8)⟩
     | 1,e3,e4=>cases e3;cases e4;exact⟨al,rfl,wc _ _ (we _ _ hl8)⟩
     | 2,e3,e4=>cases e3;cases e4;exact⟨f0,rfl,wc _ _ (we _ _ hf8)⟩
     | i+3,e3,e4=>simp at e3
 · rintro σ H1 Q1 Q2 hq ⟨b1,h1,h2⟩;exact⟨b1,h1,hq _ _ h2⟩
theorem ok_share(F:a0q K mg "share" a8p ["top","bottom"])(D_greatest_common:a1b P w K mg base CX0 1 "greatest_common" ["one","other"] spGcd):a1b P w K mg base CX0 2 "share" ["top","bottom"] b6n:=by
 refine a1j F b3i (fun vs H Q E h=>?_) (fun f cdv A outer s H vs Q E hr h=>?_)
 · obtain⟨a,b,rfl,_⟩:=h;rfl
 obtain⟨t,b,rfl,hb,hz,k⟩:=h;have hu:=hr.units;refine⟨_,(a0e (a2h (a1c a9m (pvI 1) a0b (a1t _)) (a0h b4z) a1o) (a0e (a0p (i:=2) b3i.nd rfl (Or.inl rfl) (a0s D_greatest_common hr a1k (a0a (pvI 0) (a0a (pvI 1) a0c)))) (a0e (a2h (a1c b9x (pvI 1) a0b (a1t _)) (a0h (a0p (i:=2) b3i.nd rfl (Or.inl rfl) (a7x a7m (pvI 2)))) a1o) (a0h (a0r (a0y (a0a (a0j a4l (pvI 0) (pvI 2)) (a0a (a0j a4l (pvI 1) (pvI 2)) a0c)))))))),?_⟩;have g0:(c6o t b:Int)≠0:=b9d t b hb;have gz:Sz 9000 (c6o t b:Int):=hz.le (by
   rw[Int.natAbs_natCast];exact Nat.le_of_dvd (by omega) (Int.gcd_dvd_natAbs_right t b))
 refine⟨_,rfl,rfl,_,rfl,?_⟩;refine ifF (by simp[hb]) ?_;refine⟨_,rfl,_,rfl,t,b,rfl,?_⟩;refine⟨_,rfl,_,_,rfl,rfl,_,rfl,a6k (fun hn=>?_) (fun hn=>?_)⟩
 · refine⟨_,rfl,_,rfl,?_⟩;refine⟨_,rfl,_,rfl,_,_,rfl,rfl,⟨by omega,gz.neg⟩,_,rfl,_,rfl,_,_,rfl,rfl,⟨by omega,gz.neg⟩,(by show 2≤sizeLine;decide),fun p hp=>?_⟩;have e:=c1y t b hn;refine k _ _ (Same.new hp) ⟨p,rfl,?_⟩;rw[a0d,← e.1,← e.2]
 · refine⟨_,rfl,_,rfl,_,_,rfl,rfl,⟨g0,gz⟩,_,rfl,_,rfl,_,_,rfl,rfl,⟨g0,gz⟩,(by show 2≤sizeLine;decide),fun p hp=>?_⟩;have e:=b0l t b (by omega);refine k _ _ (Same.new hp) ⟨p,rfl,?_⟩;rw[a0d,← e.1,← e.2]
theorem b5e(F:a0q K mg "told_line" a4b ["line","x_bottom","y_bottom","room"])(D_share:a1b P w K mg base CX0 2 "share" ["top","bottom"] b6n):a1b P w K mg base CX0 3 "told_line" ["line","x_bottom","y_bottom","room"] a8m:=by
 refine a1j F a5e (fun vs H Q E h=>?_) (fun f cdv A outer s H vs Q E hr h=>?_)
 · obtain⟨d,w,c,bx,bY,rm,rfl,_⟩:=h;rfl
 obtain⟨d,w,c,bx,bY,rm,rfl,hd,zw,zx,zy,zr,r0,k⟩:=h;have hu:=hr.units;refine⟨_,(a0e (a2x (pvI 0) (a1h (n:=3) K rfl (a0i (a0g (i:=4) a5e.nd rfl (Or.inl rfl)) (a0i (a0g (i:=5) a5e.nd rfl (Or.inl rfl)) (a0i (a0g (i:=6) a5e.nd rfl (Or.inl rfl)) a1e))))) (a0h (a0r (a0y (a0a (a0y (a0a (a0j a0u (pvI 4) (pvI 1)) (a0a a0b a0c))) (a0a (a0y (a0a (a0j a0u (pvI 5) (pvI 2)) (a0a a0b a0c))) (a0a (a0s D_share hr a1k (a0a (pvI 6) (a0a (a0j a0u a0b (pvI 3)) a0c))) a0c))))))),?_⟩;have z1:=zw.1;have z2:=zw.2;walk_at "rd";refine⟨d,_,rfl,SqT.of hd,rfl,_,_,rfl,_,_,rfl,_,_,rfl,rfl,?_⟩;walk_at "rd";intro g1 hg1;have w1:=Same.new (o:=.tup [.int (w.1*bx),.int 1]) hg1;walk_at "rd";intro g2 hg2;have w2:=Same.new (o:=.tup [.int (w.2*bY),.int 1]) hg2;walk_at "rd";refine⟨c,2*rm,rfl,by omega,(Sz.mul (n:=2) (m:=8000) ⟨by decide⟩ zr).mono (by decide),fun v3 H3 s3 hv3=>?_⟩;walk_at "rd";intro t ht;have wt:=Same.new (o:=.tup [.ref g1,.ref g2,v3]) ht;refine k t _ _ _ _ (((w1.trans w2).trans s3).trans wt) a0d ⟨g1,rfl,?_⟩ ⟨g2,rfl,?_⟩ (hv3.same wt)
 · rw[Rat.num_intCast,Rat.den_intCast];exact wt _ _ (s3 _ _ (w2 _ _ a0d))
 · rw[Rat.num_intCast,Rat.den_intCast];exact wt _ _ (s3 _ _ a0d)
theorem c2r{C_Ground:Addr}(T_Ground:ClsK K mg "Ground" C_Ground)(N_Ground_room:a2s K C_Ground "room")(N_Ground_x_bottoms:a2s K C_Ground "x_bottoms")(N_Ground_y_bottoms:a2s K C_Ground "y_bottoms")(N_Ground_ones:a2s K C_Ground "ones")(N_Ground_others:a2s K C_Ground "others")(F:a0q K mg "sifted" a6p ["ground","pairs"])(B:Blt mg){A_PLAIN_WAYS B1_PLAIN_WAYS B2_PLAIN_WAYS B3_PLAIN_WAYS B4_PLAIN_WAYS:Addr}{t_MOST_PAIRS:Tok}(G:Cst K mg A_PLAIN_WAYS B1_PLAIN_WAYS B2_PLAIN_WAYS B3_PLAIN_WAYS B4_PLAIN_WAYS t_MOST_PAIRS)(D_product:a1b P w K mg base CX0 1 "product" ["numbers"] (a7p K))(D_parted:a1b P w K mg base CX0 3 "parted" ["ones","others"] (b3e K))(D_told_line:a1b P w K mg base CX0 3 "told_line" ["line","x_bottom","y_bottom","room"] a8m):a1b P w K mg base CX0 4 "sifted" ["ground","pairs"] (b4q K C_Ground):=by
 refine a1j F a4w (fun vs H Q E h=>?_) (fun f cdv A outer s H vs Q E hr h=>?_)
 · obtain⟨g,a,dx,lx,ly,lo,lt,R,xb,yb,yo,yt,us,As,Bs,pl,n,rfl,_⟩:=h;rfl
 obtain⟨g,a,dx,lx,ly,lo,lt,R,xb,yb,yo,yt,us,As,Bs,pl,n,rfl,hg,hlx,hly,ho,hA,ht,hB,bx,bY,nx,ny,zx,zy,R0,zR,fA,fB,n1,n2,ha,hP,h256,hin,k⟩:=h;have hu:=hr.units;refine⟨_,(a0e (a6f (i:=2) (j:=3) rfl a4w.nd rfl rfl (by decide) rfl rfl (a0a (a0s D_product hr a1k (a0a (show PEi _ _ (tFld K _ _) from (a6h (pvI 0))) a0c)) (a0a (a0s D_product hr a1k (a0a (show PEi _ _ (tFld K _ _) from (a6h (pvI 0))) a0c)) a0c)) rfl) (a0e (a6f (i:=4) (j:=5) rfl a4w.nd rfl rfl (by decide) rfl rfl (a0a (a1q a0c) (a0a (a1q a0c) a0c)) rfl) (a0e (a2n PassesOwn.never rfl (a1l K (pvI 1)) (a1h (n:=2) K rfl (a0i (a0g (i:=6) a4w.nd rfl (Or.inl rfl)) (a0i (a0g (i:=7) a4w.nd rfl (Or.inl rfl)) a1e))) (a0e (a2x (a0s D_parted hr a1k (a0a (a0k (a0v K) (show PEi _ _ (tFld K _ _) from (a6h (pvI 0))) (pvI 6) (fun _ _=>rfl)) (a0a (a0k (a0v K) (show PEi _ _ (tFld K _ _) from (a6h (pvI 0))) (pvI 7) (fun _ _=>rfl)) a0c))) (a1h (n:=2) K rfl (a0i (a0g (i:=8) a4w.nd rfl (Or.inl rfl)) (a0i (a0g (i:=9) a4w.nd rfl (Or.inl rfl)) a1e)))) (a0h (a2h (a1c op_isN (pvI 8) a7h (a1t _)) (a0h (a3g (show PEi _ _ (tBM K _ _ _ _) from (a5a c6v c7d c7e a2l (pvI 4) (a0a (a0y (a0a (pvI 6) (a0a (pvI 7) a0c))) a0c))))) (a0h (a3g (show PEi _ _ (tBM K _ _ _ _) from (a5a c6v c7d c7e a2l (pvI 5) (a0a (a0j (a4m K) (a0y (a0a (pvI 6) (a0a (pvI 7) a0c))) (a0s D_told_line hr a1k (a0a (pvI 8) (a0a (pvI 2) (a0a (pvI 3) (a0a (show PEi _ _ (tFld K _ _) from (a6h (pvI 0))) a0c)))))) a0c))))))))) (a0e (a2h (a1c b9y (a0w (a1p K) (by rfl) B.len PySem.boot_len (a0a (pvI 4) a0c)) (b8l (v:=.int 256) rfl G.MOST_PAIRS ⟨_,rfl⟩) (a1t _)) (a0h b4z) a1o) (a0h (a0r (a0y (a0a (pvI 4) (a0a (pvI 5) a0c))))))))),?_⟩;have hul:=hP.len;walk_at "rz";refine⟨g,C_Ground,dx,_,_,rfl,hg,T_Ground.cl,N_Ground_x_bottoms,c4i R lx ly lo lt,?_⟩;walk_at "rz";dsimp only[tNil];refine⟨lx,xb,rfl,SqL.of hlx,bx,by omega,?_⟩;walk_at "rz";refine⟨g,C_Ground,dx,_,_,rfl,hg,T_Ground.cl,N_Ground_y_bottoms,c4h R lx ly lo lt,?_⟩;walk_at "rz";dsimp only[tNil];refine⟨ly,yb,rfl,SqL.of hly,bY,by omega,?_⟩;refine⟨_,_,rfl,?_⟩;walk_at "rz";intro lf hlf;walk_at "rz";intro lh hlh;have s1:Same H (upd (upd H lf (.lst [])) lh (.lst [])):=(Same.new hlf).trans (Same.new hlh);have nfh:lf≠lh:=fun z=>by rw[← z,a0d] at hlh;cases hlh
 have hlh0:H lh=none:=(Same.new hlf).free hlh;have f0:(upd (upd H lf (.lst [])) lh (.lst [])) lf=some (.lst []):=a3e hlh a0d;have h0:(upd (upd H lf (.lst [])) lh (.lst [])) lh=some (.lst []):=a0d;generalize upd (upd H lf (.lst [])) lh (.lst [])=H1 at *;refine⟨_,_,rfl,?_⟩;walk_at "rz";refine⟨⟨us,SqL.of (s1 _ _ ha)⟩,a4n (xs:=us) (fun i σ H'=>∃ (y6 y7 y8 y9:Option V) (vf vh:List V) (fl tl:List Pl),σ=[some (.ref g),some (.ref a),some (.int (a1g xb)),some (.int (a1g yb)),some (.ref lf),some (.ref lh),y6,y7,y8,y9]∧Same H H'∧H' lf=some (.lst vf)∧H' lh=some (.lst vh)∧PlsV H' vf fl∧ThV H' vh tl (LnOfB (a1g xb) (a1g yb) R As Bs)∧Prt (pl.take i) fl tl∧(∀ p∈fl,Meet (gC As p.1) (gC Bs p.2))) ⟨none,none,none,none,[],[],[],[],rfl,s1,f0,h0,⟨rfl,fun i v p e=>by simp at e⟩,⟨rfl,fun i v p e=>by simp at e⟩,by rw[List.take_zero];exact .nil,fun p hp=>by simp at hp⟩ ?_ ?_ ?_⟩
 · rintro i σ H2 _ ⟨_,_,_,_,_,_,_,_,_,s2,_⟩;exact SqL.of (s2 _ _ ha)
 · rintro i x σ H2 hx ⟨y6,y7,y8,y9,vf,vh,fl,tl,rfl,s2,hf2,hh2,hF,hT,hpr,hM⟩;have hi:i<pl.length:=by rw[← hul];exact (c5m.mp hx).1
   have hp:pl[i]?=some pl[i]:=c5j hi;have hmem:pl[i]∈pl:=c6z hi;have htk:pl.take (i+1)=pl.take i++[pl[i]]:=by rw[d0p,hp];rfl
   obtain⟨pb,rfl,hpb⟩:=(hP.same s2).get i x _ hx hp;generalize pl[i]=p at *;obtain⟨in1,in2,in3,in4⟩:=hin p hmem;obtain⟨la,ua,ea,hla,hPa,hma⟩:=gC_at (hA.same s2) in1 in2;obtain⟨lb,ub,eb,hlb,hPb,hmb⟩:=gC_at (hB.same s2) in3 in4;have hg2:=s2 _ _ hg;have hfl:fl.length+tl.length=i:=by have:=hpr.perm.length_eq;rw[c5n,c6u] at this;omega
   walk_at "rz";refine⟨pb,_,rfl,SqT.of hpb,rfl,_,_,rfl,_,_,rfl,rfl,?_⟩;walk_at "rz";refine⟨g,C_Ground,dx,_,_,rfl,hg2,T_Ground.cl,N_Ground_ones,a9h R lx ly lo lt,?_⟩;walk_at "rz";refine⟨lo,yo,_,_,rfl,rfl,SqL.of (s2 _ _ ho),a1v (j:=p.1.toNat) (by omega) ea,?_⟩;walk_at "rz";refine⟨g,C_Ground,dx,_,_,rfl,hg2,T_Ground.cl,N_Ground_others,a6z R lx ly lo lt,?_⟩;walk_at "rz";refine⟨lt,yt,_,_,rfl,rfl,SqL.of (s2 _ _ ht),a1v (j:=p.2.toNat) (by omega) eb,?_⟩;walk_at "rz";dsimp only[tNil];obtain⟨qa1,qa2,qa3⟩:=fA _ hma;obtain⟨qb1,qb2,qb3⟩:=fB _ hmb;refine⟨la,lb,ua,ub,gC As p.1,gC Bs p.2,n,rfl,hla,hPa,hlb,hPb,qa3,qb3,n1,by omega,qa1,qb1,by omega,by omega,?_,?_⟩
   · intro c3 d e w p' q' H3 s3 hc3 hd he zw hp' hq' hlt hmx hmn;walk_at "cd";refine⟨c3,_,rfl,SqT.of hc3,rfl,_,_,rfl,_,_,rfl,rfl,?_⟩;walk_at "rz";refine⟨.inl ⟨rfl,_,SqL.of (s3 _ _ hh2)⟩,?_⟩;walk_at "rz";intro tp htp;have s4:=Same.new (o:=.tup [.int p.1,.int p.2]) htp;have ht4:=a0d (H:=H3) (a:=tp) (o:=.tup [.int p.1,.int p.2]);generalize upd H3 tp (.tup [.int p.1,.int p.2])=H4 at *;walk_at "rz";refine⟨g,C_Ground,dx,_,_,rfl,s4 _ _ (s3 _ _ hg2),T_Ground.cl,N_Ground_room,b5m R lx ly lo lt,?_⟩;walk_at "rz";dsimp only[tNil];refine⟨d,w,dt w p' + dt w q',a1g xb,a1g yb,R,rfl,s4 _ _ hd,⟨zw.1.mono (by omega),zw.2.mono (by omega)⟩,zx.mono (by decide),zy.mono (by decide),zR.mono (by decide),R0,fun t v1 v2 v3 H5 s5 ht5 g1 g2 g3=>?_⟩;refine⟨tp,t,_,_,rfl,rfl,SqT.of (s5 _ _ ht4),SqT.of ht5,by simp,by show 5≤sizeLine;decide,fun zz=>(nomatch zz),fun _ c9 hc9=>?_⟩;have s6:=Same.new (o:=.tup ([.int p.1,.int p.2]++[v1,v2,v3])) hc9;have hc6:=a0d (H:=H5) (a:=c9) (o:=.tup ([.int p.1,.int p.2]++[v1,v2,v3]));generalize upd H5 c9 (.tup ([.int p.1,.int p.2]++[v1,v2,v3]))=H6 at *;have s26:=(s3.trans s4).trans (s5.trans s6);have hf6:=s26 _ _ hf2;have hh6:=s26 _ _ hh2;have hvl:=hT.len;refine⟨lh,vh,_,rfl,rfl,hh6,a0o (by omega),?_⟩;have tg:Tup H6 (upd H6 lh (.lst (vh++[.ref c9]))):=Tup.lst hh6;refine⟨_,_,_,_,vf,vh++[.ref c9],fl,tl++[p],rfl,a2g hlh0 (s2.trans s26),by rw[a0m nfh];exact hf6,a0d,(hF.same s26).tup tg,?_,by rw[htk];exact .snd p hpr,hM⟩;exact ((hT.tup (L2.Same.tup s26)).snoc hc6 (g1.same s6) (g2.same s6) (g3.same s6) ⟨⟨w,p',q',rfl,rfl,rfl,hp',hq',hlt,hmx,hmn⟩,line_bd zw n2 zx zy zR R0 qa3 qb3 hp' hq'⟩).tup tg
   · intro c3 e vs ss H3 s3 hc3 he hss hac hh0;walk_at "cd";refine⟨c3,_,rfl,SqT.of hc3,rfl,_,_,rfl,_,_,rfl,rfl,?_⟩;have hvl:=hF.len;walk_at "rz";refine⟨.inl ⟨rfl,_,SqL.of (s3 _ _ hf2)⟩,?_⟩;walk_at "rz";intro tp htp;have s4:=Same.new (o:=.tup [.int p.1,.int p.2]) htp;have ht4:=a0d (H:=H3) (a:=tp) (o:=.tup [.int p.1,.int p.2]);generalize upd H3 tp (.tup [.int p.1,.int p.2])=H4 at *;have s24:=s3.trans s4;have hf4:=s24 _ _ hf2;have hh4:=s24 _ _ hh2;refine⟨lf,vf,_,rfl,rfl,hf4,a0o (by omega),?_⟩;have tg:Tup H4 (upd H4 lf (.lst (vf++[.ref tp]))):=Tup.lst hf4;refine⟨_,_,_,_,vf++[.ref tp],vh,fl++[p],tl,rfl,a2g hlf (s2.trans s24),a0d,by rw[a0m (Ne.symm nfh)];exact hh4,(b3n (hF.same s24) ht4).tup tg,(hT.tup (L2.Same.tup s24)).tup tg,by rw[htk];exact .fst p hpr,fun q hq=>?_⟩;rcases c6q.mp hq with hq | hq
     · exact hM q hq
     · rw[c6g.mp hq];exact⟨ss,hac,hh0⟩
 · rintro σ H2 ⟨y6,y7,y8,y9,vf,vh,fl,tl,rfl,s2,hf2,hh2,hF,hT,hpr,hM⟩;have hvl:=hF.len;rw[show pl.take us.length=pl by rw[hul,c9y]] at hpr;have hfl:fl.length+tl.length=pl.length:=by have:=hpr.perm.length_eq;rw[c5n] at this;exact this
   walk_at "rz";refine ifF (decide_eq_false (by omega)) ?_;walk_at "rz";intro c hc;have s3:=Same.new (o:=.tup [.ref lf,.ref lh]) hc;exact k c lf lh vf vh fl tl _ (s2.trans s3) a0d hlf hlh0 (s3 _ _ hf2) (s3 _ _ hh2) (hF.same s3) (hT.tup (L2.Same.tup s3)) hpr hM
theorem ok_meets{C_Ground:Addr}(T_Ground:ClsK K mg "Ground" C_Ground)(N_Ground_room:a2s K C_Ground "room")(N_Ground_x_bottoms:a2s K C_Ground "x_bottoms")(N_Ground_y_bottoms:a2s K C_Ground "y_bottoms")(N_Ground_ones:a2s K C_Ground "ones")(N_Ground_others:a2s K C_Ground "others")(F:a0q K mg "meets" a6e ["one","other","level"])(B:Blt mg){A_PLAIN_WAYS B1_PLAIN_WAYS B2_PLAIN_WAYS B3_PLAIN_WAYS B4_PLAIN_WAYS:Addr}{t_MOST_PAIRS:Tok}(G:Cst K mg A_PLAIN_WAYS B1_PLAIN_WAYS B2_PLAIN_WAYS B3_PLAIN_WAYS B4_PLAIN_WAYS t_MOST_PAIRS)(D_Ground___init__:b4j P w K mg base CX0 5 C_Ground "__init__" ["self","one","other","level"] (c1o K C_Ground))(D_Ground_go_down:b4j P w K mg base CX0 3 C_Ground "go_down" ["self"] (c1p K C_Ground))(D_pairs_below:a1b P w K mg base CX0 1 "pairs_below" ["pairs"] (c1s K))(D_sifted:a1b P w K mg base CX0 4 "sifted" ["ground","pairs"] (b4q K C_Ground)):a1b P w K mg base CX0 7 "meets" ["one","other","level"] (b7y K):=by
 refine a1j F a5f (fun vs H Q E h=>?_) (fun f cdv A outer s H vs Q E hr h=>?_)
 · obtain⟨a,b,us,ws,ps,qs,D,m,L,rfl,_⟩:=h;rfl
 obtain⟨a,b,us,ws,ps,qs,D,m,L,rfl,ha,hP,hb,hR,p1,p12,q1,q12,hD,zD,hm,hov,hL,hLn,k⟩:=h;have hu:=hr.units;refine⟨_,(a0e (a0p (i:=3) a5f.nd rfl (Or.inl rfl) (pe_mkI T_Ground D_Ground___init__ hr a1k (a0a (pvI 0) (a0a (pvI 1) (a0a (pvI 2) a0c))))) (a0e (a2x (a0s D_sifted hr a1k (a0a (pvI 3) (a0a (a1q (a0a (a0y (a0a a0b (a0a a0b a0c))) a0c)) a0c))) (a1h (n:=2) K rfl (a0i (a0g (i:=4) a5f.nd rfl (Or.inl rfl)) (a0i (a0g (i:=5) a5f.nd rfl (Or.inl rfl)) a1e)))) (a0e (a7u (i:=6) (os:=["each"]) (caps:=[]) ["one","other","level","ground","pairs","thrown","told","depth"] (a0f a6e) a5f.nd rfl rfl (a1l K (pvI 5)) (fun _ _ _ _ _=>(a0g (i:=0) (show c6p (["each"]:List Str) from by decide +kernel) rfl (Or.inl rfl))) (fun _ _ _ _ _=>(a0j (a4m K) (a0y (a0a a0b a0c)) (pvI 0))) (by decide +kernel)) (a0e (a2n PassesOwn.never rfl (b2t rfl B.range (a0a a0b (a0a (a0j a2f (pvI 2) a0b) a0c))) (a0g (i:=7) a5f.nd rfl (Or.inr rfl)) (a0e (a3g (pe_mth0I T_Ground D_Ground_go_down (pvI 3) hr a1k)) (a0e (a2x (a0s D_sifted hr a1k (a0a (pvI 3) (a0a (a0s D_pairs_below hr a1k (a0a (pvI 4) a0c)) a0c))) (a1h (n:=2) K rfl (a0i (a0g (i:=4) a5f.nd rfl (Or.inl rfl)) (a0i (a0g (i:=5) a5f.nd rfl (Or.inl rfl)) a1e)))) (a0h (a3g (show PEi _ _ (tBM K _ _ _ _) from (a5a c6v PySem.F.slot_list_extend PySem.F.type_list_extend b5i (pvI 6) (a0a (a2k (os:=["each"]) (caps:=[(7,"depth")]) ["one","other","level","ground","pairs","thrown","told","depth"] (a0f a6e) (a1l K (pvI 5)) (fun _ _ _ _ _=>(a0g (i:=0) (show c6p (["each","depth"]:List Str) from by decide +kernel) rfl (Or.inl rfl))) (fun _ _ _ _ _=>(a0j (a4m K) (a0y (a0a (pvI 1) a0c)) (pvI 0))) (by decide +kernel)) a0c)))))))) (a0h (a0r (a0y (a0a (pvI 4) (a0a (pvI 6) a0c))))))))),?_⟩;walk_at "rz";dsimp only[tNil];intro x dx hx hdx hne;have s1:Same H (upd (upd H dx (.own x)) x (.ins C_Ground dx [])):=(Same.new hdx).trans (Same.new (by rw[a0m (Ne.symm hne)];exact hx));have hx1:(upd (upd H dx (.own x)) x (.ins C_Ground dx [])) x=some (.ins C_Ground dx []):=a0d;generalize upd (upd H dx (.own x)) x (.ins C_Ground dx [])=H1 at *;refine⟨x,a,b,dx,us,ws,ps,qs,D,m,L,rfl,hx1,s1 _ _ ha,hP.same s1,s1 _ _ hb,hR.same s1,p1,p12,q1,q12,hD,zD,hm,hov,by omega,hLn,fun xb yb c1 c2 lx ly lo lt yo yt H2 s2 hlx hly hlo hA hlt hB G n1 n2=>⟨rfl,?_⟩⟩;have hx2:=s2 _ _ hx1;generalize eK:L*(max ps.length qs.length - 1)=KK at *;have i2:Ins H2 (upd H2 x (.ins C_Ground dx (grF (2^KK) lx ly lo lt))):=Ins.upd hx2;have s3:Same H (upd H2 x (.ins C_Ground dx (grF (2^KK) lx ly lo lt))):=a2g hx (s1.trans s2);have hx3:(upd H2 x (.ins C_Ground dx (grF (2^KK) lx ly lo lt))) x=some (.ins C_Ground dx (grF (2^KK) lx ly lo lt)):=a0d;generalize upd H2 x (.ins C_Ground dx (grF (2^KK) lx ly lo lt))=H3 at *;replace hlx:=i2.1 _ _ hlx;replace hly:=i2.1 _ _ hly;replace hlo:=i2.1 _ _ hlo;replace hlt:=i2.1 _ _ hlt;replace hA:=hA.ins i2;replace hB:=hB.ins i2;have lc1:c1.length=ps.length:=by have:=congrArg c9v G.p1;rw[a3r] at this;exact this
 have lc2:c2.length=qs.length:=by have:=congrArg c9v G.p2;rw[a3r] at this;exact this
 have R0:(0:Int)<2^KK:=a5y _;have zR:Sz 41 ((2:Int)^KK):=(a4j _).mono (by omega);walk_at "rz";intro t0 ht0;walk_at "rz";intro l0 hl0;have s4:Same H3 (upd (upd H3 t0 (.tup [.int 0,.int 0])) l0 (.lst [.ref t0])):=(Same.new ht0).trans (Same.new hl0);have f1:(upd (upd H3 t0 (.tup [.int 0,.int 0])) l0 (.lst [.ref t0])) t0=some (.tup [.int 0,.int 0]):=a3e hl0 a0d;have f2:(upd (upd H3 t0 (.tup [.int 0,.int 0])) l0 (.lst [.ref t0])) l0=some (.lst [.ref t0]):=a0d;generalize upd (upd H3 t0 (.tup [.int 0,.int 0])) l0 (.lst [.ref t0])=H4 at *;have hE:PlsV H4 [] []:=⟨rfl,fun i v p e=>by simp at e⟩
 have hP0:PlsV H4 [.ref t0] [((0:Int),(0:Int))]:=b3n (p:=((0:Int),(0:Int))) hE f1;walk_at "rz";dsimp only[tNil];refine⟨x,l0,dx,lx,ly,lo,lt,2^KK,xb,yb,yo,yt,_,[c1],[c2],[(0,0)],m+(KK+1),rfl,s4 _ _ hx3,s4 _ _ hlx,s4 _ _ hly,s4 _ _ hlo,hA.same s4,s4 _ _ hlt,hB.same s4,G.bx,G.bY,G.lx,G.ly,G.zx.mono (by decide),G.zy.mono (by decide),R0,zR,?_,?_,by omega,by omega,f2,hP0,by decide,?_,fun c lf lh vf vh fl tl H5 s5 hc5 hlf hlh hf5 hh5 hF hT hpr hM=>?_⟩
 · intro c hc;rw[c6g.mp hc];exact⟨by omega,by omega,G.z1⟩
 · intro c hc;rw[c6g.mp hc];exact⟨by omega,by omega,G.z2⟩
 · intro p hp;rw[c6g.mp hp];exact⟨by decide,by simp,by decide,by simp⟩
 walk_at "cd";refine⟨c,_,rfl,SqT.of hc5,rfl,_,_,rfl,_,_,rfl,rfl,?_⟩;have T0:Told (c5g c1 c2) 0 fl (tl.map (Prod.mk 0)):=.zero hpr hM hT.notB;have s05:=s3.trans (s4.trans s5);have ltl:tl.length≤1:=by have:=hpr.sub.2.length_le;exact this
 walk_at "rz";refine⟨⟨_,SqL.of hh5⟩,b4y (d:=0) (Ln:=b9m (a1g xb) (a1g yb) (2^KK) c1 c2) (a3c (SqL.of hh5)) (fun i v e=>by rw[e];rfl) hT (by omega) (fun t xs H6 kk ht6 hx6 l6 h6=>?_) (fun ld ys H6 hld s6 hd6 hTd=>?_)⟩
 · walk_at "rz";intro t1 ht1;have s7:=Same.new (o:=.tup [.int 0]) ht1;walk_at "rz";refine⟨t1,t,_,_,rfl,rfl,SqT.of a0d,SqT.of (s7 _ _ ht6),by simp,by show 1+xs.length≤sizeLine;have:=a0o (n:=1+xs.length) (by omega);omega,fun zz=>absurd zz hx6,fun _ c9 hc9=>?_⟩;exact h6 c9 _ (s7.trans (Same.new hc9)) a0d
 have s06:=s05.trans s6;have hlfH:H lf=none:=(s3.trans s4).free hlf;have hldH:H ld=none:=s05.free hld;have nfd:lf≠ld:=fun z=>by rw[← z,hf5] at hld;cases hld
 walk_at "rz";have nx5:lx≠ld:=fun z=>by rw[← z,s5 _ _ (s4 _ _ hlx)] at hld;cases hld
 have ny5:ly≠ld:=fun z=>by rw[← z,s5 _ _ (s4 _ _ hly)] at hld;cases hld
 have s36:=s4.trans (s5.trans s6);have lv1:∀ d,d≤L→LvOk (a1g xb*2^KK) (a1g yb*2^KK) ps (m+(KK+1)) ((L - d)*(ps.length - 1)) d (lvI c1 d):=fun d hd=>b8s p1 G.p1 G.z1 L d hd (G.d1.mono (by rw[← eK];exact c9i _ (by omega)));have lv2:∀ d,d≤L→LvOk (a1g xb*2^KK) (a1g yb*2^KK) qs (m+(KK+1)) ((L - d)*(qs.length - 1)) d (lvI c2 d):=fun d hd=>b8s q1 G.p2 G.z2 L d hd (G.d2.mono (by rw[← eK];exact c9i _ (by omega)));refine⟨_,_,rfl,⟨by decide,by decide,by omega,by omega⟩,a4i (fun i σ H'=>∃ (lo lt lf:Addr) (y5 y7:Option V) (yo yt vf vh:List V) (fl:List Pl) (tt:List (Nat×Pl)),σ=[some (.ref a),some (.ref b),some (.int (L:Int)),some (.ref x),some (.ref lf),y5,some (.ref ld),y7]∧Same H H'∧H' x=some (.ins C_Ground dx (grF (2^KK) lx ly lo lt))∧H' lx=some (.lst (xb.map V.int))∧H' ly=some (.lst (yb.map V.int))∧H' lo=some (.lst yo)∧CsV H' none yo (lvI c1 i)∧H' lt=some (.lst yt)∧CsV H' none yt (lvI c2 i)∧H lf=none∧lf≠ld∧H' lf=some (.lst vf)∧PlsV H' vf fl∧H' ld=some (.lst vh)∧TdV H' vh tt (b9m (a1g xb) (a1g yb) (2^KK) c1 c2)∧Told (c5g c1 c2) i fl tt∧tt.length≤1000*(i+1)) ⟨lo,lt,lf,some (.ref lh),none,yo,yt,vf,ys,fl,_,rfl,s06,s36 _ _ hx3,s36 _ _ hlx,s36 _ _ hly,s36 _ _ hlo,hA.same s36,s36 _ _ hlt,hB.same s36,hlfH,nfd,s6 _ _ hf5,hF.same s6,hd6,hTd,T0,by rw[c5l];omega⟩ ?_ ?_⟩
 · rintro i σ W0 hi ⟨lo,lt,lf,y5,y7,yo,yt,vf,vh,fl,tt,rfl,sG,gx,glx,gly,glo,gA,glt,gB,glf,nlf,gf,gF,gd,gT,gTd,gn⟩;have hi':i<L:=by omega
   have p8:(2:Nat)^i≤4:=by
     have:i=0∨i=1∨i=2:=by omega
     rcases this with rfl | rfl | rfl<;>decide
   have f8:(4:Nat)^i≤16:=by
     have:i=0∨i=1∨i=2:=by omega
     rcases this with rfl | rfl | rfl<;>decide
   have i8:(2:Int)^i≤4:=by exact_mod_cast p8
   have fln:=gTd.len;have fin:=gTd.ins.1;have L1:=lv1 i (by omega);have L2':=lv2 i (by omega);have M1:=lv1 (i+1) (by omega);have M2:=lv2 (i+1) (by omega);walk_at "rz";refine⟨x,dx,_,rfl,gx,c0i _ lx ly lo lt,?_⟩;dsimp only[tNil];refine⟨x,dx,lx,ly,lo,lt,2^KK,yo,yt,lvI c1 i,lvI c2 i,rfl,gx,glo,gA,glt,gB,by rw[b0z];omega,fun c hc=>by rw[L1.len c hc];omega,by rw[b0z];omega,fun c hc=>by rw[L2'.len c hc];omega,fun lo' lt' yo' yt' W1 w1 fo ft hlo' hA' hlt' hB'=>?_⟩;have gx1:=w1 _ _ gx;have iW:Ins W1 (upd W1 x (.ins C_Ground dx (grF (2^KK) lx ly lo' lt'))):=Ins.upd gx1;have sW2:Same H (upd W1 x (.ins C_Ground dx (grF (2^KK) lx ly lo' lt'))):=a2g hx (sG.trans w1);have gx2:(upd W1 x (.ins C_Ground dx (grF (2^KK) lx ly lo' lt'))) x=some (.ins C_Ground dx (grF (2^KK) lx ly lo' lt')):=a0d;generalize upd W1 x (.ins C_Ground dx (grF (2^KK) lx ly lo' lt'))=W2 at *;have nlo:lo'≠ld:=fun z=>by rw[z,gd] at fo;cases fo
   have nlt:lt'≠ld:=fun z=>by rw[z,gd] at ft;cases ft
   have i02:Ins W0 W2:=(Ins.same w1).trans iW;replace gd:=i02.1 _ _ gd;replace gT:=gT.tup i02.2;replace glx:=i02.1 _ _ glx;replace gly:=i02.1 _ _ gly;replace hlo':=iW.1 _ _ hlo';replace hlt':=iW.1 _ _ hlt';replace hA':=hA'.ins iW;replace hB':=hB'.ins iW;walk_at "rz";dsimp only[tNil];refine⟨lf,vf,fl,rfl,i02.1 _ _ gf,gF.tup i02.2,gTd.nodup,by omega,fun p hp=>?_,fun l vs3 qs3 W3 w3 hl0 hl3 hP3 hpm hso=>?_⟩
   · obtain⟨z1,z2,z3,z4⟩:=fin p hp;exact⟨sz_of (b:=1000000) (by omega) (by decide),sz_of (b:=1000000) (by omega) (by decide)⟩
   have lq:qs3.length≤64:=by have:=hpm.length_eq;rw[a8h] at this;omega
   walk_at "rz";dsimp only[tNil];refine⟨x,l,dx,lx,ly,lo',lt',2^KK,xb,yb,yo',yt',_,lvI c1 (i+1),lvI c2 (i+1),qs3,m+(KK+1),rfl,w3 _ _ gx2,w3 _ _ glx,w3 _ _ gly,w3 _ _ hlo',hA'.same w3,w3 _ _ hlt',hB'.same w3,G.bx,G.bY,G.lx,G.ly,G.zx.mono (by decide),G.zy.mono (by decide),R0,zR,fun c hc=>⟨by rw[M1.len c hc];omega,by rw[M1.len c hc];omega,M1.sz c hc⟩,fun c hc=>⟨by rw[M2.len c hc];omega,by rw[M2.len c hc];omega,M2.sz c hc⟩,by omega,by omega,hl3,hP3,by omega,fun p hp=>?_,fun c lf4 lh4 vf4 vh4 fl4 tl4 W4 w4 hc4 hf40 hh40 hf4 hh4 hF4 hT4 hpr4 hM4=>?_⟩
   · obtain⟨z1,z2,z3,z4⟩:=(fin _ (b1u.mp (hpm.subset hp))).below;rw[b0z,b0z];exact⟨z1,by exact_mod_cast z2,z3,by exact_mod_cast z4⟩
   walk_at "cd";refine⟨c,_,rfl,SqT.of hc4,rfl,_,_,rfl,_,_,rfl,rfl,?_⟩;have T1:Told (c5g c1 c2) (i+1) fl4 (tt++tl4.map (Prod.mk (i+1))):=.step gTd hpm hso hpr4 hM4 hT4.notB;have w24:=w3.trans w4;have gd4:=w24 _ _ gd;have ltl4:tl4.length≤64:=by have:=hpr4.sub.2.length_le;omega
   walk_at "rz";refine⟨.inl ⟨rfl,_,SqL.of gd4⟩,?_⟩;walk_at "rz";refine⟨⟨_,SqL.of hh4⟩,b4y (d:=i+1) (Ln:=b9m (a1g xb) (a1g yb) (2^KK) c1 c2) (a3c (SqL.of hh4)) (fun i v e=>by rw[e];rfl) hT4 (by omega) (fun t xs W5 kk ht5 hx5 l5 h5=>?_) (fun le ye W5 hle w5 hd5 hTe=>?_)⟩
   · walk_at "rz";intro t1 ht1;have s7:=Same.new (o:=.tup [.int (1+(i:Int))]) ht1;walk_at "rz";refine⟨t1,t,_,_,rfl,rfl,SqT.of a0d,SqT.of (s7 _ _ ht5),by simp,by show 1+xs.length≤sizeLine;have:=a0o (n:=1+xs.length) (by omega);omega,fun zz=>absurd zz hx5,fun _ c9 hc9=>?_⟩;refine h5 c9 _ (s7.trans (Same.new hc9)) ?_;rw[a0d,show ((i+1:Nat):Int)=1+(i:Int) by omega];rfl
   have w25:=w24.trans w5;have gd5:=w25 _ _ gd;have gT5:=gT.tup (L2.Same.tup w25);have lv5:=gT5.len;have le5:=hTe.len;rw[c5l] at le5;refine⟨ld,le,vh,ye,rfl,rfl,gd5,hd5,by have:=a0o (n:=vh.length+ye.length) (by omega);omega,?_⟩;have tg:Tup W5 (upd W5 ld (.lst (vh++ye))):=Tup.lst gd5;have nlf4:lf4≠ld:=fun z=>by rw[z,w3 _ _ gd] at hf40;cases hf40
   have A5:=((cs_ne (hA'.same w25) (fun c hc=>by rw[M1.len c hc];exact p1) gd5 gT5).upd (ws:=vh++ye) gd5).drop;have B5:=((cs_ne (hB'.same w25) (fun c hc=>by rw[M2.len c hc];exact q1) gd5 gT5).upd (ws:=vh++ye) gd5).drop;have nxd:x≠ld:=fun z=>by rw[z,gd] at gx2;cases gx2
   walk_at "cd";exact⟨lo',lt',lf4,_,_,yo',yt',vf4,vh++ye,fl4,_,rfl,a2g hldH (sW2.trans w25),by rw[a0m nxd];exact w25 _ _ gx2,by rw[a0m nx5];exact w25 _ _ glx,by rw[a0m ny5];exact w25 _ _ gly,by rw[a0m nlo];exact w25 _ _ hlo',A5,by rw[a0m nlt];exact w25 _ _ hlt',B5,(sW2.trans w3).free hf40,nlf4,by rw[a0m nlf4];exact w5 _ _ hf4,(hF4.same w5).tup tg,a0d,(gT5.append hTe).tup tg,T1,by rw[c5n,c5l];omega⟩
 · rintro σ W0 ⟨lo,lt,lf,y5,y7,yo,yt,vf,vh,fl,tt,rfl,sG,gx,glx,gly,glo,gA,glt,gB,glf,nlf,gf,gF,gd,gT,gTd,gn⟩;walk_at "rz";intro c9 hc9;have s9:=Same.new (o:=.tup [.ref lf,.ref ld]) hc9;have eL:((L:Int)+1 - 1).toNat=L:=by omega
   rw[eL] at gTd;have WC:WcOf ps qs L (a1g xb) (a1g yb) (2^KK) c1 c2:=⟨G.w1,G.w2,R0,G.p1,G.p2,by rw[eK];exact G.d1,by rw[eK];exact G.d2,_,G.z1,G.z2⟩
   obtain⟨TB1,TB2⟩:=toldB p1 q1 WC (gT.tup (L2.Same.tup s9)) gTd;exact k c9 lf ld vf vh fl tt _ (sG.trans s9) a0d glf hldH (s9 _ _ gf) (s9 _ _ gd) nlf (gF.same s9) TB1 TB2
theorem a8a(F:a0q K mg "times_to_nought" a2b ["steps"])(B:Blt mg)(D_turn_between:a1b P w K mg base CX0 1 "turn_between" ["one","other"] (b6m K)):a1b P w K mg base CX0 2 "times_to_nought" ["steps"] (spTTN K):=by
 refine a1j F a1w (fun vs H Q E h=>?_) (fun f cdv A outer s H vs Q E hr h=>?_)
 · obtain⟨a,ws,ss,rfl,_⟩:=h;rfl
 obtain⟨a,ws,ss,rfl,ha,hS,zs,l1,l3,k⟩:=h;have hu:=hr.units;refine⟨_,(a0e (a2h (a1c a9m (a0w (a1p K) (by rfl) B.len PySem.boot_len (a0a (pvI 0) a0c)) a0b (a1t _)) (a0h (a0r (a1q (a0a a0b a0c)))) a1o) (a0e (a2h (a1c a9m (a0w (a1p K) (by rfl) B.len PySem.boot_len (a0a (pvI 0) a0c)) a0b (a1t _)) (a0e (a2x (pvI 0) (b3p (n:=2) K rfl (a0i (a0g (i:=1) a1w.nd rfl (Or.inl rfl)) (a0i (a0g (i:=2) a1w.nd rfl (Or.inl rfl)) a1e)))) (a0h (a0r (a1q (a0a (a0j a3z (a0j a0u (a7x a7m (a0k (a0l K) (pvI 1) a0b (fun _ _=>rfl))) (a0k (a0l K) (pvI 2) a0b (fun _ _=>rfl))) (a0j a0u (a0k (a0l K) (pvI 1) a0b (fun _ _=>rfl)) (a0k (a0l K) (pvI 2) a0b (fun _ _=>rfl)))) (a0a (a0j a2f (a0j a0u (a0k (a0l K) (pvI 1) a0b (fun _ _=>rfl)) (a0k (a0l K) (pvI 1) a0b (fun _ _=>rfl))) (a0j a0u (a0k (a0l K) (pvI 1) a0b (fun _ _=>rfl)) (a0k (a0l K) (pvI 1) a0b (fun _ _=>rfl)))) a0c)))))) a1o) (a0e (a2x (pvI 0) (b3p (n:=3) K rfl (a0i (a0g (i:=3) a1w.nd rfl (Or.inl rfl)) (a0i (a0g (i:=4) a1w.nd rfl (Or.inl rfl)) (a0i (a0g (i:=5) a1w.nd rfl (Or.inl rfl)) a1e))))) (a0h (a0r (a1q (a0a (a0s D_turn_between hr a1k (a0a (pvI 4) (a0a (pvI 5) a0c))) (a0a (a0s D_turn_between hr a1k (a0a (pvI 5) (a0a (pvI 3) a0c))) (a0a (a0s D_turn_between hr a1k (a0a (pvI 3) (a0a (pvI 4) a0c))) a0c))))))))),?_⟩;have hwl:=hS.len;walk_at "rz";refine a6k (fun h=>?_) (fun h=>?_)
 · obtain⟨r,rfl⟩ : ∃ r,ss=[r]:=by
     match ss,l1,l3,h,hwl with
     | [r],_,_,_,_=>exact⟨r,rfl⟩
     | [r,f],_,_,h,hwl=>simp at h hwl;omega
     | [r,l,f],_,_,h,hwl=>simp at h hwl;omega
   walk_at "rz";intro l hl;walk_at "cd";exact k l _ (Same.new hl) hl a0d
 walk_at "rz";refine a6k (fun h2=>?_) (fun h2=>?_)
 · obtain⟨r,f,rfl⟩ : ∃ r f,ss=[r,f]:=by
     match ss,l1,l3,h2,hwl with
     | [r],_,_,h,hwl=>simp at h hwl;omega
     | [r,f],_,_,h,hwl=>exact⟨r,f,rfl⟩
     | [r,l,f],_,_,h,hwl=>simp at h hwl;omega
   obtain⟨v0,v1,rfl⟩:=len2 (l:=ws) hwl;obtain⟨a0,e0,g0⟩:=hS.at (i:=0) rfl;obtain⟨a1,e1,g1⟩:=hS.at (i:=1) rfl;cases e0;cases e1;have z0:=zs r (by simp);have z1:=zs f (by simp);have z2:=z0.1;have z3:=z0.2;have z4:=z1.1;have z5:=z1.2;walk_at "rz";refine⟨a,_,rfl,SqL.of ha,rfl,_,_,rfl,_,_,rfl,rfl,?_⟩;walk_at "rz";intro l hl;walk_at "cd";exact k l _ (Same.new hl) hl a0d
 obtain⟨r,l,f,rfl⟩ : ∃ r l f,ss=[r,l,f]:=by
   match ss,l1,l3,h,h2,hwl with
   | [r],_,_,h,h2,hwl=>simp at h hwl;omega
   | [r,f],_,_,h,h2,hwl=>simp at h2 hwl;omega
   | [r,l,f],_,_,h,h2,hwl=>exact⟨r,l,f,rfl⟩
 obtain⟨v0,v1,v2,rfl⟩:=len3 (l:=ws) hwl;obtain⟨a0,e0,g0⟩:=hS.at (i:=0) rfl;obtain⟨a1,e1,g1⟩:=hS.at (i:=1) rfl;obtain⟨a2,e2,g2⟩:=hS.at (i:=2) rfl;cases e0;cases e1;cases e2;have z0:=zs r (by simp);have z1:=zs l (by simp);have z2:=zs f (by simp);walk_at "rz";refine⟨a,_,rfl,SqL.of ha,rfl,_,_,rfl,_,_,rfl,_,_,rfl,rfl,?_⟩;walk_at "rz";refine⟨a1,a2,l.1,f.1,_,_,_,_,rfl,g1,g2,z1,z2,?_⟩;walk_at "rz";refine⟨a2,a0,f.1,r.1,_,_,_,_,rfl,g2,g0,z2,z0,?_⟩;walk_at "rz";refine⟨a0,a1,r.1,l.1,_,_,_,_,rfl,g0,g1,z0,z1,?_⟩;walk_at "rz";intro l9 hl;exact k l9 _ (Same.new hl) hl a0d
theorem b0w(F:a0q K mg "whole_places" a3a ["points"])(B:Blt mg)(D_axes:a1b P w K mg base CX0 4 "axes" ["points"] (b3f K)):a1b P w K mg base CX0 5 "whole_places" ["points"] (b7t K):=by
 refine a1j F a4v (fun vs H Q E h=>?_) (fun f cdv A outer s H vs Q E hr h=>?_)
 · obtain⟨a,ws,ps,D,n,z,rfl,_⟩:=h;rfl
 obtain⟨a,ws,ps,D,n,z,rfl,ha,hP,hD,zD,hz,hn,hov,hl,k⟩:=h;have hu:=hr.units;refine⟨_,(a0e (a2x (a0s D_axes hr a1k (a0a (pvI 0) a0c)) (a1h (n:=2) K rfl (a0i (a0g (i:=1) a4v.nd rfl (Or.inl rfl)) (a0i (a0g (i:=2) a4v.nd rfl (Or.inl rfl)) a1e)))) (a0h (a0r (show PEi _ _ (tZipL K _) from (b0u rfl B.list rfl B.zip (a0a (a0k (a0l K) (pvI 1) a0b (fun _ _=>rfl)) (a0a (a0k (a0l K) (pvI 2) a0b (fun _ _=>rfl)) a0c))))))),?_⟩;walk_at "rd";refine⟨a,ws,ps,D,max n z,rfl,SqL.of ha,hP,hD,zD.mono (by omega),fun p hp=>?_,by omega,by omega,fun c x y t1 b1 t2 b2 H1 s1 hc A1 A2 e1 e2 n1 n2 g1 g2=>?_⟩
 · obtain⟨o1,o2⟩:=hov p hp;obtain⟨b1,b2⟩:=a7i hD zD ⟨o1,o2⟩ (max n z) (by omega) (by omega);exact⟨⟨a4k o1,b1⟩,a4k o2,b2⟩
 refine⟨c,_,rfl,SqT.of hc,rfl,_,_,rfl,_,_,rfl,rfl,?_⟩;have W1:0<a1g b1:=by obtain⟨_,_,_,_,_,_,_,_,zz,_⟩:=id A1;exact a4y fun b hb=>(zz b hb).1
 have W2:0<a1g b2:=by obtain⟨_,_,_,_,_,_,_,_,zz,_⟩:=id A2;exact a4y fun b hb=>(zz b hb).1
 have T1:∀ x∈t1,Sz n x:=a8k W1 hD g1 e1 fun q hq=>by obtain⟨p,hp,rfl⟩:=c6h.mp hq;exact (hov p hp).1
 have T2:∀ x∈t2,Sz n x:=a8k W2 hD g2 e2 fun q hq=>by obtain⟨p,hp,rfl⟩:=c6h.mp hq;exact (hov p hp).2
 obtain⟨a1,lt1,lb1,rfl,h1,ht1,hb1,zt1,gt1,nn1,mm1⟩:=A1;obtain⟨a2,lt2,lb2,rfl,h2,ht2,hb2,zt2,gt2,nn2,mm2⟩:=A2;walk_at "rd";refine⟨lt1,lt2,_,_,rfl,SqL.of ht1,SqL.of ht2,by rw[c5l];omega,fun l us H2 hl0 s2 hl2 hul hpr=>?_⟩;refine k l us (t1.zip t2) (a1g b1) (a1g b2) H2 (s1.trans s2) (s1.free hl0) hl2 (c2f hul hpr) (zip_sz T1 T2) ⟨W1,W2,c0z e1 e2⟩ g1 g2
theorem a9o(F:a0q K mg "common_shares" a1m ["one","other","steps"])(B:Blt mg)(D_step_across:a1b P w K mg base CX0 1 "step_across" ["ones","others","i","j"] (b3d K))(D_share:a1b P w K mg base CX0 2 "share" ["top","bottom"] b6n)(D_times_to_nought:a1b P w K mg base CX0 2 "times_to_nought" ["steps"] (spTTN K))(D_whole_places:a1b P w K mg base CX0 5 "whole_places" ["points"] (b7t K)):a1b P w K mg base CX0 6 "common_shares" ["one","other","steps"] (c1q K):=by
 refine a1j F a1i (fun vs H Q E h=>?_) (fun f cdv A outer s H vs Q E hr h=>?_)
 · obtain⟨a,b,e,ws,us,zs,ps,qs,ss,D,X,Y,n,z,rfl,_⟩:=h;rfl
 obtain⟨a,b,e,ws,us,zs,ps,qs,ss,D,X,Y,n,z,rfl,ha,hP,hb,hQ,he,hZ,hD,zD,hz,hn,ov1,ov2,p1,p20,q1,q20,hX,hY,hsel,hS,k⟩:=h;have hu:=hr.units;refine⟨_,(a0e (a0p (i:=3) a1i.nd rfl (Or.inr rfl) (a0w (a1p K) (by rfl) B.len PySem.boot_len (a0a (pvI 2) a0c))) (a0e (a0p (i:=4) a1i.nd rfl (Or.inr rfl) (a0s D_whole_places hr a1k (a0a (a0j c2q (a2k (os:=["x","y","i","j"]) (caps:=[(0,"one")]) ["one","other","steps","many","places","often","ones","others","x","y","i","j","much","whole"] (a0f a1m) (a1l K (pvI 2)) (fun _ _ _ _ _=>(a1h (n:=4) K rfl (a0i (a0g (i:=0) (show c6p (["x","y","i","j","one"]:List Str) from by decide +kernel) rfl (Or.inl rfl)) (a0i (a0g (i:=1) (show c6p (["x","y","i","j","one"]:List Str) from by decide +kernel) rfl (Or.inl rfl)) (a0i (a0g (i:=2) (show c6p (["x","y","i","j","one"]:List Str) from by decide +kernel) rfl (Or.inl rfl)) (a0i (a0g (i:=3) (show c6p (["x","y","i","j","one"]:List Str) from by decide +kernel) rfl (Or.inl rfl)) a1e)))))) (fun _ _ _ _ _=>(a0k (a0v K) (pvI 4) (pvI 2) (fun _ _=>rfl))) (by decide +kernel)) (a2k (os:=["x","y","i","j"]) (caps:=[(1,"other")]) ["one","other","steps","many","places","often","ones","others","x","y","i","j","much","whole"] (a0f a1m) (a1l K (pvI 2)) (fun _ _ _ _ _=>(a1h (n:=4) K rfl (a0i (a0g (i:=0) (show c6p (["x","y","i","j","other"]:List Str) from by decide +kernel) rfl (Or.inl rfl)) (a0i (a0g (i:=1) (show c6p (["x","y","i","j","other"]:List Str) from by decide +kernel) rfl (Or.inl rfl)) (a0i (a0g (i:=2) (show c6p (["x","y","i","j","other"]:List Str) from by decide +kernel) rfl (Or.inl rfl)) (a0i (a0g (i:=3) (show c6p (["x","y","i","j","other"]:List Str) from by decide +kernel) rfl (Or.inl rfl)) a1e)))))) (fun _ _ _ _ _=>(a0k (a0v K) (pvI 4) (pvI 3) (fun _ _=>rfl))) (by decide +kernel))) a0c))) (a0e (a0p (i:=5) a1i.nd rfl (Or.inl rfl) (a0s D_times_to_nought hr a1k (a0a (a2k (os:=["k"]) (caps:=[(4,"places"),(3,"many")]) ["one","other","steps","many","places","often","ones","others","x","y","i","j","much","whole"] (a0f a1m) (a3d rfl B.range (a0a (pvI 3) a0c)) (fun _ _ _ _ _=>(a0g (i:=0) (show c6p (["k","places","many"]:List Str) from by decide +kernel) rfl (Or.inl rfl))) (fun _ _ _ _ _=>(a0s D_step_across hr a1k (a0a (a3j (a5d K) (pvI 1) a3v (a3h (pvI 2))) (a0a (a3j (a5d K) (pvI 1) (a3h (pvI 2)) a3v) (a0a (pvI 0) (a0a (pvI 0) a0c)))))) (by decide +kernel)) a0c))) (a0e (a6f (i:=6) (j:=7) rfl a1i.nd rfl rfl (by decide) rfl rfl (a0a (a0j op_rep (a1q (a0a a0b a0c)) (a0w (a1p K) (by rfl) B.len PySem.boot_len (a0a (pvI 0) a0c))) (a0a (a0j op_rep (a1q (a0a a0b a0c)) (a0w (a1p K) (by rfl) B.len PySem.boot_len (a0a (pvI 1) a0c))) a0c)) rfl) (a0e (a2n PassesOwn.never rfl (show PIi _ _ _ (iZip K _) from (b3o rfl B.zip (a0a (pvI 2) (a0a (pvI 5) a0c)))) (a1h (n:=2) K rfl (a0i (a1h (n:=4) K rfl (a0i (a0g (i:=8) a1i.nd rfl (Or.inl rfl)) (a0i (a0g (i:=9) a1i.nd rfl (Or.inl rfl)) (a0i (a0g (i:=10) a1i.nd rfl (Or.inl rfl)) (a0i (a0g (i:=11) a1i.nd rfl (Or.inl rfl)) a1e))))) (a0i (a0g (i:=12) a1i.nd rfl (Or.inl rfl)) a1e))) (a0e (b8j (pvI 6) (pvI 10) (b5n K) (pvI 12) ip_add b3h) (a0h (b8j (pvI 7) (pvI 11) (b5n K) (pvI 12) ip_add b3h)))) (a0e (a0p (i:=13) a1i.nd rfl (Or.inr rfl) (a0w (c4w rfl) (by rfl) B.sum PyProof.Rows.boot_sum (a0a (pvI 5) a0c))) (a0h (a0r (a0y (a0a (a2k (os:=["much"]) (caps:=[(13,"whole")]) ["one","other","steps","many","places","often","ones","others","x","y","i","j","much","whole"] (a0f a1m) (a1l K (pvI 6)) (fun _ _ _ _ _=>(a0g (i:=0) (show c6p (["much","whole"]:List Str) from by decide +kernel) rfl (Or.inl rfl))) (fun _ _ _ _ _=>(a0s D_share hr a1k (a0a (pvI 0) (a0a (pvI 1) a0c)))) (by decide +kernel)) (a0a (a2k (os:=["much"]) (caps:=[(13,"whole")]) ["one","other","steps","many","places","often","ones","others","x","y","i","j","much","whole"] (a0f a1m) (a1l K (pvI 7)) (fun _ _ _ _ _=>(a0g (i:=0) (show c6p (["much","whole"]:List Str) from by decide +kernel) rfl (Or.inl rfl))) (fun _ _ _ _ _=>(a0s D_share hr a1k (a0a (pvI 0) (a0a (pvI 1) a0c)))) (by decide +kernel)) a0c))))))))))),?_⟩;have hzl:=hZ.len;obtain⟨ts,htl,hts⟩:=b8f hsel;have hm3:1≤ss.length∧ss.length≤3:=by rcases hS with⟨r,rfl,_⟩ | ⟨r,f,rfl,_⟩ | ⟨r,l,f,rfl,_⟩<;>simp
 obtain⟨m1,m3⟩:=hm3;walk_at "rz";obtain⟨fa,J1,T1⟩:=b5c (SqL.of (K:=K) he) hZ;refine⟨⟨_,SqL.of he⟩,comp4 J1 T1 (by omega) (fun i v H=>∀ t,ts[i]?=some t→PtV H v t.2.1.1 t.2.1.2) (fun _ _ _ _ tt h t e=>(h t e).tup tt) (fun i H2 kk hi s2 hk=>?_) (fun D1 ys1 H1 hD1 s1 hd1 hl1 hr1=>?_)⟩
 · have es:ss[i]?=some (ss[i]'hi):=c5j _;have et:ts[i]?=some (ts[i]'(by omega (config:={}))):=c5j _;have st:=hts i _ _ es et;rw[es];generalize ts[i]'(by omega (config:={}))=t at *;generalize ss[i]'hi=sx at *;obtain⟨v,hv,gv⟩:=hP.at st.i;have e2:sx.2.1=(t.1.1:Int):=by rw[st.ij]
   walk_at "rz";refine⟨a,_,_,v,rfl,rfl,SqL.of (s2 _ _ ha),by show atI ws sx.2.1=some v;rw[e2];exact a1v (j:=t.1.1) rfl hv,?_⟩;refine hk _ _ (L2.Same.refl _) fun t' e'=>?_;rw[et] at e';cases e';exact gv.same s2
 have P1:PtsV H1 ys1 (ts.map (·.2.1)):=b2q (by omega) hr1;replace ha:=s1 _ _ ha;replace hb:=s1 _ _ hb;replace he:=s1 _ _ he;replace hP:=hP.same s1;replace hQ:=hQ.same s1;replace hZ:=hZ.same s1;clear hr1 J1 T1;obtain⟨fa,J1,T1⟩:=b5c (SqL.of (K:=K) he) hZ;walk_at "rz";refine⟨⟨_,SqL.of he⟩,comp4 J1 T1 (by omega) (fun i v H=>∀ t,ts[i]?=some t→PtV H v t.2.2.1 t.2.2.2) (fun _ _ _ _ tt h t e=>(h t e).tup tt) (fun i H2 kk hi s2 hk=>?_) (fun D2 ys2 H2 hD2 s2 hd2 hl2 hr2=>?_)⟩
 · have es:ss[i]?=some (ss[i]'hi):=c5j _;have et:ts[i]?=some (ts[i]'(by omega (config:={}))):=c5j _;have st:=hts i _ _ es et;rw[es];generalize ts[i]'(by omega (config:={}))=t at *;generalize ss[i]'hi=sx at *;obtain⟨v,hv,gv⟩:=hQ.at st.j;have e2:sx.2.2=(t.1.2:Int):=by rw[st.ij]
   walk_at "rz";refine⟨b,_,_,v,rfl,rfl,SqL.of (s2 _ _ hb),by show atI us sx.2.2=some v;rw[e2];exact a1v (j:=t.1.2) rfl hv,?_⟩;refine hk _ _ (L2.Same.refl _) fun t' e'=>?_;rw[et] at e';cases e';exact gv.same s2
 have P2:PtsV H2 ys2 (ts.map (·.2.2)):=b2q (by omega) hr2;replace ha:=s2 _ _ ha;replace hb:=s2 _ _ hb;replace he:=s2 _ _ he;replace hP:=hP.same s2;replace hQ:=hQ.same s2;replace hZ:=hZ.same s2;replace P1:=P1.same s2;replace hd1:=s2 _ _ hd1;have sA:=s1.trans s2;clear hr2 J1 T1 s1 s2;refine⟨D1,D2,ys1,ys2,rfl,rfl,hd1,hd2,c7r (a0o (by omega)),fun D3 hD3=>?_⟩;have s3:=Same.new (o:=.lst (ys1++ys2)) hD3;have ovs:∀ p∈ts.map (·.2.1)++ts.map (·.2.2),OvP D n p:=fun p hp=>by
   rcases c6q.mp hp with hp | hp
   · obtain⟨t,ht,rfl⟩:=c6h.mp hp;obtain⟨k',ek⟩:=d0l.mp ht;have hk':k' < ts.length:=(c5m.mp ek).1;exact ov1 _ (c5p (hts k' _ t (c5j (show k' < ss.length by omega)) ek).i)
   · obtain⟨t,ht,rfl⟩:=c6h.mp hp;obtain⟨k',ek⟩:=d0l.mp ht;have hk':k' < ts.length:=(c5m.mp ek).1;exact ov2 _ (c5p (hts k' _ t (c5j (show k' < ss.length by omega)) ek).j)
 walk_at "rz";refine⟨D3,ys1++ys2,ts.map (·.2.1)++ts.map (·.2.2),D,n,z,rfl,a0d,(P1.same s3).append (P2.same s3),hD,zD,hz,by omega,ovs,by rw[c5n,c5l,c5l];omega,fun lp ups plc X' Y' H4 s4 hlp0 hlp hPc zc hOv dX dY=>?_⟩;have s34:=s3.trans s4;replace ha:=s34 _ _ ha;replace hb:=s34 _ _ hb;replace he:=s34 _ _ he;replace hP:=hP.same s34;replace hQ:=hQ.same s34;replace hZ:=hZ.same s34;replace sA:=sA.trans s34;clear P1 P2 hd1 hd2 hlp0 s3 s34 s4 hl1 hl2;have hcl:plc.length=2*ss.length:=by
   have:=congrArg c9v hOv.eq;rw[a3r,c5n,c5l,c5l] at this;omega
 have hul:ups.length=plc.length:=hPc.len;walk_at "rz";refine⟨by omega,by omega,b5w (a5z 0 ((zs.length:Int)).toNat _) (by omega) (fun i v H=>∀ s,(a6w (plc.take ss.length) (plc.drop ss.length) ss.length)[i]?=some s→StV H v s) (fun _ _ _ _ tt h s e=>(h s e).tup tt) (fun i H5 kk hi s5 hk=>?_) (fun lo yo H5 hlo0 s5 hlo hyl hr=>?_)⟩
 · have hi':i<ss.length:=by omega
   have et:ts[i]?=some (ts[i]'(by omega (config:={}))):=c5j _;obtain⟨f,g,f1,g1,f2,g2⟩:=c2z htl hts hOv et;have en:=b3r hi' f1 g1;walk_at "rz";refine⟨lp,_,rfl,SqL.of (s5 _ _ hlp),fun c1 hc1=>?_⟩;rw[c4s ups _ ss.length (by omega)];have w1:=Same.new (o:=.lst (ups.take ss.length)) hc1;walk_at "rz";refine⟨lp,_,rfl,SqL.of (w1 _ _ (s5 _ _ hlp)),fun c2 hc2=>?_⟩;rw[a8g ups _ ss.length (by omega) (by omega)];have w2:=Same.new (o:=.lst (ups.drop ss.length)) hc2;walk_at "rz";refine⟨c1,c2,_,_,_,_,i,i,f,g,by rw[Int.zero_add],w2 _ _ a0d,(((hPc.take ss.length).same s5).same w1).same w2,a0d,(((hPc.drop ss.length).same s5).same w1).same w2,f1,g1,fun c3 H6 s6 h6=>?_⟩;refine hk _ _ ((w1.trans w2).trans s6) fun s' e'=>?_;rw[en] at e';cases e';exact⟨c3,rfl,h6⟩
 have hN:=b5h hX hY htl hts hOv hS;have zN:=new_sz (m:=ss.length) zc;have hNl:=a8d (plc.take ss.length) (plc.drop ss.length) ss.length;have fin:=fun (ms1 ms2:List Int)=>mean_fin (ms1:=ms1) (ms2:=ms2) hX hY htl hts hOv hS;have hTl:=tn_len hN;have tnn:=tn_nn hN;have tps:=tn_pos hN;have tsz:=tn_sz zN;generalize a6w (plc.take ss.length) (plc.drop ss.length) ss.length=S at *;have hSo:StsV H5 yo S:=⟨by omega,fun i v s e1 e2=>hr i v e1 s e2⟩
 walk_at "rz";refine⟨lo,yo,S,rfl,hlo,hSo,fun s hs=>⟨(zN s hs).1.mono (by omega),(zN s hs).2.mono (by omega)⟩,by omega,by omega,fun lt H6 s6 hlt0 hlt=>?_⟩;have s56:=s5.trans s6;replace ha:=s56 _ _ ha;replace hb:=s56 _ _ hb;replace he:=s56 _ _ he;replace hP:=hP.same s56;replace hQ:=hQ.same s56;replace hZ:=hZ.same s56;replace sA:=sA.trans s56;clear hr hSo hlo hlo0 hlt0 s5 s6 s56 hlp hPc zc ovs dX dY;have hPl:=hP.len;have hQl:=hQ.len;walk_at "rz";intro g1 hg1;have w1:=Same.new (o:=.lst [.int 0]) hg1;walk_at "rz";refine⟨g1,_,_,rfl,rfl,a0d,by omega,by omega,c7r (a0o (by simp;omega)),fun l1 hl1=>?_⟩;rw[b2i];have w2:=Same.new (o:=.lst ((c5q ws.length (0:Int)).map V.int)) hl1;have n1:H6 l1=none:=w1.free hl1;walk_at "rz";intro g2 hg2;have w3:=Same.new (o:=.lst [.int 0]) hg2;walk_at "rz";refine⟨g2,_,_,rfl,rfl,a0d,by omega,by omega,c7r (a0o (by simp;omega)),fun l2 hl2=>?_⟩;rw[b2i];have w4:=Same.new (o:=.lst ((c5q us.length (0:Int)).map V.int)) hl2;have n2:H6 l2=none:=w1.free (w2.free (w3.free hl2));have hl1':=w4 _ _ (w3 _ _ (a0d (H:=upd H6 g1 (.lst [.int 0])) (a:=l1) (o:=.lst ((c5q ws.length (0:Int)).map V.int))));have hl2':=a0d (H:=upd (upd (upd H6 g1 (.lst [.int 0])) l1 (.lst ((c5q ws.length (0:Int)).map V.int))) g2 (.lst [.int 0])) (a:=l2) (o:=.lst ((c5q us.length (0:Int)).map V.int));have n12:l1≠l2:=a0t (w3 _ _ a0d) hl2;have w6:=((w1.trans w2).trans w3).trans w4;clear w1 w2 w3 w4 hg1 hl1 hg2 hl2;generalize upd (upd (upd (upd H6 g1 (.lst [.int 0])) l1 (.lst ((c5q ws.length (0:Int)).map V.int))) g2 (.lst [.int 0])) l2 (.lst ((c5q us.length (0:Int)).map V.int))=H7 at *;refine⟨_,_,rfl,?_⟩;walk_at "rz";refine⟨_,_,rfl,⟨_,SqL.of (w6 _ _ he)⟩,⟨_,SqL.of (w6 _ _ hlt)⟩,for_zip (xs:=zs) (ys:=(tnI S).map V.int) (fun i σ H'=>∃ (ms1 ms2:List Int) (y8 y9 y10 y11 y12:Option V),σ=[some (.ref a),some (.ref b),some (.ref e),some (.int (zs.length:Int)),some (.ref lp),some (.ref lt),some (.ref l1),some (.ref l2),y8,y9,y10,y11,y12,none]∧Same H6 H'∧H' l1=some (.lst (ms1.map V.int))∧H' l2=some (.lst (ms2.map V.int))∧ms1.length=ps.length∧ms2.length=qs.length∧(∀ m∈ms1,0≤m∧m≤((tnI S).take i).sum)∧(∀ m∈ms2,0≤m∧m≤((tnI S).take i).sum)∧
   (∀ cs:List Rat,cs.length=ps.length→dotR ms1 cs=accS cs ((tnI S).take i) ((ts.map (·.1.1)).take i))∧(∀ cs:List Rat,cs.length=qs.length→dotR ms2 cs=accS cs ((tnI S).take i) ((ts.map (·.1.2)).take i)))
   ⟨_,_,none,none,none,none,none,rfl,w6,hl1',hl2',by rw[c7i];omega,by rw[c7i];omega,b7l _,b7l _,fun cs _=>by rw[b1j];rfl,fun cs _=>by rw[b1j];rfl⟩ ?_ ?_ ?_⟩
 · rintro i σ H8 ⟨ms1,ms2,y8,y9,y10,y11,y12,rfl,s8,h1,h2,_⟩;exact⟨SqL.of (s8 _ _ he),SqL.of (s8 _ _ hlt)⟩
 · rintro i g σ H8 H9 hi ⟨ms1,ms2,y8,y9,y10,y11,y12,rfl,s8,h1,h2,q1',q2',q3,q4,q5,q6⟩ s89 hg;rw[c5l,hTl,hNl] at hi;have hi1:i<ss.length:=by omega
   have es:ss[i]?=some (ss[i]'hi1):=c5j _;have et:ts[i]?=some (ts[i]'(by omega (config:={}))):=c5j _;have em:(tnI S)[i]?=some ((tnI S)[i]'(by omega (config:={}))):=c5j _;have st:=hts i _ _ es et;obtain⟨az,ez,gz⟩:=hZ.at es;have t0:=tnn _ (c5p em);rw[ez,b5l em] at hg;generalize ts[i]'(by omega (config:={}))=t at *;generalize ss[i]'hi1=sx at *;generalize (tnI S)[i]'(by omega (config:={}))=mu at *;have s9:=s8.trans s89;replace h1:=s89 _ _ h1;replace h2:=s89 _ _ h2;refine⟨g,_,rfl,hg,rfl,_,_,rfl,az,_,rfl,SqT.of (s9 _ _ gz),rfl,_,_,rfl,_,_,rfl,_,_,rfl,_,_,rfl,rfl,_,_,rfl,rfl,?_⟩;clear hg s89 s8;have j1:=(c5m.mp st.i).1;have j2:=(c5m.mp st.j).1;have e21:sx.2.1=(t.1.1:Int):=by rw[st.ij]
   have e22:sx.2.2=(t.1.2:Int):=by rw[st.ij]
   rw[e21,e22];have a1:ms1[t.1.1]?=some (ms1[t.1.1]'(by omega (config:={}))):=c5j _;have a2:ms2[t.1.2]?=some (ms2[t.1.2]'(by omega (config:={}))):=c5j _;walk_at "rz";refine⟨l1,_,t.1.1,_,rfl,rfl,SqL.of h1,c3x a1,?_⟩;walk_at "rz";refine⟨l1,_,_,t.1.1,rfl,rfl,h1,ixN_of (by omega) (by rw[c5l];omega),?_⟩;have u1:Same H6 (upd H9 l1 (.lst ((ms1.map V.int).set t.1.1 (.int (ms1[t.1.1]'(by omega (config:={}))+mu))))):=a2g n1 s9;have u2:(upd H9 l1 (.lst ((ms1.map V.int).set t.1.1 (.int (ms1[t.1.1]'(by omega (config:={}))+mu))))) l2=some (.lst (ms2.map V.int)):=by rw[a0m n12.symm];exact h2
   have u3:(upd H9 l1 (.lst ((ms1.map V.int).set t.1.1 (.int (ms1[t.1.1]'(by omega (config:={}))+mu))))) l1=some (.lst ((ms1.set t.1.1 (ms1[t.1.1]'(by omega (config:={}))+mu)).map V.int)):=by rw[a0d,List.map_set]
   generalize upd H9 l1 (.lst ((ms1.map V.int).set t.1.1 (.int (ms1[t.1.1]'(by omega (config:={}))+mu))))=H10 at *;walk_at "rz";refine⟨l2,_,t.1.2,_,rfl,rfl,SqL.of u2,c3x a2,?_⟩;walk_at "rz";refine⟨l2,_,_,t.1.2,rfl,rfl,u2,ixN_of (by omega) (by rw[c5l];omega),?_⟩;refine⟨ms1.set t.1.1 (ms1[t.1.1]'(by omega (config:={}))+mu),ms2.set t.1.2 (ms2[t.1.2]'(by omega (config:={}))+mu),_,_,_,_,_,rfl,a2g n2 u1,by rw[a0m n12];exact u3,by rw[a0d,List.map_set],by rw[List.length_set];exact q1',by rw[List.length_set];exact q2',set_ok a1 em t0 q3,set_ok a2 em t0 q4,fun cs hcs=>?_,fun cs hcs=>?_⟩
   · have ec:cs[t.1.1]?=some (cs[t.1.1]'(by omega (config:={}))):=c5j _;rw[b3w ms1 cs _ _ mu _ a1 ec,q5 cs hcs,b1w cs (tnI S) (ts.map (·.1.1)) i mu t.1.1 em (by rw[c5t,et];rfl),c6j,ec];rfl
   · have ec:cs[t.1.2]?=some (cs[t.1.2]'(by omega (config:={}))):=c5j _;rw[b3w ms2 cs _ _ mu _ a2 ec,q6 cs hcs,b1w cs (tnI S) (ts.map (·.1.2)) i mu t.1.2 em (by rw[c5t,et];rfl),c6j,ec];rfl
 rintro σ H8 ⟨ms1,ms2,y8,y9,y10,y11,y12,rfl,s8,h1,h2,q1',q2',q3,q4,q5,q6⟩;have eI:min zs.length ((tnI S).map V.int).length=ss.length:=by rw[c5l];omega
 rw[eI] at q3 q4 q5 q6;rw[c6x (show (tnI S).length≤ss.length by omega)] at q3 q4;have q5':∀ cs:List Rat,cs.length=ps.length→dotR ms1 cs=accS cs (tnI S) (ts.map (·.1.1)):=fun cs hc=>by
   have:=q5 cs hc;rw[c6x (by omega),c6x (by rw[c5l];omega)] at this;exact this
 have q6':∀ cs:List Rat,cs.length=qs.length→dotR ms2 cs=accS cs (tnI S) (ts.map (·.1.2)):=fun cs hc=>by
   have:=q6 cs hc;rw[c6x (by omega),c6x (by rw[c5l];omega)] at this;exact this
 have mean:=fin ms1 ms2 q1' q2' (fun m hm=>(q3 m hm).1) (fun m hm=>(q4 m hm).1) q5' q6';have zW:Sz (2*n+6) (tnI S).sum:=(sum3_sz tsz (by omega)).mono (by omega);clear q5 q6 q5' q6' fin eI;walk_at "rz";refine⟨lt,tnI S,rfl,SqL.of (s8 _ _ hlt),?_⟩;generalize (tnI S).sum=W at *;have wz:Sz 9000 W:=zW.mono (by omega);have szm:∀ m:Int,0≤m∧m≤W→Sz (2*n+6) m:=fun m hm=>zW.le (by omega);walk_at "rz";refine⟨⟨_,SqL.of h1⟩,b5w (a3c (SqL.of h1)) (by rw[c5l];omega) (fun i v H=>∀ m,ms1[i]?=some m→ShV H v (c5r m W)) (fun _ _ _ _ tt h m e=>(h m e).tup tt) (fun i H9 kk hi s9 hk=>?_) (fun c1 yc1 H9 hc10 s9 hc1 hy1 hr1=>?_)⟩
 · rw[c5l] at hi;have em:ms1[i]?=some (ms1[i]'hi):=c5j _;rw[b5l em];walk_at "rz";refine⟨_,W,rfl,by omega,wz,fun v H10 s10 hv=>?_⟩;refine hk _ _ s10 fun m e=>?_;rw[em] at e;cases e;exact hv
 have S1:ShL H9 yc1 (ms1.map fun m=>c5r m W):=b8d (by rw[c5l] at hy1;exact hy1) hr1;walk_at "rz";refine⟨⟨_,SqL.of (s9 _ _ h2)⟩,b5w (a3c (SqL.of (s9 _ _ h2))) (by rw[c5l];omega) (fun i v H=>∀ m,ms2[i]?=some m→ShV H v (c5r m W)) (fun _ _ _ _ tt h m e=>(h m e).tup tt) (fun i H10 kk hi s10 hk=>?_) (fun c2 yc2 H10 hc20 s10 hc2 hy2 hr2=>?_)⟩
 · rw[c5l] at hi;have em:ms2[i]?=some (ms2[i]'hi):=c5j _;rw[b5l em];walk_at "rz";refine⟨_,W,rfl,by omega,wz,fun v H11 s11 hv=>?_⟩;refine hk _ _ s11 fun m e=>?_;rw[em] at e;cases e;exact hv
 have S2:ShL H10 yc2 (ms2.map fun m=>c5r m W):=b8d (by rw[c5l] at hy2;exact hy2) hr2;walk_at "rz";intro c hc;have wc:=Same.new (o:=.tup [.ref c1,.ref c2]) hc;have sF:=((sA.trans s8).trans s9).trans s10;have bdm:∀ ms:List Int,(∀ m∈ms,0≤m∧m≤W)→∀ r∈ms.map (fun m=>c5r m W),Bd (2*n+10) r:=fun ms hm r hr=>by
   obtain⟨m,h1,rfl⟩:=c6h.mp hr;exact (Bd.of (szm m (hm m h1)) zW (by omega)).mono (by omega)
 exact k c c1 c2 yc1 yc2 _ _ _ (sF.trans wc) a0d ((sA.trans s8).free hc10) (((sA.trans s8).trans s9).free hc20) (fun e=>by subst e;rw[hc1] at hc20;cases hc20) (wc _ _ (s10 _ _ hc1)) (wc _ _ hc2) ((S1.same s10).same wc) (S2.same wc) (bdm ms1 q3) (bdm ms2 q4) mean
theorem c0a(F:a0q K mg "parting" a5n ["one","other"])(B:Blt mg)(D_product:a1b P w K mg base CX0 1 "product" ["numbers"] (a7p K))(D_axes:a1b P w K mg base CX0 4 "axes" ["points"] (b3f K))(D_parted:a1b P w K mg base CX0 3 "parted" ["ones","others"] (b3e K))(D_told_line:a1b P w K mg base CX0 3 "told_line" ["line","x_bottom","y_bottom","room"] a8m)(D_common_shares:a1b P w K mg base CX0 6 "common_shares" ["one","other","steps"] (c1q K)):a1b P w K mg base CX0 7 "parting" ["one","other"] (b0j K):=by
 refine a1j F a4q (fun vs H Q E h=>?_) (fun f cdv A outer s H vs Q E hr h=>?_)
 · obtain⟨a,b,ws,us,ps,qs,D,n,z,rfl,_⟩:=h;rfl
 obtain⟨a,b,ws,us,ps,qs,D,n,z,rfl,ha,hP,hb,hQ,hD,zD,hz,hn1,hn,ov1,ov2,p1,p20,q1,q20,k1,k2⟩:=h;have hu:=hr.units;refine⟨_,(a0e (a2x (a0s D_axes hr a1k (a0a (a0j c2q (pvI 0) (pvI 1)) a0c)) (a1h (n:=2) K rfl (a0i (a0g (i:=2) a4q.nd rfl (Or.inl rfl)) (a0i (a0g (i:=3) a4q.nd rfl (Or.inl rfl)) a1e)))) (a0e (a0p (i:=4) a4q.nd rfl (Or.inl rfl) (show PEi _ _ (tZipL K _) from (b0u rfl B.list rfl B.zip (a0a (a0k (a0l K) (pvI 2) a0b (fun _ _=>rfl)) (a0a (a0k (a0l K) (pvI 3) a0b (fun _ _=>rfl)) a0c))))) (a0e (a2x (a0s D_parted hr a1k (a0a (a3j (a5d K) (pvI 4) a3v (a3h (a0w (a1p K) (by rfl) B.len PySem.boot_len (a0a (pvI 0) a0c)))) (a0a (a3j (a5d K) (pvI 4) (a3h (a0w (a1p K) (by rfl) B.len PySem.boot_len (a0a (pvI 0) a0c))) a3v) a0c))) (a1h (n:=2) K rfl (a0i (a0g (i:=5) a4q.nd rfl (Or.inl rfl)) (a0i (a0g (i:=6) a4q.nd rfl (Or.inl rfl)) a1e)))) (a0e (a2h (a1c op_isN (pvI 5) a7h (a1t _)) (a0h (a0r (a0j (a4m K) (a0y (a0a a4z a0c)) (a0s D_common_shares hr a1k (a0a (pvI 0) (a0a (pvI 1) (a0a (pvI 6) a0c))))))) a1o) (a0h (a0r (a0j (a4m K) (a0y (a0a a4z a0c)) (a0s D_told_line hr a1k (a0a (pvI 5) (a0a (a0s D_product hr a1k (a0a (a0k (a0l K) (pvI 2) a0b (fun _ _=>rfl)) a0c)) (a0a (a0s D_product hr a1k (a0a (a0k (a0l K) (pvI 3) a0b (fun _ _=>rfl)) a0c)) (a0a a0b a0c)))))))))))),?_⟩;have hwl:=hP.len;have hul:=hQ.len;walk_at "rz";refine⟨c7r (a0o (by omega)),fun c0 hc0=>?_⟩;have s0:=Same.new (o:=.lst (ws++us)) hc0;have ovs:∀ p∈ps++qs,OvP D n p:=fun p hp=>(c6q.mp hp).elim (ov1 p) (ov2 p);walk_at "rz";refine⟨c0,ws++us,ps++qs,D,max n z,rfl,SqL.of a0d,(hP.same s0).append (hQ.same s0),hD,zD.mono (by omega),fun p hp=>?_,by omega,by rw[c5n];omega,fun c x y t1 b1 t2 b2 H1 s1 hc A1 A2 e1 e2 n1 n2 g1 g2=>?_⟩
 · obtain⟨o1,o2⟩:=ovs p hp;obtain⟨b1,b2⟩:=a7i hD zD ⟨o1,o2⟩ (max n z) (by omega) (by omega);exact⟨⟨a4k o1,b1⟩,a4k o2,b2⟩
 walk_at "cd";refine⟨c,_,rfl,SqT.of hc,rfl,_,_,rfl,_,_,rfl,rfl,?_⟩;have W1:0<a1g b1:=by obtain⟨_,_,_,_,_,_,_,_,zz,_⟩:=id A1;exact a4y fun b hb=>(zz b hb).1
 have W2:0<a1g b2:=by obtain⟨_,_,_,_,_,_,_,_,zz,_⟩:=id A2;exact a4y fun b hb=>(zz b hb).1
 have T1:∀ x∈t1,Sz n x:=a8k W1 hD g1 e1 fun q hq=>by obtain⟨p,hp,rfl⟩:=c6h.mp hq;exact (ovs p hp).1
 have T2:∀ x∈t2,Sz n x:=a8k W2 hD g2 e2 fun q hq=>by obtain⟨p,hp,rfl⟩:=c6h.mp hq;exact (ovs p hp).2
 have hO:Over (ps++qs) (t1.zip t2) (a1g b1) (a1g b2):=⟨W1,W2,c0z e1 e2⟩
 have zZ:=zip_sz T1 T2;have zb1:=a7a W1 hD g1 zD;have zb2:=a7a W2 hD g2 zD;obtain⟨a1,lt1,lb1,rfl,h1,ht1,hb1,zt1,gt1,nn1,mm1⟩:=A1;obtain⟨a2,lt2,lb2,rfl,h2,ht2,hb2,zt2,gt2,nn2,mm2⟩:=A2;have hOl:=hO.len;rw[c5n] at hOl;walk_at "rz";refine⟨lt1,lt2,_,_,rfl,SqL.of ht1,SqL.of ht2,by rw[c5l];omega,fun lp ups H2 hl0 s2 hlp hupl hpr=>?_⟩;have hPz:=c2f hupl hpr;have hpl:=hPz.len;generalize t1.zip t2=zl at *;have s02:=(s0.trans s1).trans s2;replace ha:=s02 _ _ ha;replace hb:=s02 _ _ hb;replace hP:=hP.same s02;replace hQ:=hQ.same s02;replace h1:=s2 _ _ h1;replace h2:=s2 _ _ h2;replace hb1:=s2 _ _ hb1;replace hb2:=s2 _ _ hb2;clear hpr hupl T1 T2 ht1 ht2 zt1 zt2 e1 e2 hc s0 s1 s2 hl0 hc0 g1 g2 ovs;walk_at "rz";refine⟨lp,_,rfl,SqL.of hlp,fun c1 hc1=>?_⟩;rw[c4s ups _ ps.length (by omega)];have w1:=Same.new (o:=.lst (ups.take ps.length)) hc1;walk_at "rz";refine⟨lp,_,rfl,SqL.of (w1 _ _ hlp),fun c2 hc2=>?_⟩;rw[a8g ups _ ps.length (by omega) (by omega)];have w2:=Same.new (o:=.lst (ups.drop ps.length)) hc2;have O1:=hO.fst;have O2:=hO.snd;have P1:=((hPz.take ps.length).same w1).same w2;have P2:=((hPz.drop ps.length).same w1).same w2;have z1:SzQ n (zl.take ps.length):=fun p hp=>zZ p (c7p hp);have z2:SzQ n (zl.drop ps.length):=fun p hp=>zZ p (c7l hp);have l1:=O1.len;have l2:=O2.len;generalize zl.take ps.length=pl at *;generalize zl.drop ps.length=ql at *;have w12:=w1.trans w2;walk_at "rz";refine⟨c1,c2,_,_,pl,ql,n,rfl,w2 _ _ a0d,P1,a0d,P2,z1,z2,hn1,hn,by omega,by omega,by omega,by omega,?_,?_⟩
 · intro c3 d e w p q H3 s3 hc3 hd he zw hp hq hlt hmx hmn;walk_at "cd";refine⟨c3,_,rfl,SqT.of hc3,rfl,_,_,rfl,_,_,rfl,rfl,?_⟩;walk_at "rz";intro g0 hg0;have v0:=Same.new (o:=.tup [.str "line"]) hg0;have s3a:=(w12.trans s3).trans v0;have hd3:=v0 _ _ hd;have hA1:=s3a _ _ h1;have hA2:=s3a _ _ h2;have hB1:=s3a _ _ hb1;have hB2:=s3a _ _ hb2;have hg0':(upd H3 g0 (.tup [.str "line"])) g0=some (.tup [.str "line"]):=a0d;generalize upd H3 g0 (.tup [.str "line"])=H4 at *;walk_at "rz";refine⟨lb1,b1,rfl,SqL.of hB1,gt1,nn1,?_⟩;walk_at "rz";refine⟨lb2,b2,rfl,SqL.of hB2,gt2,nn2,?_⟩;walk_at "rz";have zd:Sz (2*n+4) (dt w p+dt w q):=(Sz.add (dt_sz zw (z1 p hp).1 (z1 p hp).2) (dt_sz zw (z2 q hq).1 (z2 q hq).2)).mono (by omega);refine⟨d,w,dt w p+dt w q,a1g b1,a1g b2,1,rfl,hd3,⟨zw.1.mono (by omega),zw.2.mono (by omega)⟩,zb1.mono (by omega),zb2.mono (by omega),Sz.one.mono (by decide),by decide,fun t v1 v2 v3 H5 s5 ht g1 g2 g3=>?_⟩;refine⟨g0,t,_,_,rfl,rfl,SqT.of (s5 _ _ hg0'),SqT.of ht,by simp,by show 4≤sizeLine;decide,fun zz=>(nomatch zz),fun _ c9 hc9=>?_⟩;have w9:=Same.new (o:=.tup ([.str "line"]++[v1,v2,v3])) hc9;refine k1 c9 v1 v2 v3 _ _ _ _ (((s02.trans s3a).trans s5).trans w9) a0d (g1.same w9) (g2.same w9) (g3.same w9) ?_ ?_ ?_ ?_ ?_
   · exact b9k ((Sz.mul zw.1 zb1).mono (by omega)) (by omega)
   · exact b9k ((Sz.mul zw.2 zb2).mono (by omega)) (by omega)
   · exact (Bd.of (m:=2) zd ⟨by decide⟩ (by decide)).mono (by omega)
   · intro x hx;obtain⟨X,hX,e⟩:=O1.line w hx;rw[e];exact half_lo hlt (hmx X hX)
   · intro x hx;obtain⟨X,hX,e⟩:=O2.line w hx;rw[e];exact half_hi hlt (hmn X hX)
 · intro c3 e vs ss H3 s3 hc3 he hSs hac h0;walk_at "cd";refine⟨c3,_,rfl,SqT.of hc3,rfl,_,_,rfl,_,_,rfl,rfl,?_⟩;walk_at "rz";intro g0 hg0;have v0:=Same.new (o:=.tup [.str "common"]) hg0;have s3a:=(w12.trans s3).trans v0;have hg0':(upd H3 g0 (.tup [.str "common"])) g0=some (.tup [.str "common"]):=a0d;generalize upd H3 g0 (.tup [.str "common"])=H4 at *;walk_at "rz";refine⟨a,b,e,ws,us,vs,ps,qs,ss,D,a1g b1,a1g b2,n,z,rfl,s3a _ _ ha,hP.same s3a,s3a _ _ hb,hQ.same s3a,v0 _ _ he,hSs.same v0,hD,zD,by omega,hn,ov1,ov2,p1,p20,q1,q20,W1,W2,fun s hs=>?_,h0.s,fun c9 l1 l2 v1 v2 r1 r2 H5 s5 hc9 f1 f2 f12 g1 g2 S1 S2 b1' b2' mq=>?_⟩
   · obtain⟨i,j,p,q,ei,ej,rfl⟩:=hac s hs;refine⟨i,j,_,_,O1.at ei,O2.at ej,rfl,?_,?_⟩
     · have a:=a2t (x:=p.1) W1;have b:=a2t (x:=q.1) W1;show ((q.1 - p.1:Int):Rat)=_;rw[d0i,← a,← b];grind
     · have a:=a2t (x:=p.2) W2;have b:=a2t (x:=q.2) W2;show ((q.2 - p.2:Int):Rat)=_;rw[d0i,← a,← b];grind
   refine⟨g0,c9,_,_,rfl,rfl,SqT.of (s5 _ _ hg0'),SqT.of hc9,by simp,by show 3≤sizeLine;decide,fun zz=>(nomatch zz),fun _ c10 hc10=>?_⟩;have w9:=Same.new (o:=.tup ([.str "common"]++[.ref l1,.ref l2])) hc10;have fr:∀ x,H4 x=none→H x=none:=fun x hx=>s02.free (s3a.free hx);walk_at "cd";exact k2 c10 l1 l2 v1 v2 r1 r2 _ (((s02.trans s3a).trans s5).trans w9) a0d (fr _ f1) (fr _ f2) f12 (w9 _ _ g1) (w9 _ _ g2) (S1.same w9) (S2.same w9) b1' b2' mq
theorem ok_law(F:a0q K mg "law" b0o ["_law_script"])(B:Blt mg)(D_l_cell_at:a1b P w K mg base CX0 1 "_law_cell_at" ["_law_script","_law_k"] (c1r K))(D_l_drawn_two:a1b P w K mg base CX0 3 "_law_drawn_two" ["_law_script","_law_most"] (spDTwo K))(D_l_kind:a1b P w K mg base CX0 4 "_law_kind" ["_law_told","_law_some","_law_others"] (c1n K))(D_l_stretches:a1b P w K mg base CX0 3 "_law_stretches" ["_law_curve","_law_level"] (spLStr K))(D_meets:a1b P w K mg base CX0 7 "meets" ["one","other","level"] (b7y K))(D_parting:a1b P w K mg base CX0 7 "parting" ["one","other"] (b0j K)):a1b P w K mg base CX0 8 "law" ["_law_script"] (spLaw K):=by
 refine a1j F a4g (fun vs H Q E h=>?_) (fun f cdv A outer s H vs Q E hr h=>?_)
 · obtain⟨a,ns,rfl,_⟩:=h;rfl
 obtain⟨a,ns,rfl,hS,hlen,k⟩:=h;have hu:=hr.units;refine⟨_,(a0e (a0p (i:=1) a4g.nd rfl (Or.inl rfl) (a0k (a0v K) (a1q (a0a a0b (a0a a0b (a0a a0b (a0a a0b a0c))))) (a0j a4a (a0j a6j (a0s D_l_cell_at hr a1k (a0a (pvI 0) (a0a a0b a0c))) a0b) a0b) (fun _ _=>rfl))) (a0e (a2x (a0s D_l_drawn_two hr a1k (a0a (pvI 0) (a0a (pvI 1) a0c))) (b3p (n:=2) K rfl (a0i (a0g (i:=2) a4g.nd rfl (Or.inr rfl)) (a0i (a0g (i:=3) a4g.nd rfl (Or.inr rfl)) a1e)))) (a0e (a0p (i:=4) a4g.nd rfl (Or.inl rfl) (a0k (a0v K) (a1q (a0a a0b (a0a a0b (a0a a0b (a0a a0b (a0a a0b (a0a a0b a0c))))))) (a0j a4a (a0s D_l_cell_at hr a1k (a0a (pvI 0) (a0a a0b a0c))) a0b) (fun _ _=>rfl))) (a0e (a2h (a1c a9m (pvI 1) a0b (a1t _)) (a0h (a0p (i:=4) a4g.nd rfl (Or.inl rfl) (a0j a4a (pvI 4) a0b))) a1o) (a0e (a2x (a0s D_meets hr a1k (a0a (a5q (a3p K) rfl B.list c8u (a0a (pvI 2) a0c)) (a0a (a5q (a3p K) rfl B.list c8u (a0a (pvI 3) a0c)) (a0a (pvI 4) a0c)))) (a1h (n:=2) K rfl (a0i (a0g (i:=5) a4g.nd rfl (Or.inl rfl)) (a0i (a0g (i:=6) a4g.nd rfl (Or.inl rfl)) a1e)))) (a0e (a7u (i:=7) (os:=["_law_k"]) (caps:=[(2,"_law_one")]) ["_law_script","_law_most","_law_one","_law_other","_law_level","_law_pairs","_law_thrown","_law_ones","_law_others","_law_told","_law_some","_law_more","_law_i","_law_j"] (a0f b0o) a4g.nd rfl rfl (a3d rfl B.range (a0a (a0j a2f (pvI 4) a0b) a0c)) (fun _ _ _ _ _=>(a0g (i:=0) (show c6p (["_law_k","_law_one"]:List Str) from by decide +kernel) rfl (Or.inl rfl))) (fun _ _ _ _ _=>(a0s D_l_stretches hr a1k (a0a (pvI 1) (a0a (pvI 0) a0c)))) (by decide +kernel)) (a0e (a7u (i:=8) (os:=["_law_k"]) (caps:=[(3,"_law_other")]) ["_law_script","_law_most","_law_one","_law_other","_law_level","_law_pairs","_law_thrown","_law_ones","_law_others","_law_told","_law_some","_law_more","_law_i","_law_j"] (a0f b0o) a4g.nd rfl rfl (a3d rfl B.range (a0a (a0j a2f (pvI 4) a0b) a0c)) (fun _ _ _ _ _=>(a0g (i:=0) (show c6p (["_law_k","_law_other"]:List Str) from by decide +kernel) rfl (Or.inl rfl))) (fun _ _ _ _ _=>(a0s D_l_stretches hr a1k (a0a (pvI 1) (a0a (pvI 0) a0c)))) (by decide +kernel)) (a0e (a2n PassesOwn.never rfl (a1l K (pvI 6)) (a0g (i:=9) a4g.nd rfl (Or.inl rfl)) (a0e (a0p (i:=10) a4g.nd rfl (Or.inl rfl) (a0k (a0v K) (a0k (a0v K) (pvI 7) (a0k (a0l K) (pvI 9) a0b (fun _ _=>rfl)) (fun _ _=>rfl)) (a0k (a0l K) (pvI 9) a0b (fun _ _=>rfl)) (fun _ _=>rfl))) (a0e (a0p (i:=11) a4g.nd rfl (Or.inl rfl) (a0k (a0v K) (a0k (a0v K) (pvI 8) (a0k (a0l K) (pvI 9) a0b (fun _ _=>rfl)) (fun _ _=>rfl)) (a0k (a0l K) (pvI 9) a0b (fun _ _=>rfl)) (fun _ _=>rfl))) (a0h (a2h (a1c c2p (a0s D_l_kind hr a1k (a0a (a0j (a4m K) (a0y (a0a a4z a0c)) (a3j (b6p K) (pvI 9) (a3h a0b) a3v)) (a0a (pvI 10) (a0a (pvI 11) a0c)))) a4z (a1t _)) (a0h (a0r a7z)) a1o))))) (a0e (a2n PassesOwn.never rfl (a1l K (pvI 5)) (a1h (n:=2) K rfl (a0i (a0g (i:=12) a4g.nd rfl (Or.inl rfl)) (a0i (a0g (i:=13) a4g.nd rfl (Or.inl rfl)) a1e))) (a0e (a0p (i:=10) a4g.nd rfl (Or.inl rfl) (a0k (a0v K) (a0k (a0v K) (pvI 7) (pvI 4) (fun _ _=>rfl)) (pvI 12) (fun _ _=>rfl))) (a0e (a0p (i:=11) a4g.nd rfl (Or.inl rfl) (a0k (a0v K) (a0k (a0v K) (pvI 8) (pvI 4) (fun _ _=>rfl)) (pvI 13) (fun _ _=>rfl))) (a0h (a2h (a1c c2p (a0s D_l_kind hr a1k (a0a (a0s D_parting hr a1k (a0a (a5q (a3p K) rfl B.list c8u (a0a (pvI 10) a0c)) (a0a (a5q (a3p K) rfl B.list c8u (a0a (pvI 11) a0c)) a0c))) (a0a (pvI 10) (a0a (pvI 11) a0c)))) a4z (a1t _)) (a0h (a0r a7z)) a1o))))) (a0h (a0r a7z))))))))))),?_⟩;walk_at "rz";intro g1 hg1;walk_at "rz";refine⟨a,ns,1,rfl,by walk_at "mv",by omega,fun z1=>?_⟩;walk_at "rz";obtain⟨v1,hv1,hm1⟩:=b9l [V.int 4,V.int 4,V.int 4,V.int 8] (z1 / 6 % 4) (by omega) (by show _<(4:Int);omega);have hM0:∃ mo:Nat,v1=V.int (mo:Int)∧(mo=4∨mo=8):=by
   simp only[c6f,c6r,or_false] at hm1;rcases hm1 with rfl | rfl | rfl | rfl
   · exact⟨4,rfl,.inl rfl⟩
   · exact⟨4,rfl,.inl rfl⟩
   · exact⟨4,rfl,.inl rfl⟩
   · exact⟨8,rfl,.inr rfl⟩
 obtain⟨mo,rfl,hmo⟩:=hM0;refine⟨g1,_,_,_,rfl,rfl,SqL.of a0d,hv1,?_⟩;have hS1:SqL K (upd H g1 (.lst [V.int 4,V.int 4,V.int 4,V.int 8])) a (ns.map V.int):=SqL.same' hS (Same.new hg1);generalize upd H g1 (.lst [V.int 4,V.int 4,V.int 4,V.int 8])=H1 at *;clear hg1 hv1 hm1;walk_at "rz";refine⟨a,ns,mo,rfl,hS1,by omega,by omega,fun lb l0 l1 w0 w1 p0 p1 BB H2 s2 hlb hb c0 c1 B1 B3=>?_⟩;walk_at "rz";refine⟨lb,_,rfl,SqL.of hb,rfl,_,_,rfl,_,_,rfl,rfl,?_⟩;have hS2:SqL K H2 a (ns.map V.int):=SqL.same' hS1 s2;walk_at "rz";intro g2 hg2;walk_at "rz";refine⟨a,ns,1,rfl,by walk_at "mv",by omega,fun z2=>?_⟩;walk_at "rz";obtain⟨v2,hv2,hm2⟩:=b9l [V.int 2,V.int 1,V.int 3,V.int 0,V.int 3,V.int 2] (z2 % 6) (by omega) (by show _<(6:Int);omega);have hL0:∃ L:Nat,v2=V.int (L:Int)∧L≤3:=by
   simp only[c6f,c6r,or_false] at hm2;rcases hm2 with rfl | rfl | rfl | rfl | rfl | rfl
   · exact⟨2,rfl,by decide⟩
   · exact⟨1,rfl,by decide⟩
   · exact⟨3,rfl,by decide⟩
   · exact⟨0,rfl,by decide⟩
   · exact⟨3,rfl,by decide⟩
   · exact⟨2,rfl,by decide⟩
 obtain⟨L0,rfl,hL0⟩:=hL0;refine⟨g2,_,_,_,rfl,rfl,SqL.of a0d,hv2,?_⟩;have sg:=Same.new (o:=.lst [V.int 2,V.int 1,V.int 3,V.int 0,V.int 3,V.int 2]) hg2;replace c0:=c0.same sg;replace c1:=c1.same sg;generalize upd H2 g2 (.lst [V.int 2,V.int 1,V.int 3,V.int 0,V.int 3,V.int 2])=H3 at *;clear hg2 hv2 hm2 hS2 hS1 sg s2 hlb hb;walk_at "rz";refine c3z (fun σ' H'=>H'=H3∧∃ (L:Nat),σ'=[some (.ref a),some (.int (mo:Int)),some (.ref l0),some (.ref l1),some (.int (L:Int)),none,none,none,none,none,none,none,none,none]∧L≤3∧(mo=8→L≤1)) ?_ (fun N hR hb=>?_) (fun hb=>?_)
 rotate_left
 · walk_at "rz";exact hR _ _ ⟨rfl,L0 % 2,by rw[Int.natCast_emod];rfl,by omega,fun _=>by omega⟩
 · have e8:¬ (mo:Int)=8:=by simpa using hb
   exact⟨rfl,L0,rfl,hL0,fun h8=>by omega⟩
 rintro σ' H4 ⟨rfl,L,rfl,hL,hL8⟩;clear hL0;have l01:=c0.l1;have l02:=c0.l2;have l11:=c1.l1;have l12:=c1.l2;have hLm:L*(max p0.length p1.length - 1)≤40:=by
   rcases hmo with rfl | rfl
   · have:=c8o (show L≤3 by omega) (show max p0.length p1.length - 1≤3 by omega);omega
   · have:=c8o (show L≤1 by omega) (show max p0.length p1.length - 1≤7 by omega);omega
 have zB:Sz 2 BB:=⟨by show BB.natAbs<4;omega⟩
 have hov:∀ p∈p0++p1,OvP BB 110 p:=fun p hp=>by
   rcases c6q.mp hp with hp | hp
   · exact c0.ov p hp
   · exact c1.ov p hp
 have q0:=c0.lst;have q1:=c1.lst;have P0:=c0.pts;have P1:=c1.pts;clear c0 c1;walk_at "rz";intro x0 hx0;have t0:=Same.new (o:=.lst w0) hx0;have k0:=a0d (H:=H4) (a:=x0) (o:=.lst w0);generalize upd H4 x0 (.lst w0)=H5 at *;replace q0:=t0 _ _ q0;replace q1:=t0 _ _ q1;replace P0:=P0.same t0;replace P1:=P1.same t0;clear t0 hx0;walk_at "rz";intro x1 hx1;have t0:=Same.new (o:=.lst w1) hx1;have k1:=a0d (H:=H5) (a:=x1) (o:=.lst w1);generalize upd H5 x1 (.lst w1)=H6 at *;replace q0:=t0 _ _ q0;replace q1:=t0 _ _ q1;replace k0:=t0 _ _ k0;replace P0:=P0.same t0;replace P1:=P1.same t0;clear t0 hx1;walk_at "rz";dsimp only[tNil];refine⟨x0,x1,w0,w1,p0,p1,BB,110,L,rfl,k0,P0,k1,P1,l01,by omega,l11,by omega,by omega,zB.mono (by decide),by decide,hov,hL,hLm,fun c lf ld vf vh fl tt H7 s7 hc _ _ hlf hld _ hF hT hTd=>?_⟩;replace q0:=s7 _ _ q0;replace q1:=s7 _ _ q1;replace P0:=P0.same s7;replace P1:=P1.same s7;clear s7 k0 k1;walk_at "cd";refine⟨c,_,rfl,SqT.of hc,rfl,_,_,rfl,_,_,rfl,rfl,?_⟩;clear hc;have o0:∀ p∈p0,OvP BB 110 p:=fun p hp=>hov p (c6q.mpr (.inl hp));have o1:∀ p∈p1,OvP BB 110 p:=fun p hp=>hov p (c6q.mpr (.inr hp));have hLM:∀ d,d≤L→d*(mo - 1)≤9∧d*(p0.length+1)≤15∧d*(p1.length+1)≤15:=fun d hd=>by
   rcases hmo with rfl | rfl
   · have a1:=c8o (show d≤3 by omega) (show 4 - 1≤3 by omega);have a2:=c8o (show d≤3 by omega) (show p0.length+1≤5 by omega);have a3:=c8o (show d≤3 by omega) (show p1.length+1≤5 by omega);exact⟨a1,a2,a3⟩
   · have a1:=c8o (show d≤1 by omega) (show 8 - 1≤7 by omega);have a2:=c8o (show d≤1 by omega) (show p0.length+1≤9 by omega);have a3:=c8o (show d≤1 by omega) (show p1.length+1≤9 by omega);omega
 walk_at "rz";refine⟨by omega,by omega,compF (a5z 0 ((L:Int)+1).toNat _) (by omega) (fun D k v H=>LvV (some D) p0 k v H) (fun _ _ _ _ _ b t h=>h.but b t) (fun D d H8 kk hd s8 hD hk=>?_) (fun D1 y1 H8 hD1 s8 hd1 hy1 hr1=>?_)⟩
 · obtain⟨zs,hD⟩:=hD;have hLd:=hLM d (by omega);walk_at "rz";dsimp only[tNil];refine⟨l0,w0,p0,BB,110,d,by rw[Int.zero_add],s8 _ _ q0,P0.same s8,by omega,zB.mono (by decide),by decide,o0,l01,by omega,by omega,by omega,fun E ys H9 s9 hE0 hE hyl hg=>?_⟩;refine hk _ _ s9 ⟨E,ys,rfl,(fun z=>by cases z;rw[hD] at hE0;cases hE0),hE,hyl,fun i w e=>?_⟩;obtain⟨l2,xs,r1,r2,r3,r4⟩:=hg i w e;exact⟨l2,xs,r1,(fun z=>by cases z;rw[hD] at r2;cases r2),r3,r4⟩
 replace q1:=s8 _ _ q1;replace P1:=P1.same s8;replace hlf:=s8 _ _ hlf;replace hld:=s8 _ _ hld;replace hF:=hF.same s8;replace hT:=hT.tup (L2.Same.tup s8);clear s8 hD1;walk_at "rz";refine⟨by omega,by omega,compF (a5z 0 ((L:Int)+1).toNat _) (by omega) (fun D k v H=>LvV (some D) p1 k v H) (fun _ _ _ _ _ b t h=>h.but b t) (fun D d H9 kk hd s9 hD hk=>?_) (fun D2 y2 H9 hD2 s9 hd2 hy2 hr2=>?_)⟩
 · obtain⟨zs,hD⟩:=hD;have hLd:=hLM d (by omega);walk_at "rz";dsimp only[tNil];refine⟨l1,w1,p1,BB,110,d,by rw[Int.zero_add],s9 _ _ q1,P1.same s9,by omega,zB.mono (by decide),by decide,o1,l11,by omega,by omega,by omega,fun E ys H10 s10 hE0 hE hyl hg=>?_⟩;refine hk _ _ s10 ⟨E,ys,rfl,(fun z=>by cases z;rw[hD] at hE0;cases hE0),hE,hyl,fun i w e=>?_⟩;obtain⟨l2,xs,r1,r2,r3,r4⟩:=hg i w e;exact⟨l2,xs,r1,(fun z=>by cases z;rw[hD] at r2;cases r2),r3,r4⟩
 replace hlf:=s9 _ _ hlf;replace hld:=s9 _ _ hld;replace hF:=hF.same s9;replace hT:=hT.tup (L2.Same.tup s9);replace hd1:=s9 _ _ hd1;replace hr1:=fun i v e=>(hr1 i v e).same s9;clear s9 hD2 q0 q1 P0 P1;have hvl:=hT.len;have hfl:=hF.len;have zD:∀ d,d≤L→Sz 150 (BB*2^(d*(mo - 1))):=fun d hd=>(zB.mul (a4j _)).mono (by have:=hLM d hd;omega);have D0:∀ d:Nat,0<BB*2^(d*(mo - 1)):=fun d=>c7q (by omega) (a5y _);have ov0:∀ d,d≤L→∀ i,∀ p∈gP (lvP p0 d) i,OvP (BB*2^(d*(mo - 1))) 150 p:=fun d hd i p hp=>by
   have h:=lv_ov (M:=mo) (d:=d) (by omega) o0 l02 i p hp;have:=hLM d hd;exact⟨h.1.mono (by omega),h.2.mono (by omega)⟩
 have ov1:∀ d,d≤L→∀ i,∀ p∈gP (lvP p1 d) i,OvP (BB*2^(d*(mo - 1))) 150 p:=fun d hd i p hp=>by
   have h:=lv_ov (M:=mo) (d:=d) (by omega) o1 l12 i p hp;have:=hLM d hd;exact⟨h.1.mono (by omega),h.2.mono (by omega)⟩
 have bd0:∀ d,d≤L→∀ i,∀ p∈gP (lvP p0 d) i,Bd 2000 p.1∧Bd 2000 p.2:=fun d hd i p hp=>a7i (D0 d) (zD d hd) (ov0 d hd i p hp) 2000 (by decide) (by decide);have bd1:∀ d,d≤L→∀ i,∀ p∈gP (lvP p1 d) i,Bd 2000 p.1∧Bd 2000 p.2:=fun d hd i p hp=>a7i (D0 d) (zD d hd) (ov1 d hd i p hp) 2000 (by decide) (by decide);walk_at "rz";refine⟨⟨_,SqL.of hld⟩,a4n (xs:=vh) (fun i σ H'=>∃ (y9 y10 y11:Option V),σ=[some (.ref a),some (.int (mo:Int)),some (.ref l0),some (.ref l1),some (.int (L:Int)),some (.ref lf),some (.ref ld),some (.ref D1),some (.ref D2),y9,y10,y11,none,none]∧Same H9 H') ⟨none,none,none,rfl,L2.Same.refl _⟩ (fun i σ H' _ h=>by obtain⟨_,_,_,_,s2⟩:=h;exact SqL.of (s2 _ _ hld)) ?_ ?_⟩
 · rintro i x σ H10 hx ⟨y9,y10,y11,rfl,s10⟩;have hi:i<tt.length:=by rw[← hvl];exact (c5m.mp hx).1
   obtain⟨b,u1,u2,u3,qa,qb,qc,rfl,hb,g1,g2,g3,hln,b1,b2,b3⟩:=hT.get i x _ hx (c5j hi);obtain⟨z0,z1,z2,z3,z4⟩:=hTd.ins.2 _ (c6z hi);generalize tt[i]=r at *;have e1:y1[r.1]?=some (y1[r.1]'(by omega (config:={}))):=c5j _;have e2:y2[r.1]?=some (y2[r.1]'(by omega (config:={}))):=c5j _;obtain⟨m1,n1,m2,n2,em,hm1,en,hm2,PA⟩:=(hr1 _ _ e1).at z1 z2;obtain⟨m3,n3,m4,n4,em',hm3,en',hm4,PB⟩:=(hr2 _ _ e2).at z3 z4;rw[em] at e1;rw[em'] at e2;replace hb:=s10 _ _ hb;walk_at "rz";refine⟨D1,y1,_,_,rfl,rfl,SqL.of (s10 _ _ hd1),a1v (j:=r.1) rfl e1,?_⟩;walk_at "rz";refine⟨m1,n1,_,_,rfl,rfl,SqL.of (s10 _ _ hm1),a1v (j:=r.2.1.toNat) (by omega) en,?_⟩;walk_at "rz";refine⟨D2,y2,_,_,rfl,rfl,SqL.of (s10 _ _ hd2),a1v (j:=r.1) rfl e2,?_⟩;walk_at "rz";refine⟨m3,n3,_,_,rfl,rfl,SqL.of (s10 _ _ hm3),a1v (j:=r.2.2.toNat) (by omega) en',?_⟩;walk_at "rz";intro t1 ht1;have s11:=Same.new (o:=.tup [.str "line"]) ht1;have k1:=a0d (H:=H10) (a:=t1) (o:=.tup [.str "line"]);generalize upd H10 t1 (.tup [.str "line"])=H11 at *;replace hb:=s11 _ _ hb;walk_at "rz";refine⟨b,_,rfl,SqT.of hb,cut3d_ne rfl,fun t2 ht2=>?_⟩;rw[a8g _ 3 3 rfl (by show 3≤6;decide)];have s12:=Same.new (o:=.tup (List.drop 3 [.int (r.1:Int),.int r.2.1,.int r.2.2,u1,u2,u3])) ht2;have k2:=a0d (H:=H11) (a:=t2) (o:=.tup (List.drop 3 [.int (r.1:Int),.int r.2.1,.int r.2.2,u1,u2,u3]));generalize upd H11 t2 (.tup (List.drop 3 [.int (r.1:Int),.int r.2.1,.int r.2.2,u1,u2,u3]))=H12 at *;refine⟨t1,t2,_,_,rfl,rfl,SqT.of (s12 _ _ k1),SqT.of k2,by simp,by show 4≤sizeLine;decide,fun zz=>(nomatch zz),fun _ c9 hc9=>?_⟩;have s13:=Same.new (o:=.tup ([.str "line"]++List.drop 3 [.int (r.1:Int),.int r.2.1,.int r.2.2,u1,u2,u3])) hc9;have k3:=a0d (H:=H12) (a:=c9) (o:=.tup ([.str "line"]++List.drop 3 [.int (r.1:Int),.int r.2.1,.int r.2.2,u1,u2,u3]));generalize upd H12 c9 (.tup ([.str "line"]++List.drop 3 [.int (r.1:Int),.int r.2.1,.int r.2.2,u1,u2,u3]))=H13 at *;have sA:=(s10.trans s11).trans (s12.trans s13);walk_at "rz";dsimp only[tNil];refine⟨c9,m2,m4,n2,n4,_,_,rfl,sA _ _ hm2,PA.same sA,sA _ _ hm4,PB.same sA,.inl ⟨⟨u1,u2,u3,qa,qb,qc,k3,g1.same sA,g2.same sA,g3.same sA,b1.mono (by decide),b2.mono (by decide),b3.mono (by decide),hln⟩,bd0 _ z0 _,bd1 _ z0 _,fun H14 s14=>?_⟩⟩;walk_at "rz";exact⟨_,_,_,rfl,sA.trans s14⟩
 · rintro σ H10 ⟨y9,y10,y11,rfl,s10⟩;replace hlf:=s10 _ _ hlf;walk_at "rz";refine⟨⟨_,SqL.of hlf⟩,a4n (xs:=vf) (fun i σ H'=>∃ (y10 y11 y12 y13:Option V),σ=[some (.ref a),some (.int (mo:Int)),some (.ref l0),some (.ref l1),some (.int (L:Int)),some (.ref lf),some (.ref ld),some (.ref D1),some (.ref D2),y9,y10,y11,y12,y13]∧Same H10 H') ⟨_,_,none,none,rfl,L2.Same.refl _⟩ (fun i σ H' _ h=>by obtain⟨_,_,_,_,_,s2⟩:=h;exact SqL.of (s2 _ _ hlf)) ?_ ?_⟩
   · rintro i x σ H11 hx ⟨y10,y11,y12,y13,rfl,s11⟩;have hi:i<fl.length:=by rw[← hfl];exact (c5m.mp hx).1
     have s911:=s10.trans s11;obtain⟨b,rfl,hb⟩:=(hF.same s911).get i x _ hx (c5j hi);obtain⟨z1,z2,z3,z4⟩:=hTd.ins.1 _ (c6z hi);have hmq:=hTd.all _ (c6z hi);generalize fl[i]=p at *;have e1:y1[L]?=some (y1[L]'(by omega (config:={}))):=c5j _;have e2:y2[L]?=some (y2[L]'(by omega (config:={}))):=c5j _;obtain⟨m1,n1,m2,n2,em,hm1,en,hm2,PA⟩:=((hr1 _ _ e1).same s911).at z1 z2;obtain⟨m3,n3,m4,n4,em',hm3,en',hm4,PB⟩:=((hr2 _ _ e2).same s911).at z3 z4;rw[em] at e1;rw[em'] at e2;have pl0:=gP_len (ps:=p0) z1 z2;have pl1:=gP_len (ps:=p1) z3 z4;refine⟨b,_,rfl,SqT.of hb,rfl,_,_,rfl,_,_,rfl,rfl,?_⟩;walk_at "rz";refine⟨D1,y1,_,_,rfl,rfl,SqL.of (s911 _ _ hd1),a1v (j:=L) rfl e1,?_⟩;walk_at "rz";refine⟨m1,n1,_,_,rfl,rfl,SqL.of hm1,a1v (j:=p.1.toNat) (by omega) en,?_⟩;walk_at "rz";refine⟨D2,y2,_,_,rfl,rfl,SqL.of (s911 _ _ hd2),a1v (j:=L) rfl e2,?_⟩;walk_at "rz";refine⟨m3,n3,_,_,rfl,rfl,SqL.of hm3,a1v (j:=p.2.toNat) (by omega) en',?_⟩;walk_at "rz";intro x2 hx2;have s12:=Same.new (o:=.lst n2) hx2;have k2:=a0d (H:=H11) (a:=x2) (o:=.lst n2);generalize upd H11 x2 (.lst n2)=H12 at *;replace hm2:=s12 _ _ hm2;replace hm4:=s12 _ _ hm4;walk_at "rz";intro x3 hx3;have s13:=Same.new (o:=.lst n4) hx3;have k3:=a0d (H:=H12) (a:=x3) (o:=.lst n4);generalize upd H12 x3 (.lst n4)=H13 at *;have sB:=s12.trans s13;walk_at "rz";dsimp only[tNil];refine part_one (s13 _ _ k2) (PA.same sB) k3 (PB.same sB) (D0 L) (zD L (c5v _)) (c5v _) (by decide) (by decide) (ov0 L (c5v _) _) (ov1 L (c5v _) _) (by omega) (by omega) (by omega) (by omega) (fun c d1 d2 bo H14 s14 _ hK=>?_);have hbo:bo=false:=by
       cases bo with
       | false=>rfl
       | true=>
         obtain⟨_,_,_,qa,qb,qc,_,_,_,_,_,_,_,hq⟩:=(show c5h H14 c _ _ _ from hK)
         exact absurd hq (hmq qa qb qc)
     subst hbo;walk_at "rz";dsimp only[tNil];have sC:=sB.trans s14;refine kind_one (s14 _ _ (s13 _ _ hm2)) (PA.same sC) (s14 _ _ (s13 _ _ hm4)) (PB.same sC) hK (D0 L) (zD L (c5v _)) (c5v _) (by decide) (by decide) (ov0 L (c5v _) _) (ov1 L (c5v _) _) (by omega) (by omega) (fun H15 s15=>?_);walk_at "rz";exact⟨_,_,_,_,rfl,(s11.trans sC).trans s15⟩
   · rintro σ H11 ⟨y10,y11,y12,y13,rfl,s11⟩;walk_at "rz";exact k _
end
theorem all_mk{w:World}{K:c5k}{h:Heap}{mg:Str→Option Value}{fa:Addr}(KX:K.In h)(GN:h.Ns mainGlobals mg)(hfa:mg "law" = some (.ref fa)){f0 f1 f2 f3 f4 f5 f6 f7 f8 f9 f10 f11 f12 f13 f14 f15 f16 f17 f18 f19 f20 f21 f22 f23 f24 f25 f26 f27 f28 f29 f30 f31 f32 f33 f34 f35 f36 f37 f38 f39:Addr}{od0 an0 od1 an1 od2 an2 od3 an3 od4 an4 od5 an5 od6 an6 od7 an7 od8 an8 od9 an9 od10 an10 od11 an11 od12 an12 od13 an13 od14 an14 od15 an15 od16 an16 od17 an17 od18 an18 od19 an19 od20 an20 od21 an21 od22 an22 od23 an23 od24 an24 od25 an25 od26 an26 od27 an27 od28 an28 od29 an29 od30 an30 od31 an31 od32 an32 od33 an33 od34 an34 od35 an35 od36 an36 od37 an37 od38 an38 od39 an39:Option Addr}{sl0 sl1 sl2 sl3 sl4 sl5 sl6 sl7 sl8 sl9 sl10 sl11 sl12 sl13 sl14 sl15 sl16 sl17 sl18 sl19 sl20 sl21 sl22 sl23 sl24 sl25 sl26 sl27 sl28 sl29 sl30 sl31 sl32 sl33 sl34 sl35 sl36 sl37 sl38 sl39:Array (Option Value)}{oc0 kV0 dc0 pm0 cd0 ct0 oc1 kV1 dc1 pm1 cd1 ct1 oc2 kV2 dc2 pm2 cd2 ct2 oc3 kV3 dc3 pm3 cd3 ct3 oc4 kV4 dc4 pm4 cd4 ct4 oc5 kV5 dc5 pm5 cd5 ct5 oc6 kV6 dc6 pm6 cd6 ct6 oc7 kV7 dc7 pm7 cd7 ct7 oc8 kV8 dc8 pm8 cd8 ct8 oc9 kV9 dc9 pm9 cd9 ct9 oc10 kV10 dc10 pm10 cd10 ct10 oc11 kV11 dc11 pm11 cd11 ct11 oc12 kV12 dc12 pm12 cd12 ct12 oc13 kV13 dc13 pm13 cd13 ct13 oc14 kV14 dc14 pm14 cd14 ct14 oc15 kV15 dc15 pm15 cd15 ct15 oc16 kV16 dc16 pm16 cd16 ct16 oc17 kV17 dc17 pm17 cd17 ct17 oc18 kV18 dc18 pm18 cd18 ct18 oc19 kV19 dc19 pm19 cd19 ct19 oc20 kV20 dc20 pm20 cd20 ct20 oc21 kV21 dc21 pm21 cd21 ct21 oc22 kV22 dc22 pm22 cd22 ct22 oc23 kV23 dc23 pm23 cd23 ct23 oc24 kV24 dc24 pm24 cd24 ct24 oc25 kV25 dc25 pm25 cd25 ct25 oc26 kV26 dc26 pm26 cd26 ct26 oc27 kV27 dc27 pm27 cd27 ct27 oc28 kV28 dc28 pm28 cd28 ct28 oc29 kV29 dc29 pm29 cd29 ct29 oc30 kV30 dc30 pm30 cd30 ct30 oc31 kV31 dc31 pm31 cd31 ct31 oc32 kV32 dc32 pm32 cd32 ct32 oc33 kV33 dc33 pm33 cd33 ct33 oc34 kV34 dc34 pm34 cd34 ct34 oc35 kV35 dc35 pm35 cd35 ct35 oc36 kV36 dc36 pm36 cd36 ct36 oc37 kV37 dc37 pm37 cd37 ct37 oc38 kV38 dc38 pm38 cd38 ct38 oc39 kV39 dc39 pm39 cd39 ct39:Value}{C_Ground:Addr}(aC_Ground:c5s K mainGlobals "Ground" = some (some (.ref C_Ground)))(pg_Ground:d0w K C_Ground Str.empty=true)(hd_Ground:d1f K C_Ground=true)(po_Ground:PySem.W.plainOver K C_Ground=true)(sa_Ground:c7h K (.ref C_Ground) "__setattr__" = some (some (.builtin "object.__setattr__")))(mk_Ground:PySem.W.makesIn K C_Ground=true)(kc_Ground:c5w K (.ref C_Ground)=true)(nA_Ground_room:c7h K (.ref C_Ground) "room" = some none)(nA_Ground_x_bottoms:c7h K (.ref C_Ground) "x_bottoms" = some none)(nA_Ground_y_bottoms:c7h K (.ref C_Ground) "y_bottoms" = some none)(nA_Ground_ones:c7h K (.ref C_Ground) "ones" = some none)(nA_Ground_others:c7h K (.ref C_Ground) "others" = some none)(a0:c5s K mainGlobals "_law_cell_at" = some (some (.ref f0)))(l0:K.lookup f0=some ⟨oc0,od0,.func (c5z "_law_cell_at" "_law_cell_at" (a1a a4e) (a0x a4e) (a0f a4e) .none kV0 dc0 pm0 an0 cd0 ct0),sl0⟩)(c0:c5x K cd0 "_law_cell_at" = true)(k0:c5w K (.ref f0)=true)(a1:c5s K mainGlobals "_law_part" = some (some (.ref f1)))(l1:K.lookup f1=some ⟨oc1,od1,.func (c5z "_law_part" "_law_part" (a1a a6r) (a0x a6r) (a0f a6r) .none kV1 dc1 pm1 an1 cd1 ct1),sl1⟩)(c1:c5x K cd1 "_law_part" = true)(k1:c5w K (.ref f1)=true)(a2:c5s K mainGlobals "_law_share" = some (some (.ref f2)))(l2:K.lookup f2=some ⟨oc2,od2,.func (c5z "_law_share" "_law_share" (a1a a5p) (a0x a5p) (a0f a5p) .none kV2 dc2 pm2 an2 cd2 ct2),sl2⟩)(c2:c5x K cd2 "_law_share" = true)(k2:c5w K (.ref f2)=true)(a3:c5s K mainGlobals "_law_stream" = some (some (.ref f3)))(l3:K.lookup f3=some ⟨oc3,od3,.func (c5z "_law_stream" "_law_stream" (a1a a4t) (a0x a4t) (a0f a4t) .none kV3 dc3 pm3 an3 cd3 ct3),sl3⟩)(c3:c5x K cd3 "_law_stream" = true)(k3:c5w K (.ref f3)=true)(a4:c5s K mainGlobals "_law_drawn_two" = some (some (.ref f4)))(l4:K.lookup f4=some ⟨oc4,od4,.func (c5z "_law_drawn_two" "_law_drawn_two" (a1a a3m) (a0x a3m) (a0f a3m) .none kV4 dc4 pm4 an4 cd4 ct4),sl4⟩)(c4:c5x K cd4 "_law_drawn_two" = true)(k4:c5w K (.ref f4)=true)(a5:c5s K mainGlobals "_law_whole" = some (some (.ref f5)))(l5:K.lookup f5=some ⟨oc5,od5,.func (c5z "_law_whole" "_law_whole" (a1a a5o) (a0x a5o) (a0f a5o) .none kV5 dc5 pm5 an5 cd5 ct5),sl5⟩)(c5:c5x K cd5 "_law_whole" = true)(k5:c5w K (.ref f5)=true)(a6:c5s K mainGlobals "_law_is_share" = some (some (.ref f6)))(l6:K.lookup f6=some ⟨oc6,od6,.func (c5z "_law_is_share" "_law_is_share" (a1a a3t) (a0x a3t) (a0f a3t) .none kV6 dc6 pm6 an6 cd6 ct6),sl6⟩)(c6:c5x K cd6 "_law_is_share" = true)(k6:c5w K (.ref f6)=true)(a7:c5s K mainGlobals "_law_is_line" = some (some (.ref f7)))(l7:K.lookup f7=some ⟨oc7,od7,.func (c5z "_law_is_line" "_law_is_line" (a1a a4c) (a0x a4c) (a0f a4c) .none kV7 dc7 pm7 an7 cd7 ct7),sl7⟩)(c7:c5x K cd7 "_law_is_line" = true)(k7:c5w K (.ref f7)=true)(a8:c5s K mainGlobals "_law_mean" = some (some (.ref f8)))(l8:K.lookup f8=some ⟨oc8,od8,.func (c5z "_law_mean" "_law_mean" (a1a a6s) (a0x a6s) (a0f a6s) .none kV8 dc8 pm8 an8 cd8 ct8),sl8⟩)(c8:c5x K cd8 "_law_mean" = true)(k8:c5w K (.ref f8)=true)(a9:c5s K mainGlobals "_law_kind" = some (some (.ref f9)))(l9:K.lookup f9=some ⟨oc9,od9,.func (c5z "_law_kind" "_law_kind" (a1a a6t) (a0x a6t) (a0f a6t) .none kV9 dc9 pm9 an9 cd9 ct9),sl9⟩)(c9:c5x K cd9 "_law_kind" = true)(k9:c5w K (.ref f9)=true)(a10:c5s K mainGlobals "_law_halved" = some (some (.ref f10)))(l10:K.lookup f10=some ⟨oc10,od10,.func (c5z "_law_halved" "_law_halved" (a1a a4d) (a0x a4d) (a0f a4d) .none kV10 dc10 pm10 an10 cd10 ct10),sl10⟩)(c10:c5x K cd10 "_law_halved" = true)(k10:c5w K (.ref f10)=true)(a11:c5s K mainGlobals "_law_whole_seats" = some (some (.ref f11)))(l11:K.lookup f11=some ⟨oc11,od11,.func (c5z "_law_whole_seats" "_law_whole_seats" (a1a a2e) (a0x a2e) (a0f a2e) .none kV11 dc11 pm11 an11 cd11 ct11),sl11⟩)(c11:c5x K cd11 "_law_whole_seats" = true)(k11:c5w K (.ref f11)=true)(a12:c5s K mainGlobals "_law_stretches" = some (some (.ref f12)))(l12:K.lookup f12=some ⟨oc12,od12,.func (c5z "_law_stretches" "_law_stretches" (a1a a2w) (a0x a2w) (a0f a2w) .none kV12 dc12 pm12 an12 cd12 ct12),sl12⟩)(c12:c5x K cd12 "_law_stretches" = true)(k12:c5w K (.ref f12)=true)(a13:c5s K mainGlobals "greatest_common" = some (some (.ref f13)))(l13:K.lookup f13=some ⟨oc13,od13,.func (c5z "greatest_common" "greatest_common" (a1a a2c) (a0x a2c) (a0f a2c) .none kV13 dc13 pm13 an13 cd13 ct13),sl13⟩)(c13:c5x K cd13 "greatest_common" = true)(k13:c5w K (.ref f13)=true)(a14:c5s K mainGlobals "common_bottoms" = some (some (.ref f14)))(l14:K.lookup f14=some ⟨oc14,od14,.func (c5z "common_bottoms" "common_bottoms" (a1a a2i) (a0x a2i) (a0f a2i) .none kV14 dc14 pm14 an14 cd14 ct14),sl14⟩)(c14:c5x K cd14 "common_bottoms" = true)(k14:c5w K (.ref f14)=true)(a15:c5s K mainGlobals "product" = some (some (.ref f15)))(l15:K.lookup f15=some ⟨oc15,od15,.func (c5z "product" "product" (a1a a5m) (a0x a5m) (a0f a5m) .none kV15 dc15 pm15 an15 cd15 ct15),sl15⟩)(c15:c5x K cd15 "product" = true)(k15:c5w K (.ref f15)=true)(a16:c5s K mainGlobals "axis" = some (some (.ref f16)))(l16:K.lookup f16=some ⟨oc16,od16,.func (c5z "axis" "axis" (a1a b0p) (a0x b0p) (a0f b0p) .none kV16 dc16 pm16 an16 cd16 ct16),sl16⟩)(c16:c5x K cd16 "axis" = true)(k16:c5w K (.ref f16)=true)(a17:c5s K mainGlobals "axes" = some (some (.ref f17)))(l17:K.lookup f17=some ⟨oc17,od17,.func (c5z "axes" "axes" (a1a a9f) (a0x a9f) (a0f a9f) .none kV17 dc17 pm17 an17 cd17 ct17),sl17⟩)(c17:c5x K cd17 "axes" = true)(k17:c5w K (.ref f17)=true)(a18:c5s K mainGlobals "room_for" = some (some (.ref f18)))(l18:K.lookup f18=some ⟨oc18,od18,.func (c5z "room_for" "room_for" (a1a a4s) (a0x a4s) (a0f a4s) .none kV18 dc18 pm18 an18 cd18 ct18),sl18⟩)(c18:c5x K cd18 "room_for" = true)(k18:c5w K (.ref f18)=true)(a19:c5s K mainGlobals "whole_curve" = some (some (.ref f19)))(l19:K.lookup f19=some ⟨oc19,od19,.func (c5z "whole_curve" "whole_curve" (a1a a2u) (a0x a2u) (a0f a2u) .none kV19 dc19 pm19 an19 cd19 ct19),sl19⟩)(c19:c5x K cd19 "whole_curve" = true)(k19:c5w K (.ref f19)=true)(a20:c7h K (.ref C_Ground) "__init__" = some (some (.ref f20)))(i20:d1e K (.ref f20)=true)(l20:K.lookup f20=some ⟨oc20,od20,.func (c5z "__init__" "Ground.__init__" (a1a a2d) (a0x a2d) (a0f a2d) .none kV20 dc20 pm20 an20 cd20 ct20),sl20⟩)(c20:c5x K cd20 "Ground.__init__" = true)(k20:c5w K (.ref f20)=true)(a21:c5s K mainGlobals "halves" = some (some (.ref f21)))(l21:K.lookup f21=some ⟨oc21,od21,.func (c5z "halves" "halves" (a1a a5v) (a0x a5v) (a0f a5v) .none kV21 dc21 pm21 an21 cd21 ct21),sl21⟩)(c21:c5x K cd21 "halves" = true)(k21:c5w K (.ref f21)=true)(a22:c5s K mainGlobals "halved" = some (some (.ref f22)))(l22:K.lookup f22=some ⟨oc22,od22,.func (c5z "halved" "halved" (a1a a5w) (a0x a5w) (a0f a5w) .none kV22 dc22 pm22 an22 cd22 ct22),sl22⟩)(c22:c5x K cd22 "halved" = true)(k22:c5w K (.ref f22)=true)(a23:c7h K (.ref C_Ground) "go_down" = some (some (.ref f23)))(i23:d1e K (.ref f23)=true)(l23:K.lookup f23=some ⟨oc23,od23,.func (c5z "go_down" "Ground.go_down" (a1a a2j) (a0x a2j) (a0f a2j) .none kV23 dc23 pm23 an23 cd23 ct23),sl23⟩)(c23:c5x K cd23 "Ground.go_down" = true)(k23:c5w K (.ref f23)=true)(a24:c5s K mainGlobals "pairs_below" = some (some (.ref f24)))(l24:K.lookup f24=some ⟨oc24,od24,.func (c5z "pairs_below" "pairs_below" (a1a a2v) (a0x a2v) (a0f a2v) .none kV24 dc24 pm24 an24 cd24 ct24),sl24⟩)(c24:c5x K cd24 "pairs_below" = true)(k24:c5w K (.ref f24)=true)(a25:c5s K mainGlobals "along" = some (some (.ref f25)))(l25:K.lookup f25=some ⟨oc25,od25,.func (c5z "along" "along" (a1a a7d) (a0x a7d) (a0f a7d) .none kV25 dc25 pm25 an25 cd25 ct25),sl25⟩)(c25:c5x K cd25 "along" = true)(k25:c5w K (.ref f25)=true)(a26:c5s K mainGlobals "step_across" = some (some (.ref f26)))(l26:K.lookup f26=some ⟨oc26,od26,.func (c5z "step_across" "step_across" (a1a a3l) (a0x a3l) (a0f a3l) .none kV26 dc26 pm26 an26 cd26 ct26),sl26⟩)(c26:c5x K cd26 "step_across" = true)(k26:c5w K (.ref f26)=true)(a27:c5s K mainGlobals "reach" = some (some (.ref f27)))(l27:K.lookup f27=some ⟨oc27,od27,.func (c5z "reach" "reach" (a1a a8q) (a0x a8q) (a0f a8q) .none kV27 dc27 pm27 an27 cd27 ct27),sl27⟩)(c27:c5x K cd27 "reach" = true)(k27:c5w K (.ref f27)=true)(a28:c5s K mainGlobals "turn_between" = some (some (.ref f28)))(l28:K.lookup f28=some ⟨oc28,od28,.func (c5z "turn_between" "turn_between" (a1a a3b) (a0x a3b) (a0f a3b) .none kV28 dc28 pm28 an28 cd28 ct28),sl28⟩)(c28:c5x K cd28 "turn_between" = true)(k28:c5w K (.ref f28)=true)(a29:c5s K mainGlobals "way_amid" = some (some (.ref f29)))(l29:K.lookup f29=some ⟨oc29,od29,.func (c5z "way_amid" "way_amid" (a1a a4r) (a0x a4r) (a0f a4r) .none kV29 dc29 pm29 an29 cd29 ct29),sl29⟩)(c29:c5x K cd29 "way_amid" = true)(k29:c5w K (.ref f29)=true)(a30:c5s K mainGlobals "parted" = some (some (.ref f30)))(l30:K.lookup f30=some ⟨oc30,od30,.func (c5z "parted" "parted" (a1a a6q) (a0x a6q) (a0f a6q) .none kV30 dc30 pm30 an30 cd30 ct30),sl30⟩)(c30:c5x K cd30 "parted" = true)(k30:c5w K (.ref f30)=true)(a31:c5s K mainGlobals "share" = some (some (.ref f31)))(l31:K.lookup f31=some ⟨oc31,od31,.func (c5z "share" "share" (a1a a8p) (a0x a8p) (a0f a8p) .none kV31 dc31 pm31 an31 cd31 ct31),sl31⟩)(c31:c5x K cd31 "share" = true)(k31:c5w K (.ref f31)=true)(a32:c5s K mainGlobals "told_line" = some (some (.ref f32)))(l32:K.lookup f32=some ⟨oc32,od32,.func (c5z "told_line" "told_line" (a1a a4b) (a0x a4b) (a0f a4b) .none kV32 dc32 pm32 an32 cd32 ct32),sl32⟩)(c32:c5x K cd32 "told_line" = true)(k32:c5w K (.ref f32)=true)(a33:c5s K mainGlobals "sifted" = some (some (.ref f33)))(l33:K.lookup f33=some ⟨oc33,od33,.func (c5z "sifted" "sifted" (a1a a6p) (a0x a6p) (a0f a6p) .none kV33 dc33 pm33 an33 cd33 ct33),sl33⟩)(c33:c5x K cd33 "sifted" = true)(k33:c5w K (.ref f33)=true)(a34:c5s K mainGlobals "meets" = some (some (.ref f34)))(l34:K.lookup f34=some ⟨oc34,od34,.func (c5z "meets" "meets" (a1a a6e) (a0x a6e) (a0f a6e) .none kV34 dc34 pm34 an34 cd34 ct34),sl34⟩)(c34:c5x K cd34 "meets" = true)(k34:c5w K (.ref f34)=true)(a35:c5s K mainGlobals "times_to_nought" = some (some (.ref f35)))(l35:K.lookup f35=some ⟨oc35,od35,.func (c5z "times_to_nought" "times_to_nought" (a1a a2b) (a0x a2b) (a0f a2b) .none kV35 dc35 pm35 an35 cd35 ct35),sl35⟩)(c35:c5x K cd35 "times_to_nought" = true)(k35:c5w K (.ref f35)=true)(a36:c5s K mainGlobals "whole_places" = some (some (.ref f36)))(l36:K.lookup f36=some ⟨oc36,od36,.func (c5z "whole_places" "whole_places" (a1a a3a) (a0x a3a) (a0f a3a) .none kV36 dc36 pm36 an36 cd36 ct36),sl36⟩)(c36:c5x K cd36 "whole_places" = true)(k36:c5w K (.ref f36)=true)(a37:c5s K mainGlobals "common_shares" = some (some (.ref f37)))(l37:K.lookup f37=some ⟨oc37,od37,.func (c5z "common_shares" "common_shares" (a1a a1m) (a0x a1m) (a0f a1m) .none kV37 dc37 pm37 an37 cd37 ct37),sl37⟩)(c37:c5x K cd37 "common_shares" = true)(k37:c5w K (.ref f37)=true)(a38:c5s K mainGlobals "parting" = some (some (.ref f38)))(l38:K.lookup f38=some ⟨oc38,od38,.func (c5z "parting" "parting" (a1a a5n) (a0x a5n) (a0f a5n) .none kV38 dc38 pm38 an38 cd38 ct38),sl38⟩)(c38:c5x K cd38 "parting" = true)(k38:c5w K (.ref f38)=true)(a39:c5s K mainGlobals "law" = some (some (.ref f39)))(l39:K.lookup f39=some ⟨oc39,od39,.func (c5z "law" "law" (a1a b0o) (a0x b0o) (a0f b0o) .none kV39 dc39 pm39 an39 cd39 ct39),sl39⟩)(c39:c5x K cd39 "law" = true)(k39:c5w K (.ref f39)=true)(z_len:c5s K mainGlobals "len" = some none)(z_abs:c5s K mainGlobals "abs" = some none)(z_range:c5s K mainGlobals "range" = some none)(z_max:c5s K mainGlobals "max" = some none)(z_min:c5s K mainGlobals "min" = some none)(z_any:c5s K mainGlobals "any" = some none)(z_all:c5s K mainGlobals "all" = some none)(z_sum:c5s K mainGlobals "sum" = some none)(z_isinstance:c5s K mainGlobals "isinstance" = some none)(z_int:c5s K mainGlobals "int" = some none)(z_bool:c5s K mainGlobals "bool" = some none)(z_tuple:c5s K mainGlobals "tuple" = some none)(z_list:c5s K mainGlobals "list" = some none)(z_str:c5s K mainGlobals "str" = some none)(z_ValueError:c5s K mainGlobals "ValueError" = some none)(z_zip:c5s K mainGlobals "zip" = some none)(z_reversed:c5s K mainGlobals "reversed" = some none)(z_enumerate:c5s K mainGlobals "enumerate" = some none)(z_sorted:c5s K mainGlobals "sorted" = some none)(z_dict:c5s K mainGlobals "dict" = some none){C_SeatError C_TooMany:Addr}(a_SeatError:c5s K mainGlobals "SeatError" = some (some (.ref C_SeatError)))(a_TooMany:c5s K mainGlobals "TooMany" = some (some (.ref C_TooMany))){nm_TooMany q_TooMany:Str}{N_TooMany:Addr}{bs_TooMany bm_TooMany:List Value}{hd_TooMany:Bool}{sn_TooMany:List Str}{sub_TooMany:List Value}{ab_TooMany:Bool}{col_TooMany:Option Bool}{dd_TooMany:Option Addr}{k0_TooMany k1_TooMany k2_TooMany k3_TooMany k5_TooMany:Option Value}(l_TooMany:K.lookup C_TooMany=some (excClassObj nm_TooMany q_TooMany C_TooMany N_TooMany bs_TooMany bm_TooMany hd_TooMany sn_TooMany sub_TooMany ab_TooMany col_TooMany dd_TooMany k0_TooMany k1_TooMany k2_TooMany k3_TooMany k5_TooMany "ValueError.__new__"))(n_TooMany:PySem.W.nsOkIn K N_TooMany=true)(i_TooMany:c5s K N_TooMany "__init__" = some none)(t_TooMany:PySem.W.tailIn K mroV bm_TooMany=true)(m_TooMany:PySem.W.exmOne K (.ref C_TooMany) (.ref C_SeatError)=some true)(v_TooMany:c8q K (.ref C_TooMany) (.type "ValueError")=some true){t_MOST_PAIRS:Tok}(a_MOST_PAIRS:c5s K mainGlobals "MOST_PAIRS" = some (some (.int 256 t_MOST_PAIRS))){A_PLAIN_WAYS B1_PLAIN_WAYS B2_PLAIN_WAYS B3_PLAIN_WAYS B4_PLAIN_WAYS:Addr}{d0_PLAIN_WAYS d1_PLAIN_WAYS d2_PLAIN_WAYS d3_PLAIN_WAYS d4_PLAIN_WAYS:Option Addr}{s0_PLAIN_WAYS s1_PLAIN_WAYS s2_PLAIN_WAYS s3_PLAIN_WAYS s4_PLAIN_WAYS:Array (Option Value)}{n0_PLAIN_WAYS n1_PLAIN_WAYS n2_PLAIN_WAYS n3_PLAIN_WAYS n4_PLAIN_WAYS:Nat}{t1_PLAIN_WAYS t2_PLAIN_WAYS t3_PLAIN_WAYS t4_PLAIN_WAYS t5_PLAIN_WAYS t6_PLAIN_WAYS t7_PLAIN_WAYS t8_PLAIN_WAYS:Tok}(a_PLAIN_WAYS:c5s K mainGlobals "PLAIN_WAYS" = some (some (.ref A_PLAIN_WAYS)))(lA_PLAIN_WAYS:K.lookup A_PLAIN_WAYS=some ⟨.type "tuple",d0_PLAIN_WAYS,.seq #[.ref B1_PLAIN_WAYS,.ref B2_PLAIN_WAYS,.ref B3_PLAIN_WAYS,.ref B4_PLAIN_WAYS] n0_PLAIN_WAYS,s0_PLAIN_WAYS⟩)(l1_PLAIN_WAYS:K.lookup B1_PLAIN_WAYS=some ⟨.type "tuple",d1_PLAIN_WAYS,.seq #[.int (1) t1_PLAIN_WAYS,.int (0) t2_PLAIN_WAYS] n1_PLAIN_WAYS,s1_PLAIN_WAYS⟩)(l2_PLAIN_WAYS:K.lookup B2_PLAIN_WAYS=some ⟨.type "tuple",d2_PLAIN_WAYS,.seq #[.int (-1) t3_PLAIN_WAYS,.int (0) t4_PLAIN_WAYS] n2_PLAIN_WAYS,s2_PLAIN_WAYS⟩)(l3_PLAIN_WAYS:K.lookup B3_PLAIN_WAYS=some ⟨.type "tuple",d3_PLAIN_WAYS,.seq #[.int (0) t5_PLAIN_WAYS,.int (1) t6_PLAIN_WAYS] n3_PLAIN_WAYS,s3_PLAIN_WAYS⟩)(l4_PLAIN_WAYS:K.lookup B4_PLAIN_WAYS=some ⟨.type "tuple",d4_PLAIN_WAYS,.seq #[.int (0) t7_PLAIN_WAYS,.int (-1) t8_PLAIN_WAYS] n4_PLAIN_WAYS,s4_PLAIN_WAYS⟩)
   : ∃ fd:FuncData,(∀ (s:Shared) (v:Value),BindsTo s fd ⟨[v],[]⟩ [("_law_script",v)])∧∀ (P:Program) (base:Heap),K.In base→base.Ns mainGlobals mg→FnOk P w K mg base CX0 8 fa fd ["_law_script"] ((spLaw K)):=by
 have e:=hfa.symm.trans (c6a KX GN a39);cases e;have B:Blt mg:=⟨c6t KX GN z_len,c6t KX GN z_abs,c6t KX GN z_range,c6t KX GN z_max,c6t KX GN z_min,c6t KX GN z_any,c6t KX GN z_all,c6t KX GN z_sum,c6t KX GN z_isinstance,c6t KX GN z_int,c6t KX GN z_bool,c6t KX GN z_tuple,c6t KX GN z_list,c6t KX GN z_str,c6t KX GN z_ValueError,c6t KX GN z_zip,c6t KX GN z_reversed,c6t KX GN z_enumerate,c6t KX GN z_sorted,c6t KX GN z_dict⟩
 have X:Exc K mg C_SeatError C_TooMany:=⟨c6a KX GN a_SeatError,c6a KX GN a_TooMany,⟨c6a KX GN a_TooMany,_,_,_,_,_,_,_,_,_,_,_,_,_,_,_,_,l_TooMany,n_TooMany,i_TooMany,t_TooMany⟩,m_TooMany,v_TooMany⟩
 have G:Cst K mg A_PLAIN_WAYS B1_PLAIN_WAYS B2_PLAIN_WAYS B3_PLAIN_WAYS B4_PLAIN_WAYS t_MOST_PAIRS:=⟨c6a KX GN a_MOST_PAIRS,c6a KX GN a_PLAIN_WAYS,fun _=>kFour lA_PLAIN_WAYS,fun _=>⟨kPair l1_PLAIN_WAYS,kPair l2_PLAIN_WAYS,kPair l3_PLAIN_WAYS,kPair l4_PLAIN_WAYS⟩⟩
 have T_Ground:ClsK K mg "Ground" C_Ground:=⟨⟨pg_Ground,hd_Ground,po_Ground,sa_Ground⟩,mk_Ground,kc_Ground,c6a KX GN aC_Ground⟩
 have F0:a0q K mg "_law_cell_at" a4e ["_law_script","_law_k"]:=a0q.mk' (c6a KX GN a0) l0 c0 k0 fun _ _ _ _ _ _ us hl=>uln2 (fun _ _=>rfl) us hl;have F1:a0q K mg "_law_part" a6r ["_law_one","_law_other"]:=a0q.mk' (c6a KX GN a1) l1 c1 k1 fun _ _ _ _ _ _ us hl=>uln2 (fun _ _=>rfl) us hl;have F2:a0q K mg "_law_share" a5p ["_law_top","_law_bottom"]:=a0q.mk' (c6a KX GN a2) l2 c2 k2 fun _ _ _ _ _ _ us hl=>uln2 (fun _ _=>rfl) us hl;have F3:a0q K mg "_law_stream" a4t ["_law_cell","_law_place"]:=a0q.mk' (c6a KX GN a3) l3 c3 k3 fun _ _ _ _ _ _ us hl=>uln2 (fun _ _=>rfl) us hl;have F4:a0q K mg "_law_drawn_two" a3m ["_law_script","_law_most"]:=a0q.mk' (c6a KX GN a4) l4 c4 k4 fun _ _ _ _ _ _ us hl=>uln2 (fun _ _=>rfl) us hl;have F5:a0q K mg "_law_whole" a5o ["_law_found"]:=a0q.mk' (c6a KX GN a5) l5 c5 k5 fun _ _ _ _ _ _ us hl=>uln1 (fun _=>rfl) us hl;have F6:a0q K mg "_law_is_share" a3t ["_law_found"]:=a0q.mk' (c6a KX GN a6) l6 c6 k6 fun _ _ _ _ _ _ us hl=>uln1 (fun _=>rfl) us hl;have F7:a0q K mg "_law_is_line" a4c ["_law_told","_law_some","_law_others"]:=a0q.mk' (c6a KX GN a7) l7 c7 k7 fun _ _ _ _ _ _ us hl=>uln3 (fun _ _ _=>rfl) us hl;have F8:a0q K mg "_law_mean" a6s ["_law_parts","_law_places"]:=a0q.mk' (c6a KX GN a8) l8 c8 k8 fun _ _ _ _ _ _ us hl=>uln2 (fun _ _=>rfl) us hl;have F9:a0q K mg "_law_kind" a6t ["_law_told","_law_some","_law_others"]:=a0q.mk' (c6a KX GN a9) l9 c9 k9 fun _ _ _ _ _ _ us hl=>uln3 (fun _ _ _=>rfl) us hl;have F10:a0q K mg "_law_halved" a4d ["_law_some"]:=a0q.mk' (c6a KX GN a10) l10 c10 k10 fun _ _ _ _ _ _ us hl=>uln1 (fun _=>rfl) us hl;have F11:a0q K mg "_law_whole_seats" a2e ["_law_curve"]:=a0q.mk' (c6a KX GN a11) l11 c11 k11 fun _ _ _ _ _ _ us hl=>uln1 (fun _=>rfl) us hl;have F12:a0q K mg "_law_stretches" a2w ["_law_curve","_law_level"]:=a0q.mk' (c6a KX GN a12) l12 c12 k12 fun _ _ _ _ _ _ us hl=>uln2 (fun _ _=>rfl) us hl;have F13:a0q K mg "greatest_common" a2c ["one","other"]:=a0q.mk' (c6a KX GN a13) l13 c13 k13 fun _ _ _ _ _ _ us hl=>uln2 (fun _ _=>rfl) us hl;have F14:a0q K mg "common_bottoms" a2i ["shares"]:=a0q.mk' (c6a KX GN a14) l14 c14 k14 fun _ _ _ _ _ _ us hl=>uln1 (fun _=>rfl) us hl;have F15:a0q K mg "product" a5m ["numbers"]:=a0q.mk' (c6a KX GN a15) l15 c15 k15 fun _ _ _ _ _ _ us hl=>uln1 (fun _=>rfl) us hl;have F16:a0q K mg "axis" b0p ["shares"]:=a0q.mk' (c6a KX GN a16) l16 c16 k16 fun _ _ _ _ _ _ us hl=>uln1 (fun _=>rfl) us hl;have F17:a0q K mg "axes" a9f ["points"]:=a0q.mk' (c6a KX GN a17) l17 c17 k17 fun _ _ _ _ _ _ us hl=>uln1 (fun _=>rfl) us hl;have F18:a0q K mg "room_for" a4s ["seats","level"]:=a0q.mk' (c6a KX GN a18) l18 c18 k18 fun _ _ _ _ _ _ us hl=>uln2 (fun _ _=>rfl) us hl;have F19:a0q K mg "whole_curve" a2u ["xs","ys","room"]:=a0q.mk' (c6a KX GN a19) l19 c19 k19 fun _ _ _ _ _ _ us hl=>uln3 (fun _ _ _=>rfl) us hl;have F20:b4k K C_Ground "__init__" "Ground.__init__" a2d ["self","one","other","level"]:=b4k.mk' a20 i20 l20 c20 k20 fun _ _ _ _ _ _ us hl=>uln4 (fun _ _ _ _=>rfl) us hl;have F21:a0q K mg "halves" a5v ["curve"]:=a0q.mk' (c6a KX GN a21) l21 c21 k21 fun _ _ _ _ _ _ us hl=>uln1 (fun _=>rfl) us hl;have F22:a0q K mg "halved" a5w ["curves"]:=a0q.mk' (c6a KX GN a22) l22 c22 k22 fun _ _ _ _ _ _ us hl=>uln1 (fun _=>rfl) us hl;have F23:b4k K C_Ground "go_down" "Ground.go_down" a2j ["self"]:=b4k.mk' a23 i23 l23 c23 k23 fun _ _ _ _ _ _ us hl=>uln1 (fun _=>rfl) us hl;have F24:a0q K mg "pairs_below" a2v ["pairs"]:=a0q.mk' (c6a KX GN a24) l24 c24 k24 fun _ _ _ _ _ _ us hl=>uln1 (fun _=>rfl) us hl;have F25:a0q K mg "along" a7d ["places","way"]:=a0q.mk' (c6a KX GN a25) l25 c25 k25 fun _ _ _ _ _ _ us hl=>uln2 (fun _ _=>rfl) us hl;have F26:a0q K mg "step_across" a3l ["ones","others","i","j"]:=a0q.mk' (c6a KX GN a26) l26 c26 k26 fun _ _ _ _ _ _ us hl=>uln4 (fun _ _ _ _=>rfl) us hl;have F27:a0q K mg "reach" a8q ["ones","others","way"]:=a0q.mk' (c6a KX GN a27) l27 c27 k27 fun _ _ _ _ _ _ us hl=>uln3 (fun _ _ _=>rfl) us hl;have F28:a0q K mg "turn_between" a3b ["one","other"]:=a0q.mk' (c6a KX GN a28) l28 c28 k28 fun _ _ _ _ _ _ us hl=>uln2 (fun _ _=>rfl) us hl;have F29:a0q K mg "way_amid" a4r ["right","left"]:=a0q.mk' (c6a KX GN a29) l29 c29 k29 fun _ _ _ _ _ _ us hl=>uln2 (fun _ _=>rfl) us hl;have F30:a0q K mg "parted" a6q ["ones","others"]:=a0q.mk' (c6a KX GN a30) l30 c30 k30 fun _ _ _ _ _ _ us hl=>uln2 (fun _ _=>rfl) us hl;have F31:a0q K mg "share" a8p ["top","bottom"]:=a0q.mk' (c6a KX GN a31) l31 c31 k31 fun _ _ _ _ _ _ us hl=>uln2 (fun _ _=>rfl) us hl;have F32:a0q K mg "told_line" a4b ["line","x_bottom","y_bottom","room"]:=a0q.mk' (c6a KX GN a32) l32 c32 k32 fun _ _ _ _ _ _ us hl=>uln4 (fun _ _ _ _=>rfl) us hl;have F33:a0q K mg "sifted" a6p ["ground","pairs"]:=a0q.mk' (c6a KX GN a33) l33 c33 k33 fun _ _ _ _ _ _ us hl=>uln2 (fun _ _=>rfl) us hl;have F34:a0q K mg "meets" a6e ["one","other","level"]:=a0q.mk' (c6a KX GN a34) l34 c34 k34 fun _ _ _ _ _ _ us hl=>uln3 (fun _ _ _=>rfl) us hl;have F35:a0q K mg "times_to_nought" a2b ["steps"]:=a0q.mk' (c6a KX GN a35) l35 c35 k35 fun _ _ _ _ _ _ us hl=>uln1 (fun _=>rfl) us hl;have F36:a0q K mg "whole_places" a3a ["points"]:=a0q.mk' (c6a KX GN a36) l36 c36 k36 fun _ _ _ _ _ _ us hl=>uln1 (fun _=>rfl) us hl;have F37:a0q K mg "common_shares" a1m ["one","other","steps"]:=a0q.mk' (c6a KX GN a37) l37 c37 k37 fun _ _ _ _ _ _ us hl=>uln3 (fun _ _ _=>rfl) us hl;have F38:a0q K mg "parting" a5n ["one","other"]:=a0q.mk' (c6a KX GN a38) l38 c38 k38 fun _ _ _ _ _ _ us hl=>uln2 (fun _ _=>rfl) us hl;have F39:a0q K mg "law" b0o ["_law_script"]:=a0q.mk' (c6a KX GN a39) l39 c39 k39 fun _ _ _ _ _ _ us hl=>uln1 (fun _=>rfl) us hl;refine⟨c5z "law" "law" (a1a b0o) (a0x b0o) (a0f b0o) .none kV39 dc39 pm39 an39 cd39 ct39,fun s v=>.of_eq rfl,fun P base _ _=>?_⟩;have D0:=b5g (P:=P) (w:=w) (base:=base) F0 B;have D1:=c2t (P:=P) (w:=w) (base:=base) F1;have D2:=c0c (P:=P) (w:=w) (base:=base) F2 B D1;have D3:=b6x (P:=P) (w:=w) (base:=base) F3 B;have D4:=b2e (P:=P) (w:=w) (base:=base) F4 B D0 D2 D3;have D5:=c0b (P:=P) (w:=w) (base:=base) F5 B;have D6:=b3q (P:=P) (w:=w) (base:=base) F6 B D1 D5;have D7:=b5f (P:=P) (w:=w) (base:=base) F7 B D6;have D8:=c2u (P:=P) (w:=w) (base:=base) F8 B D2 D6;have D9:=c2v (P:=P) (w:=w) (base:=base) F9 B D7 D8;have D10:=b6y (P:=P) (w:=w) (base:=base) F10 B;have D11:=a9n (P:=P) (w:=w) (base:=base) F11 D1;have D12:=b2d (P:=P) (w:=w) (base:=base) F12 B D2 D10 D11;have D13:=a8b (P:=P) (w:=w) (base:=base) F13 B;have D14:=a8u (P:=P) (w:=w) (base:=base) F14 D13;have D15:=b9z (P:=P) (w:=w) (base:=base) F15;have D16:=ok_axis (P:=P) (w:=w) (base:=base) F16 D14 D15;have D17:=ok_axes (P:=P) (w:=w) (base:=base) F17 D16;have D18:=b6w (P:=P) (w:=w) (base:=base) F18;have D19:=b2a (P:=P) (w:=w) (base:=base) F19 B;have D20:=a8c (P:=P) (w:=w) (base:=base) T_Ground nA_Ground_room nA_Ground_x_bottoms nA_Ground_y_bottoms nA_Ground_ones nA_Ground_others F20 B D17 D18 D19;have D21:=c2w (P:=P) (w:=w) (base:=base) F21 B;have D22:=c2x (P:=P) (w:=w) (base:=base) F22 D21;have D23:=a8v (P:=P) (w:=w) (base:=base) T_Ground nA_Ground_room nA_Ground_x_bottoms nA_Ground_y_bottoms nA_Ground_ones nA_Ground_others F23 D22;have D24:=b2c (P:=P) (w:=w) (base:=base) F24 B;have D25:=ok_along (P:=P) (w:=w) (base:=base) F25;have D26:=b2b (P:=P) (w:=w) (base:=base) F26;have D27:=ok_reach (P:=P) (w:=w) (base:=base) F27 B D25 D26;have D28:=b0x (P:=P) (w:=w) (base:=base) F28;have D29:=b6v (P:=P) (w:=w) (base:=base) F29;have D30:=c2s (P:=P) (w:=w) (base:=base) F30 G D26 D27 D28 D29;have D31:=ok_share (P:=P) (w:=w) (base:=base) F31 D13;have D32:=b5e (P:=P) (w:=w) (base:=base) F32 D31;have D33:=c2r (P:=P) (w:=w) (base:=base) T_Ground nA_Ground_room nA_Ground_x_bottoms nA_Ground_y_bottoms nA_Ground_ones nA_Ground_others F33 B G D15 D30 D32;have D34:=ok_meets (P:=P) (w:=w) (base:=base) T_Ground nA_Ground_room nA_Ground_x_bottoms nA_Ground_y_bottoms nA_Ground_ones nA_Ground_others F34 B G D20 D23 D24 D33;have D35:=a8a (P:=P) (w:=w) (base:=base) F35 B D28;have D36:=b0w (P:=P) (w:=w) (base:=base) F36 B D17;have D37:=a9o (P:=P) (w:=w) (base:=base) F37 B D26 D31 D35 D36;have D38:=c0a (P:=P) (w:=w) (base:=base) F38 B D15 D17 D30 D32 D37;have D39:=ok_law (P:=P) (w:=w) (base:=base) F39 B D0 D4 D9 D12 D34 D38;exact D39.law l39 (c6a KX GN a39)
end Cv
open PySem PySem.W PyProof.Rows
set_option maxHeartbeats 0 in
theorem PySem.Challenge.cw_curveseat_k62_lines_and_common_points_holds : PySem.Challenge.rw_curveseat_k62_lines_and_common_points.Holds := by
 w_on;o_law;k_head;(case hw=>w_witness2)
 k_fill
 refine Cv.walk (l:=PySem.Challenge.rw_curveseat_k62_lines_and_common_points) (k:=8) (x := "_law_script") (CX:=L2.CX0) (sp:=fun K=>(Cv.spLaw K)) rfl rfl ⟨rfl,by decide,by decide⟩ (fun w h Y=>PySem.W.kIn_of Y) ?F (fun K H a ns h1 h2 h3=>⟨a,ns,rfl,h3,h1,fun _=>rfl⟩) (fun _ _ _ _ z=>z)
 case F=>
   intro w mg fa h KX G hmg;refine' Cv.all_mk KX G hmg ?aC_Ground ?pg_Ground ?hd_Ground ?po_Ground ?sa_Ground ?mk_Ground ?kc_Ground ?nA_Ground_room ?nA_Ground_x_bottoms ?nA_Ground_y_bottoms ?nA_Ground_ones ?nA_Ground_others ?a0 ?l0 ?c0 ?k0 ?a1 ?l1 ?c1 ?k1 ?a2 ?l2 ?c2 ?k2 ?a3 ?l3 ?c3 ?k3 ?a4 ?l4 ?c4 ?k4 ?a5 ?l5 ?c5 ?k5 ?a6 ?l6 ?c6 ?k6 ?a7 ?l7 ?c7 ?k7 ?a8 ?l8 ?c8 ?k8 ?a9 ?l9 ?c9 ?k9 ?a10 ?l10 ?c10 ?k10 ?a11 ?l11 ?c11 ?k11 ?a12 ?l12 ?c12 ?k12 ?a13 ?l13 ?c13 ?k13 ?a14 ?l14 ?c14 ?k14 ?a15 ?l15 ?c15 ?k15 ?a16 ?l16 ?c16 ?k16 ?a17 ?l17 ?c17 ?k17 ?a18 ?l18 ?c18 ?k18 ?a19 ?l19 ?c19 ?k19 ?a20 ?i20 ?l20 ?c20 ?k20 ?a21 ?l21 ?c21 ?k21 ?a22 ?l22 ?c22 ?k22 ?a23 ?i23 ?l23 ?c23 ?k23 ?a24 ?l24 ?c24 ?k24 ?a25 ?l25 ?c25 ?k25 ?a26 ?l26 ?c26 ?k26 ?a27 ?l27 ?c27 ?k27 ?a28 ?l28 ?c28 ?k28 ?a29 ?l29 ?c29 ?k29 ?a30 ?l30 ?c30 ?k30 ?a31 ?l31 ?c31 ?k31 ?a32 ?l32 ?c32 ?k32 ?a33 ?l33 ?c33 ?k33 ?a34 ?l34 ?c34 ?k34 ?a35 ?l35 ?c35 ?k35 ?a36 ?l36 ?c36 ?k36 ?a37 ?l37 ?c37 ?k37 ?a38 ?l38 ?c38 ?k38 ?a39 ?l39 ?c39 ?k39 ?z_len ?z_abs ?z_range ?z_max ?z_min ?z_any ?z_all ?z_sum ?z_isinstance ?z_int ?z_bool ?z_tuple ?z_list ?z_str ?z_ValueError ?z_zip ?z_reversed ?z_enumerate ?z_sorted ?z_dict ?a_SeatError ?a_TooMany ?l_TooMany ?n_TooMany ?i_TooMany ?t_TooMany ?m_TooMany ?v_TooMany ?a_MOST_PAIRS ?a_PLAIN_WAYS ?lA_PLAIN_WAYS ?l1_PLAIN_WAYS ?l2_PLAIN_WAYS ?l3_PLAIN_WAYS ?l4_PLAIN_WAYS
   case aC_Ground | pg_Ground | hd_Ground | po_Ground | sa_Ground | mk_Ground | kc_Ground | nA_Ground_room | nA_Ground_x_bottoms | nA_Ground_y_bottoms | nA_Ground_ones | nA_Ground_others | a0 | l0 | c0 | k0 | a1 | l1 | c1 | k1 | a2 | l2 | c2 | k2 | a3 | l3 | c3 | k3 | a4 | l4 | c4 | k4 | a5 | l5 | c5 | k5 | a6 | l6 | c6 | k6 | a7 | l7 | c7 | k7 | a8 | l8 | c8 | k8 | a9 | l9 | c9 | k9 | a10 | l10 | c10 | k10 | a11 | l11 | c11 | k11 | a12 | l12 | c12 | k12 | a13 | l13 | c13 | k13 | a14 | l14 | c14 | k14 | a15 | l15 | c15 | k15 | a16 | l16 | c16 | k16 | a17 | l17 | c17 | k17 | a18 | l18 | c18 | k18 | a19 | l19 | c19 | k19 | a20 | i20 | l20 | c20 | k20 | a21 | l21 | c21 | k21 | a22 | l22 | c22 | k22 | a23 | i23 | l23 | c23 | k23 | a24 | l24 | c24 | k24 | a25 | l25 | c25 | k25 | a26 | l26 | c26 | k26 | a27 | l27 | c27 | k27 | a28 | l28 | c28 | k28 | a29 | l29 | c29 | k29 | a30 | l30 | c30 | k30 | a31 | l31 | c31 | k31 | a32 | l32 | c32 | k32 | a33 | l33 | c33 | k33 | a34 | l34 | c34 | k34 | a35 | l35 | c35 | k35 | a36 | l36 | c36 | k36 | a37 | l37 | c37 | k37 | a38 | l38 | c38 | k38 | a39 | l39 | c39 | k39 | z_len | z_abs | z_range | z_max | z_min | z_any | z_all | z_sum | z_isinstance | z_int | z_bool | z_tuple | z_list | z_str | z_ValueError | z_zip | z_reversed | z_enumerate | z_sorted | z_dict | a_SeatError | a_TooMany | l_TooMany=>k_is
   case n_TooMany=>kernel_rfl
   case i_TooMany=>k_is
   case t_TooMany=>kernel_rfl
   case m_TooMany=>kts_exm
   case v_TooMany=>kit_is
   case a_MOST_PAIRS | a_PLAIN_WAYS | lA_PLAIN_WAYS | l1_PLAIN_WAYS | l2_PLAIN_WAYS | l3_PLAIN_WAYS | l4_PLAIN_WAYS=>k_is
#print axioms PySem.Challenge.cw_curveseat_k62_lines_and_common_points_holds
