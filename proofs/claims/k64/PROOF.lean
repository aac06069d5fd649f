import PyProof.Rows.All
import Wide.All
import OpenK.AllK
import Wide.FinOn
import Lean
import PyProof.EqAt
import PyProof.EqKinds
import PyProof.TupleCall
import PySem.Challenge.RW_curveseat_k64_too_many
set_option compiler.extract_closed false
set_option genSizeOfSpec false
namespace PySem.W.Fast
def tw17873487596239895476:=()
def tw11716938759676123092:=()
def tw15435946332734145870:=()
def tw14544772154734351904:=()
def tw14355407276458360645:=()
def tw11053510270668344609:=()
def tw11438362492959300431:=()
def tw10144764020018827459:=()
def tw12859629446737488752:=()
def tw1034831099951840576:=()
def tw11027618067890710871:=()
def tw17583624462798496775:=()
def tw2701844998441699928:=()
def tw8320535709132774413:=()
def tw7046903573913746558:=()
def tw14537759788455540100:=()
def tw17640329981886897559:=()
def tw12171181809603867289:=()
def tw17844461478547105235:=()
def tw16310737639665631252:=()
def tw3897518536811583904:=()
def tw15415230916834524009:=()
def tw1072667412894568927:=()
def tw17136000497856773390:=()
def tw413628123728484314:=()
def tw13129663226900856184:=()
def tw11263098015976262863:=()
def tw4051583156429723142:=()
def tw17951351985767498291:=()
def tw15130139710076989349:=()
def tw4899087996126119392:=()
def tw13859712936922224029:=()
def tw16619316686960813382:=()
def tw12275297026613399263:=()
def tw15657735933605137736:=()
def tw1448651010337967121:=()
def tw8623491959501353590:=()
def tw13375840605391622531:=()
def tw12542381704268724175:=()
def tw10355616822742930610:=()
def tw9143921966723782941:=()
def tw6162671953549346746:=()
def tw6594031310846597134:=()
def tw2934990777312877530:=()
def tw8996408576453376923:=()
def tw7380180649125167150:=()
def tw3439270765238251984:=()
def tw6845629545825973373:=()
def tw5781599515862159971:=()
def tw10692127043418657568:=()
def tw9528504919047712806:=()
def tw14699796960246705543:=()
def tw3382553846436409685:=()
def tw2996318152235541467:=()
def tw2430401994708865960:=()
def tw14008493507400234050:=()
def tw8520038586429615540:=()
def tw14666072173596413689:=()
def tw9398075636830237093:=()
def tw11886001284543366990:=()
def tw16671129957385556320:=()
def tw4254630506812983356:=()
def tw1392478106964324677:=()
def tw16426997743206433984:=()
def tw7828295829528199051:=()
def tw18248705847388237376:=()
def tw13215343724108279070:=()
def tw2700411620422145072:=()
def tw15056335110428578565:=()
def tw10661274674671268411:=()
def tw17862989576059478163:=()
def tw17306053668201326647:=()
def tw17345567069521303723:=()
def tw16974388470444313681:=()
def tw14406591146023642003:=()
def tw7328024725669048547:=()
def tw8491107800510901050:=()
def tw9794420723076909507:=()
def tw1246946660462535903:=()
def tw3989991648062699992:=()
def tw13518905189661104726:=()
def tw14212629408344368711:=()
def tw1694916403704674025:=()
def tw12954167314568479669:=()
def tw5897336109460307865:=()
def tw7528326513419744924:=()
def tw8607164924772793788:=()
def tw33305205609737921:=()
def tw6255315010451387064:=()
def tw1243597245575665879:=()
def tw3534441513228368250:=()
def tw2425197156865756764:=()
def tw18193007811400920895:=()
def tw16886896898393782587:=()
def tw5726221051827491731:=()
def tw8732811472840637183:=()
def tw8327582506409596380:=()
def tw10515788640952781921:=()
def tw9083152285374864698:=()
def tw18140633371847140631:=()
def tw15483246010529849143:=()
def tw17868580269641788470:=()
def tw9990822909295929992:=()
def tw1039273311668624661:=()
def tw11824357345069390058:=()
def tw16391390329764836318:=()
def tw11724357416082263443:=()
def tw721801691771665487:=()
def tw13731327458320611674:=()
def tw14138169815678149751:=()
def tw18438412496692278589:=()
def tw16863770747397931275:=()
def tw3891315123979738841:=()
def tw9256240788950961255:=()
def tw5347270926974952423:=()
def tw2246752549457065810:=()
def tw9060236919782952741:=()
def tw1364167843329875533:=()
def tw1019347857298788793:=()
def tw8401018555831327448:=()
def tw1047176318597391857:=()
def tw15280267392086440794:=()
def tw11247828294535390489:=()
def tw3497174728632635473:=()
def tw6905704878400111962:=()
def tw15708909023977706473:=()
def tw810792476511592715:=()
def tw9212417049634361943:=()
def tw17765129480564406503:=()
def tw9017167871602405513:=()
def tw2646741330335045998:=()
def tw3128467767660571381:=()
def tw9621158529761532610:=()
def tw164463225111930432:=()
def tw4206154229783020960:=()
def tw2831141926959599729:=()
def tw7270539920688015974:=()
def tw2164505857814747042:=()
def tw5129115766185569583:=()
def tw6501923169937768016:=()
def tw16413861306566394894:=()
def tw6718055040829469010:=()
def tw10382507648361322726:=()
def tw10951993143858213682:=()
def tw12727101087900410190:=()
def tw8508545487274185242:=()
def tw17445685956629872892:=()
def tw5703704998437525350:=()
def tw15286600971141554675:=()
def tw9185783693097735988:=()
def tw8432940366914661404:=()
def tw14126679204182416935:=()
def tw5361572144860434924:=()
def tw11910605797445371477:=()
def tw18338535986648449819:=()
def tw13109620515743983306:=()
def tw17225324887707020232:=()
def tw13360235915761818583:=()
def tw7026120172513284121:=()
def tw3216077666971233047:=()
def tw16165550556374383389:=()
def tw3661264602059925562:=()
def tw17742537037602588975:=()
def tw13112292567243104848:=()
def tw16533243210284507966:=()
def tw12999258028144057640:=()
def tw15246370914506956120:=()
def tw1340691389477948030:=()
def tw9642273019774282727:=()
def tw15860704299617798799:=()
def tw7191044590103267651:=()
def tw2129437939717359909:=()
def tw16803524101499763373:=()
def tw8487774304836856974:=()
def tw10103196745091390259:=()
def tw16524187265654527597:=()
def tw2576880031962560748:=()
def tw1085894326141238725:=()
def tw13543857057582041216:=()
def tw915217372998471387:=()
def tw17512910288660044589:=()
def tw12814854689030868965:=()
def tw10758159664163414130:=()
def tw16925486802628571686:=()
def tw5623343288171337958:=()
def tw12559927451188980368:=()
def tw4108582148296401659:=()
def tw4381873722975613036:=()
def tw9689894499788812999:=()
def tw12760958984266458478:=()
def tw6898269023118958993:=()
def tw14865108639771050175:=()
def tw11585432932825746833:=()
def tw7496443129152404655:=()
def tw12401245654556577523:=()
def tw16813465302143457096:=()
def tw6397566913038196297:=()
def tw8259906029631567237:=()
def tw17433923721285397572:=()
def tw12765014653810289448:=()
def tw15364668832001327875:=()
def tw2564449543072062821:=()
def tw8484552057219195849:=()
def tw9997770679410634913:=()
def tw2920943419656031521:=()
def tw5286461011552400496:=()
def tw564829456507602139:=()
def tw16064955361346311543:=()
def tw5895664887753308618:=()
def tw2716626114842353132:=()
def tw8943922900397544713:=()
def tw15283614995479411442:=()
def tw8748790781670890008:=()
def tw5358366845733018100:=()
def tw10967125309406051795:=()
def tw13423343351391587468:=()
def tw2320276625357704164:=()
def tw4328679629445092653:=()
def tw13814691000615209924:=()
def tw9242993807569397957:=()
def tw12564337845997836979:=()
def tw11296702436723264401:=()
def tw5372020680144400739:=()
def tw15108670633867544190:=()
def tw10659699551863568310:=()
def tw14858181278973656200:=()
def tw6291562314058387121:=()
def tw14485698170196138034:=()
def tw4392415660757079044:=()
def tw15136980997886299277:=()
def tw8133408847134850535:=()
def tw17715628468002765518:=()
def tw4956114136881051087:=()
def tw2086460549423850032:=()
def tw8760406769925204251:=()
def tw4091752681335195187:=()
def tw15225334790646401897:=()
def tw18236088866481434091:=()
def tw11922916752743552912:=()
def tw4790682998455045247:=()
def tw11946553965168625754:=()
def tw8297388028248758013:=()
def tw17331904492799131552:=()
def tw8450257348516867418:=()
def tw11289921138984720794:=()
def tw17259380187955891393:=()
def tw16250812461115119903:=()
def tw17989911784380011621:=()
def tw9381653780560782929:=()
def tw6016902785453354526:=()
def tw13866021502794001639:=()
def tw10799559988493442634:=()
def tw10776622937215402126:=()
def tw2135373569564887444:=()
def tw16760345297577855924:=()
def tw6624304836358308534:=()
def tw6287810288184766496:=()
def tw7338807037978431946:=()
def tw2690057082568462790:=()
def tw7640662158079275407:=()
def tw10297935647706552745:=()
def tw17601094036801561068:=()
def tw7402712080638750815:=()
def tw17809898697476076324:=()
def tw16647277159368763502:=()
def tw425128952278841312:=()
def tw16014868606353053614:=()
def tw1704241128750302829:=()
def tw7929934372186965123:=()
def tw16425585728791504682:=()
def tw7288872657042666390:=()
def tw8278861144102385269:=()
def tw1162151640612982999:=()
def tw906715982437673817:=()
def tw2501380297822280211:=()
def tw15487213323988765708:=()
def tw15942347398303549896:=()
def tw7809159223201608206:=()
def tw10848233263020206232:=()
def tw4627885287775625712:=()
def tw12555465554943968735:=()
def tw9602034416835592437:=()
def tw4746698480481244000:=()
def tw620363351501768716:=()
def tw7777844842408646603:=()
def tw1941844940369422308:=()
def tw15715260945194050848:=()
def tw10023732277536283348:=()
def tw9919327681202649840:=()
def tw18699014819905493:=()
def tw10314052629855586131:=()
def tw2242456742446472800:=()
def tw13928934187999733766:=()
def tw12630369493073868471:=()
def tw12821483724435066746:=()
def tw7569369677460788769:=()
def tw4984197674321108536:=()
def tw3516308829901148604:=()
def tw12696333980566972735:=()
def tw12731019302260006382:=()
def tw3347302293251201705:=()
def tw9743918751884234946:=()
def tw17915230647442586661:=()
def tw15197208008724964061:=()
def tw8401519855166226307:=()
def tw6872634480565642950:=()
def tw17828461668129897808:=()
def tw14754678444321131567:=()
def tw26724449394636495:=()
def tw11417629068103469550:=()
def tw8702930825802082876:=()
def tw7131419189188498117:=()
def tw17683469827573276265:=()
def tw12576088579581418824:=()
def tw15681608879233825999:=()
def tw1709957981138315232:=()
def tw775213932962922983:=()
def tw14801589665166371435:=()
def tw9641049429861396348:=()
def tw10664289251095353882:=()
def tw5203032189362761602:=()
def tw14249577491585641174:=()
def tw7554633506932923260:=()
def tw4274384261872639663:=()
def tw2790610817918026464:=()
def tw16315938382126009993:=()
def tw9841384707330782830:=()
def tw14119787947202228233:=()
def tw16320157413825092302:=()
def tw3219978068885119235:=()
def tw16178225228596088726:=()
def tw16943292198095423646:=()
def tw4613855374825518802:=()
def tw8947726746365193734:=()
def tw14599081988760673662:=()
def tw12670866732286857632:=()
def tw8961976507152171654:=()
def tw13490145352066360742:=()
def tw11674059674714719693:=()
def tw4141383487883205334:=()
def tw888152333565452935:=()
def tw16134366990866339418:=()
def tw947612167680054539:=()
end PySem.W.Fast
set_option maxHeartbeats 9999999
local macro_rules|`(tactic|omega)=>`(tactic|first|lia|omega (config:={}))
open List renaming getElem?_eq_getElem→c2e,length_map→c2h,mem_append_right→c2j,length_append→c2k,mem_of_getElem?→c2m,replicate→c2n,getElem?_map→c2p,getElem?_eq_some_iff→c2q,length_replicate→c2r,getElem?_append_left→c2v,getElem?_append_right→c2w,mem_cons→c2x,getElem_of_mem→c3a,size_toArray→c3b,getElem?_eq_none→c3c,append_assoc→c3f,mem_singleton→c3h,length_take→c3j,length_drop→c3k,mem_append→c3n,mem_cons_of_mem→c3q,length_cons→c3r,not_mem_nil→c3u,take_append_drop→c3v,mem_map→c3w,Nodup→c3x,pairwise_append→c3y,range→c4a,getD_eq_getElem?_getD→c4b,getElem_mem→c4c,mem_of_mem_drop→c4f,length_range→c4l,pairwise_iff_getElem→c4m,lookup_cons→c4o,ext_getElem?→c4r,mem_range→c4t,map_cons→c4u,getElem?_replicate→c4v,mem_of_mem_take→c4w,take_of_length_le→c4x,length_reverse→c4y,extract_eq_take_drop→c4z,append_nil→c5d,getElem?_cons_succ→c5f,mem_reverse→c5l,getElem?_zipWith→c5m,drop_append_of_le_length→c5p,count_eq_zero_of_not_mem→c5q,length_zipWith→c5v,map_congr_left→c5w,drop_eq_nil_of_le→c5x,mem_cons_self→c5z,getElem?_drop→c6a,pairwise_reverse→c6b,Perm→c6d,drop_drop→c6f,all_eq_true→c6g,getElem?_range→c6h,pairwise_singleton→c6n,getElem?_take→c6q,nodup_cons→c6r,range_succ→c6s,eq_nil_of_length_eq_zero→c6t,length→c6v,drop_sublist→c6w,getElem?_reverse→c6x,map_map→c7b,mem_append_left→c7d,cons_append→c7e,filterMap_cons→c7h,Pairwise→c7i,flatMap_append→c7j,lookup→c7n
open PySem.W renaming Frag→c2f,nsIn→c2l,keepIn→c2s,mg_of→c2t,codeIn→c2y,fnOf→c2z,mg_none_of→c3i,findIn→c3l,kitOne→c3m,kqdOk→c3t,emptyDict→c5b,instObj→c5s,Dat→c6l,kqdP→c6p,plainGet→c7g,hideAll_get→c7l,clsIn→c7m,hideAll→c7t,isFn→c7u,exmOne→c7v,hasDictIn→c7w
open Array renaming length_toList→c2g,getElem?_eq_getElem→c4i,getElem?_toList→c4s,toList_extract→c5o,size_push→c5r,getElem_toList→c6e,toList_push→c6y,getD_eq_getD_getElem?→c7a,getElem?_eq_some_iff→c7f,toList_append→c7k
open Rat renaming divInt→c2i,intCast_mul→c3o,divInt_eq_div→c5h,intCast_le_intCast→c5i,num_divInt_den→c5n,intCast_add→c6c
open Nat renaming le_refl→c2o,ne_of_lt→c3e,lt_of_lt_of_le→c3g,zero_le→c4d,le_trans→c4g,lt_irrefl→c4n,le_of_lt→c5k,le_of_eq→c5t,zero_max→c5u,lt_succ_self→c6i,le_succ→c6j,mul_le_mul_left→c6k,pow_succ→c6o,two_pow_pos→c7o
open Option renaming some→c2u
open Bool renaming false_ne_true→c3d,and_eq_true→c4k,not_eq_true'→c6z,eq_iff_iff→c7r,or_eq_true→c7s
open Int renaming toNat→c3p,gcd→c3s,fdiv_eq_ediv_of_nonneg→c4h,toNat_natCast→c5a,mul_comm→c5c,mul_ediv_cancel_left→c5e,mul_nonneg→c5y,le_of_lt→c7c,mul_pos→c7p,natCast_mul→c7q
open PyProof.Rows renaming boot_isinstance→c3z,boot_list→c4j,callWith_type1→c5g,kindOf→c5j,slot_tuple_getitem→c6m
open PySem.F renaming plainAttrs_list→c4e,slot_list_append→c4p,type_list_append→c4q
open Prod renaming mk→c6u
noncomputable section
set_option Elab.async false
set_option linter.all false
set_option maxRecDepth 100000
namespace L2
open PySem PySem.Spec PyProof.Rows
abbrev Key:=Sum Int Str
def keyIs:Key→Value→Bool
 | .inl k,v=>Value.isInt k v
 | .inr x,v=>Value.isStrOf x v
def keyH(w:World):Key→Int
 | .inl k=>hashInt k
 | .inr x=>hashStr w x
theorem a2g:∀ {k:Key} {v:Value},keyIs k v=true→(∃ i t,k=Sum.inl i∧v=Value.int i t)∨(∃ x t,k=Sum.inr x∧v=Value.str x t)
 | .inl i,v,h=>by
   obtain⟨t,e⟩:=Value.isInt_shape (k:=i) (v:=v) h
   exact .inl ⟨i,t,rfl,e⟩
 | .inr x,v,h=>by
   obtain⟨t,e⟩:=Value.isStrOf_shape (x:=x) (v:=v) h
   exact .inr ⟨x,t,rfl,e⟩
theorem key_ll(a b:Int):decide ((Sum.inl a:Key)=Sum.inl b)=(a == b):=by
 by_cases e:a=b
 · subst e;simp
 · have h:¬ (Sum.inl a:Key)=Sum.inl b:=fun q=>e (Sum.inl.inj q)
   rw[decide_eq_false h]
   exact (beq_eq_false_iff_ne.mpr e).symm
theorem key_rr(a b:Str):decide ((Sum.inr a:Key)=Sum.inr b)=decide (a=b):=by
 by_cases e:a=b
 · subst e;simp
 · have h:¬ (Sum.inr a:Key)=Sum.inr b:=fun q=>e (Sum.inr.inj q)
   rw[decide_eq_false h,decide_eq_false e]
theorem key_lr(a:Int)(b:Str):decide ((Sum.inl a:Key)=Sum.inr b)=false:=decide_eq_false (fun q=>nomatch q)
theorem key_rl(a:Str)(b:Int):decide ((Sum.inr a:Key)=Sum.inl b)=false:=decide_eq_false (fun q=>nomatch q)
def c0e(prog:Program)(w:World):PySem.KeyKind prog w Key where
 is:=keyIs
 hash:=keyH w
 inj:=fun v a b ha hb=>by
   rcases a2g ha with⟨i,t,rfl,rfl⟩ | ⟨x,t,rfl,rfl⟩
   · rcases a2g hb with⟨j,u,rfl,e⟩ | ⟨y,u,rfl,e⟩
     · injection e with e1 _;rw[e1]
     · exact nomatch e
   · rcases a2g hb with⟨j,u,rfl,e⟩ | ⟨y,u,rfl,e⟩
     · exact nomatch e
     · injection e with e1 _;rw[e1]
 byValue:=fun k v h=>by
   rcases a2g h with⟨i,t,rfl,rfl⟩ | ⟨x,t,rfl,rfl⟩<;>rfl
 pyHash:=fun hv h=>by
   rcases a2g hv with⟨i,t,rfl,rfl⟩ | ⟨x,t,rfl,rfl⟩
   · exact wpAny_pyHash_int h
   · exact wpAny_pyHash_str h
 eqBool:=fun hu hv h=>by
   rcases a2g hu with⟨i,t,rfl,rfl⟩ | ⟨x,t,rfl,rfl⟩
   · rcases a2g hv with⟨j,u,rfl,rfl⟩ | ⟨y,u,rfl,rfl⟩
     · rw[key_ll] at h;exact wpAny_eqBool_int h
     · rw[key_lr] at h;exact SeqAt.EqAt.int_str i t y u _ _ _ _ h
   · rcases a2g hv with⟨j,u,rfl,rfl⟩ | ⟨y,u,rfl,rfl⟩
     · rw[key_rl] at h;exact SeqAt.EqAt.str_int x t j u _ _ _ _ h
     · rw[key_rr] at h;exact wpAny_eqBool_str h
 «strs»:=fun k x t v h=>by
   rcases a2g h with⟨i,u,rfl,e⟩ | ⟨y,u,rfl,e⟩
   · exact nomatch e
   · injection e with e1 _
     subst e1
     cases v<;>rfl
end L2
namespace L2
open PySem PySem.Spec PyProof.Rows
inductive V where
 | non | bl (b:Bool) | int (i:Int) | str (x:Str) | byt (b:Array UInt8) | flt (b:UInt64) | ref (a:Addr) | ty (n:String)
 deriving DecidableEq
def RelV:V→Value→Prop
 | .non,u=>u=Value.none
 | .bl b,u=>u=Value.bool b
 | .int i,u=>∃ t,u=Value.int i t
 | .str x,u=>∃ t,u=Value.str x t
 | .byt b,u=>∃ t,u=Value.bytes b t
 | .flt b,u=>∃ t,u=Value.float b t
 | .ref a,u=>u=Value.ref a
 | .ty n,u=>u=Value.type n
abbrev Vals:List V→List Value→Prop:=Paired RelV
theorem Vals.length{xs:List V}{us:List Value}(r:Vals xs us):xs.length=us.length:=Paired.length r
theorem Vals.get:∀ {xs:List V} {us:List Value} {i:Nat} {x:V},Vals xs us→xs[i]?=some x→∃ u,us[i]?=some u∧RelV x u
 | _,_,_,_,.nil,e=>by simp at e
 | _,_,0,_,.cons r _,e=>by simp at e;subst e;exact⟨_,rfl,r⟩
 | _,_,i+1,x,.cons _ t,e=>by
   obtain⟨u,h1,h2⟩:=Vals.get (i:=i) (x:=x) t (by simpa using e)
   exact⟨u,by simpa using h1,h2⟩
theorem Vals.append:∀ {xs ys:List V} {us ws:List Value},Vals xs us→Vals ys ws→Vals (xs++ys) (us++ws)
 | _,_,_,_,.nil,s=>s
 | _,_,_,_,.cons r t,s=>.cons r (Vals.append t s)
theorem Vals.take:∀ {xs:List V} {us:List Value} (n:Nat),Vals xs us→Vals (xs.take n) (us.take n)
 | _,_,0,_=>.nil
 | _,_,_+1,.nil=>.nil
 | _,_,n+1,.cons r t=>.cons r (Vals.take n t)
theorem Vals.drop:∀ {xs:List V} {us:List Value} (n:Nat),Vals xs us→Vals (xs.drop n) (us.drop n)
 | _,_,0,r=>r
 | _,_,_+1,.nil=>.nil
 | _,_,n+1,.cons _ t=>Vals.drop n t
theorem Vals.none_of:∀ {xs:List V} {us:List Value} {i:Nat},Vals xs us→xs[i]?=none→us[i]?=none:=fun {xs us i} r e=>by
 have h1:=r.length
 have h2:xs.length≤i:=List.getElem?_eq_none_iff.mp e
 exact List.getElem?_eq_none_iff.mpr (by omega)
def RelO:Option V→Option Value→Prop
 | some v,some u=>RelV v u
 | none,none=>True
 | _,_=>False
def KV{κ:Type}:List (κ×V)→List (κ×Value)→Prop:=Paired fun (p:κ×V) (q:κ×Value)=>p.1=q.1∧RelV p.2 q.2
def kV:Key→V
 | .inl i=>.int i
 | .inr x=>.str x
inductive HO where
 | lst (xs:List V)
 | tup (xs:List V)
 | dK (kvs:List (Key×V)) | dT (kvs:List (List Key×V))
 | set (S:Int→Bool) (n:Nat)
 | ins (C dx:Addr) (fs:List (Str×V))
 | own (x:Addr)
 | xd (fs:List (Str×V))
 | met (f x:Addr)
 | rng (lo hi:Int)
 | frz (o:Obj) (u:HO)
 | tbl (ps:Array Value)
 | ext (φ:Heap→Prop)
abbrev Hp:=Addr→Option HO
def upd(H:Hp)(a:Addr)(o:HO):Hp:=fun b=>if b=a then some o else H b
theorem a0d{H:Hp}{a:Addr}{o:HO}:upd H a o a=some o:=by unfold upd;rw[if_pos rfl]
theorem a0j{H:Hp}{a b:Addr}{o:HO}(h:b≠a):upd H a o b=H b:=by unfold upd;rw[if_neg h]
theorem b3l{H:Hp}{a:Addr}{o u:HO}:upd (upd H a o) a u=upd H a u:=by
 funext b;unfold upd;split<;>rfl
theorem a0l{H:Hp}{a b:Addr}{o:HO}(h:H a=some o)(h':H b=none):a≠b:=by
 intro e;subst e;rw[h] at h';cases h'
section
variable (P:Program) (w:World)
def a5f(H:Hp)(h:Heap)(a:Addr):HO→Prop
 | .lst xs=>xs.length≤sizeLine∧∃ (its:List Value) (n:Nat),Vals xs its∧h.get? a=some { cls:=.type "list",data:=.seq its.toArray n }
 | .tup xs=>xs.length≤sizeLine∧∃ its:List Value,Vals xs its∧IsTup h a its.toArray
 | .dK kvs=>kvs.length≤sizeLine∧(a == sysModules)=false∧∃ vs,KV kvs vs∧h.DictOf (c0e P w) a vs
 | .dT kvs=>kvs.length≤sizeLine∧(a == sysModules)=false∧∃ xs:List (List Key×Addr×Value),
     Paired (fun (p:List Key×V) (q:List Key×Addr×Value)=>p.1=q.1∧H q.2.1=some (.tup (p.1.map kV))∧RelV p.2 q.2.2) kvs xs∧
     ∃ o es ep,h.get? a=some o∧o.ExactDict∧o.data=.dict es ep∧es.toList=xs.map (entryOfKey (tupleKind (c0e P w)))∧(xs.map (·.1)).Nodup
 | .set S n=>h.SetOf (intKind P w) a S n
 | .ins C dx fs=>H dx=some (.own a)∧fs.length≤1000∧dx≠a∧h.get? a=some (c5s C dx)∧
     ∃ mA,h.Ns1 dx mA∧(∀ f,RelO (fs.lookup f) (mA f))∧PySem.Within mA (fs.map (·.1))
 | .own _=>∃ o,h.get? a=some o
 | .xd fs=>∃ mA,h.Ns1 a mA∧∀ f,RelO (fs.lookup f) (mA f)
 | .rng lo hi=>∃ t u v,h.get? a=some { cls:=.type "range",data:=.fields #[.int lo t,.int hi u,.int 1 v] }
 | .frz o u=>h.get? a=some o∧a5f H h a u
 | .tbl ps=>h.get? a=some { cls:=.none,data:=.fields ps }
 | .met f x=>h.get? a=some (PySem.W.methodObj (.ref f) (.ref x))
 | .ext φ=>φ h∧(∃ o,h.get? a=some o)∧∀ h1 h2:Heap,φ h1→(∀ o,h1.get? a=some o→h2.get? a=some o)→φ h2
def HOk(H:Hp)(h:Heap):Prop:=∀ a o,H a=some o→a5f P w H h a o
end
section
variable {P:Program} {w:World} {H H':Hp} {h h':Heap} {a:Addr} {o:HO}
theorem a5f.lt(x:a5f P w H h a o):a<h.objs.size:=by
 cases o with
 | lst xs=>obtain⟨_,_,_,_,e⟩:=x;exact Heap.lt_size e
 | tup xs=>obtain⟨_,_,_,p⟩:=x;exact p.lt
 | dK kvs=>obtain⟨_,_,_,_,o,_,_,e,_⟩:=x;exact Heap.lt_size e
 | dT kvs=>obtain⟨_,_,_,_,o,_,_,e,_⟩:=x;exact Heap.lt_size e
 | set S n=>obtain⟨o,_,_,_,e,_⟩:=x;exact Heap.lt_size e
 | ins C dx fs=>obtain⟨_,_,_,e,_⟩:=x;exact Heap.lt_size e
 | own y=>obtain⟨_,e⟩:=x;exact Heap.lt_size e
 | xd fs=>obtain⟨_,⟨_,_,_,e,_⟩,_⟩:=x;exact Heap.lt_size e
 | rng lo hi=>obtain⟨_,_,_,e⟩:=x;exact Heap.lt_size e
 | frz ob u=>obtain⟨e,_⟩:=x;exact Heap.lt_size e
 | tbl ps=>exact Heap.lt_size (show h.get? a=some _ from x)
 | met f y=>exact Heap.lt_size (show h.get? a=some _ from x)
 | ext φ=>obtain⟨_,⟨_,e⟩,_⟩:=x;exact Heap.lt_size e
theorem Paired.mapP{α β:Type}{F G:α→β→Prop}:∀ {l₁:List α} {l₂:List β},Paired F l₁ l₂→(∀ a b,F a b→G a b)→Paired G l₁ l₂
 | _,_,.nil,_=>.nil
 | _,_,.cons r t,f=>.cons (f _ _ r) (Paired.mapP t f)
theorem a5f.stay(x:a5f P w H h a o)(k:∀ b u,(b=a∨H b=some (.own a))→h.get? b=some u→h'.get? b=some u)(ho:∀ b,H b=some (.own a)→H' b=some (.own a))(ht:∀ b xs,H b=some (.tup xs)→H' b=some (.tup xs)):a5f P w H' h' a o:=by
 induction o with
 | lst xs=>obtain⟨z,its,n,r,e⟩:=x;exact⟨z,its,n,r,k _ _ (.inl rfl) e⟩
 | tup xs=>obtain⟨z,its,r,ob,e,c⟩:=x;exact⟨z,its,r,ob,k _ _ (.inl rfl) e,c⟩
 | dK kvs=>obtain⟨z,y,vs,r,ob,es,ep,e,c⟩:=x;exact⟨z,y,vs,r,ob,es,ep,k _ _ (.inl rfl) e,c⟩
 | dT kvs=>
   obtain⟨z,y,xs,r,ob,es,ep,e,c⟩:=x
   exact⟨z,y,xs,Paired.mapP r fun p q z=>⟨z.1,ht _ _ z.2.1,z.2.2⟩,ob,es,ep,k _ _ (.inl rfl) e,c⟩
 | set S n=>obtain⟨ob,es,ep,t,e,c⟩:=x;exact⟨ob,es,ep,t,k _ _ (.inl rfl) e,c⟩
 | ins C dx fs=>
   obtain⟨d,z,ne,e,mA,⟨od,es,ep,e2,c⟩,r⟩:=x
   exact⟨ho _ d,z,ne,k _ _ (.inl rfl) e,mA,⟨od,es,ep,k _ _ (.inr d) e2,c⟩,r⟩
 | own y=>obtain⟨ob,e⟩:=x;exact⟨ob,k _ _ (.inl rfl) e⟩
 | xd fs=>obtain⟨mA,⟨od,es,ep,e,c⟩,r⟩:=x;exact⟨mA,⟨od,es,ep,k _ _ (.inl rfl) e,c⟩,r⟩
 | rng lo hi=>obtain⟨t,u,v,e⟩:=x;exact⟨t,u,v,k _ _ (.inl rfl) e⟩
 | frz ob u ih=>obtain⟨e,q⟩:=x;exact⟨k _ _ (.inl rfl) e,ih q⟩
 | tbl ps=>
   have e:h.get? a=some { cls:=.none,data:=.fields ps }:=x
   show h'.get? a=some { cls:=.none,data:=.fields ps }
   exact k a _ (.inl rfl) e
 | met f y=>
   have e:h.get? a=some (PySem.W.methodObj (.ref f) (.ref y)):=x
   show h'.get? a=some (PySem.W.methodObj (.ref f) (.ref y))
   exact k a _ (.inl rfl) e
 | ext φ=>obtain⟨p,⟨o,e⟩,st⟩:=x;exact⟨st _ _ p fun o q=>k _ _ (.inl rfl) q,⟨o,k _ _ (.inl rfl) e⟩,st⟩
theorem HOk.lt(x:HOk P w H h)(e:H a=some o):a<h.objs.size:=(x a o e).lt
theorem HOk.fresh(x:HOk P w H h)(e:h.objs.size≤a):H a=none:=by
 cases q:H a with
 | none=>rfl
 | some u=>exact absurd (c3g (x.lt q) e) (c4n _)
theorem HOk.kept(x:HOk P w H h)(k:∀ b u,h.get? b=some u→h'.get? b=some u):HOk P w H h':=fun a o e=>
 (x a o e).stay (fun b u _ q=>k b u q) (fun _ q=>q) fun _ _ q=>q
theorem HOk.laid(x:HOk P w H h)(k:∀ b u,h.get? b=some u→h'.get? b=some u)(hp:h.objs.size≤a)(new:a5f P w (upd H a o) h' a o):HOk P w (upd H a o) h':=fun b u e=>by
 have hn:=x.fresh hp
 by_cases hb:b=a
 · subst hb;rw[a0d] at e;cases e;exact new
 · rw[a0j hb] at e
   exact (x b u e).stay (fun c v _ q=>k c v q) (fun c q=>by rw[a0j (a0l q hn)];exact q) fun c xs q=>by rw[a0j (a0l q hn)];exact q
end
def Rd(H:Hp)(a:Addr)(u:HO):Prop:=H a=some u∨∃ o,H a=some (.frz o u)
theorem Rd.ok{P:Program}{w:World}{H:Hp}{h:Heap}{a:Addr}{u:HO}(r:Rd H a u)(x:HOk P w H h):a5f P w H h a u:=by
 rcases r with r | ⟨o,r⟩
 · exact x a u r
 · obtain⟨_,q⟩:=x a _ r
   exact q
def Mut:Option HO→Prop
 | some (.lst _)=>True
 | some (.dK _)=>True
 | some (.dT _)=>True
 | some (.set _ _)=>True
 | some (.ins _ _ _)=>True
 | some (.ext _)=>True
 | _=>False
section
variable {P:Program} {w:World} {H:Hp} {h h':Heap} {x e:Addr} {o':HO}
theorem HOk.write(ok:HOk P w H h)(mu:Mut (H x))(he:e=x∨H e=some (.own x))(k:∀ b u,b≠e→h.get? b=some u→h'.get? b=some u)(heo:∃ u,h'.get? e=some u)(new:a5f P w (upd H x o') h' x o'):HOk P w (upd H x o') h':=fun b u q=>by
 have nown:∀ c y,H c=some (.own y)→c≠x:=fun c y r z=>by subst z;rw[r] at mu;exact mu
 have ntup:∀ c xs,H c=some (.tup xs)→c≠x:=fun c xs r z=>by subst z;rw[r] at mu;exact mu
 by_cases hb:b=x
 · subst hb;rw[a0d] at q;cases q;exact new
 · rw[a0j hb] at q
   by_cases hbe:b=e
   · have q':H b=some (.own x):=by
       rcases he with z | z
       · exact absurd (hbe.trans z) hb
       · rw[hbe];exact z
     rw[q] at q';cases q'
     obtain⟨v,hv⟩:=heo
     exact⟨v,by rw[hbe];exact hv⟩
   · refine (ok b u q).stay (fun c v hc r=>k c v ?_ r) (fun c r=>by rw[a0j (nown c b r)];exact r) fun c xs r=>by rw[a0j (ntup c xs r)];exact r
     rcases hc with rfl | hc
     · exact hbe
     · rintro rfl
       rcases he with z | z
       · exact nown c b hc z
       · rw[hc] at z;cases z;exact hb rfl
end
structure Un(fs ex:List Addr)(H H':Hp)(h h':Heap):Prop where
 keep:∀ b o,h.get? b=some o→H b=none→b∉fs→b∉ex→h'.get? b=some o
 slot:∀ b o,h.get? b=some o→H b=none→b∈fs→b∉ex→∃ sl,h'.get? b=some { o with slots:=sl }
 free:∀ b o,h.get? b=some o→H b=none→b∉ex→H' b=none
 there:∀ b o,h.get? b=some o→b∉ex→∃ o',h'.get? b=some o'
 tups:∀ b xs,H b=some (.tup xs)→H' b=some (.tup xs)
 frzs:∀ b o u,H b=some (.frz o u)→H' b=some (.frz o u)
 tbls:∀ b ps,H b=some (.tbl ps)→∃ more,H' b=some (.tbl (ps++more))
section
variable {fs fs' ex ex':List Addr} {H H1 H2:Hp} {h h1 h2 h':Heap} {a x e:Addr} {o:HO}
theorem Un.any(u:Un fs ex H H1 h h1){b:Addr}{ob:Obj}(q:h.get? b=some ob)(n:H b=none)(hx:b∉ex):∃ sl,h1.get? b=some { ob with slots:=sl }:=by
 by_cases hb:b∈fs
 · exact u.slot b ob q n hb hx
 · exact⟨ob.slots,u.keep b ob q n hb hx⟩
theorem Un.kept(k:∀ b u,h.get? b=some u→h'.get? b=some u):Un fs ex H H h h':=
 ⟨fun b ob q _ _ _=>k b ob q,fun b ob q _ _ _=>⟨ob.slots,k b ob q⟩,fun _ _ _ n _=>n,fun b ob q _=>⟨ob,k b ob q⟩,fun _ _ q=>q,fun _ _ _ q=>q,fun _ ps q=>⟨#[],by rw[q];simp⟩⟩
theorem Un.refl:Un fs ex H H h h:=Un.kept fun _ _ q=>q
theorem Un.laid(k:∀ b u,h.get? b=some u→h'.get? b=some u)(hp:h.objs.size≤a)(hn:H a=none):Un fs ex H (upd H a o) h h' where
 keep:=fun b u q _ _ _=>k b u q
 slot:=fun b u q _ _ _=>⟨u.slots,k b u q⟩
 free:=fun b u q n _=>by rw[a0j (c3e (c3g (Heap.lt_size q) hp))];exact n
 there:=fun b u q _=>⟨u,k b u q⟩
 tups:=fun b xs q=>by rw[a0j (a0l q hn)];exact q
 frzs:=fun b u xs q=>by rw[a0j (a0l q hn)];exact q
 tbls:=fun b ps q=>⟨#[],by rw[a0j (a0l q hn),q];simp⟩
theorem Un.write(mu:Mut (H x))(he:e=x∨H e=some (.own x))(k:∀ b u,b≠e→h.get? b=some u→h'.get? b=some u)(heo:∃ u,h'.get? e=some u):Un fs ex H (upd H x o) h h':=by
 have hx:∀ b,H b=none→b≠x:=fun b n z=>by subst z;rw[n] at mu;exact mu
 have hb:∀ b,H b=none→b≠e:=fun b n z=>by
   subst z
   rcases he with r | r
   · exact hx b n r
   · rw[n] at r;cases r
 have hm:∀ b u,H b=some u→¬ Mut (some u)→b≠x:=fun b u q nm z=>by subst z;rw[q] at mu;exact nm mu
 refine⟨fun b u q n _ _=>k b u (hb b n) q,fun b u q n _ _=>⟨u.slots,k b u (hb b n) q⟩,fun b u q n _=>by rw[a0j (hx b n)];exact n,fun b u q _=>?_,
   fun b xs q=>by rw[a0j (hm b _ q fun z=>z)];exact q,fun b u xs q=>by rw[a0j (hm b _ q fun z=>z)];exact q,fun b ps q=>⟨#[],by rw[a0j (hm b _ q fun z=>z),q];simp⟩⟩
 by_cases hbe:b=e
 · subst hbe;exact heo
 · exact⟨u,k b u hbe q⟩
end
def trk(h:Heap)(H:Hp):List Addr:=(c4a h.objs.size).filter fun a=>(H a).isSome
def hidT(h:Heap)(H:Hp):Heap:=c7t h (trk h H)
theorem c0u(h:Heap)(H:Hp):(hidT h H).objs.size=h.objs.size:=PySem.W.hideAll_size _ _
theorem hidT_get{h:Heap}{H:Hp}{b:Addr}{o:Obj}(e:h.get? b=some o)(n:H b=none):(hidT h H).get? b=some o:=
 c7l _ e fun hm=>by
   have q:(H b).isSome=true:=(List.mem_filter.mp hm).2
   rw[n] at q;simp at q
theorem of_hidT{h:Heap}{H:Hp}{b:Addr}{o:Obj}(e:(hidT h H).get? b=some o):h.get? b=some o∧H b=none:=by
 have e':h.get? b=some o:=PySem.W.of_hideAll (trk h H) e
 refine⟨e',?_⟩
 cases q:H b with
 | none=>rfl
 | some x=>
   have hm:b∈trk h H:=List.mem_filter.mpr ⟨c4t.mpr (Heap.lt_size e'),by simp[q]⟩
   have z:(hidT h H).get? b=none:=PySem.W.hideAll_none (trk h H) hm
   rw[z] at e;cases e
end L2
namespace L2
open PySem PySem.Spec PyProof.Rows
structure Mod(K:c2f)(mg:Str→Option Value)(base:Heap):Prop where
 kin:K.In base
 glob:base.Ns mainGlobals mg
 blt:∃ mb,base.Ns builtinsNs mb∧∀ x:Str,x ≠ "__name__" → mb x=bootBuiltins x
 nolimit:base.NoLimit
structure Cx where
 prog:Program
 w:World
 K:c2f
 mg:Str→Option Value
 base:Heap
 A:Around
 N:List Str
 s₀:Shared
 H₀:Hp
 env:Env
 outer:List Env
 stack:List Env
 ex:List Addr
 fn:Str→Bool
 calm:Bool
 pn:List (Addr×Obj)
 xe:Value→Shared→Prop
def frs(l:List Env):List Addr:=l.filterMap (·.frame)
abbrev Cx.fs(X:Cx):List Addr:=frs X.outer
def Vis(sc:Scope)(x:Str):Prop:=sc.names.lookup x=some .local∨sc.names.lookup x=some .cell∨sc.names.lookup x=some .free
def Loc(sc:Scope)(x:Str):Prop:=sc.names.lookup x=some .local∨sc.names.lookup x=some .cell
def Look(env:Env)(h:Heap)(m:Str→Option Value)(x:Str)(u:Value):Prop:=
 (env.kindOf x=some .local∧m x=some u)∨((env.kindOf x=some .cell∨env.kindOf x=some .free)∧∃ c,env.cells.lookup x=some c∧h.IsCell c (some u))
structure Cx.Ok(X:Cx):Prop where
 mod:Mod X.K X.mg X.base
 kind:X.env.scope.kind=.function
 glob:X.env.globals=mainGlobals
 blt:X.env.builtins=builtinsNs
 above:X.s₀.heap.objs.size≤X.env.locals
 inj:∀ x y c,X.env.cells.lookup x=some c→X.env.cells.lookup y=some c→x=y
 has:∀ x,(X.env.kindOf x=some .cell∨X.env.kindOf x=some .free)→∃ c,X.env.cells.lookup x=some c
 cab:∀ x c,X.fn x=true→X.env.cells.lookup x=some c→X.s₀.heap.objs.size≤c
 hd:X.calm=true→X.A.handled=none
 frames:X.A.frames=some X.stack
 stk:X.stack=X.outer∨(X.stack=X.env::X.outer∧X.env.frame=some X.env.locals)
 exf:∀ b∈X.ex,b≠X.env.locals∧∀ x c,X.env.cells.lookup x=some c→c≠b
 bs:∀ b o,X.base.get? b=some o→X.s₀.heap.get? b=some o∧X.H₀ b=none
 bsz:X.base.objs.size≤X.s₀.heap.objs.size
 noex:∀ b o,X.base.get? b=some o→b∉X.ex
 exfs:∀ b∈X.ex,b∉X.fs
 funs:X.s₀.heap.FunFrames X.base X.outer
 frf:∀ b∈X.fs,X.H₀ b=none
structure Inv(X:Cx)(pins:List (Addr×Obj))(σ:List (Option V))(H:Hp)(s:Shared):Prop where
 ok:X.Ok
 os:s.os=X.s₀.os
 bare:AllBare s.gens
 base:Un X.fs X.ex X.H₀ H X.s₀.heap s.heap
 loc:∃ m,s.heap.Ns X.env.locals m∧∀ (i:Nat) (x:Str) (v:V),X.N[i]?=some x→σ[i]?=some (some v)→Vis X.env.scope x→∃ u,RelV v u∧Look X.env s.heap m x u
 cell:∀ x c,X.env.cells.lookup x=some c→∃ v,s.heap.IsCell c v
 free:H X.env.locals=none
 freeC:∀ x c,X.env.cells.lookup x=some c→H c=none
 pin:∀ p∈X.pn++pins,s.heap.get? p.1=some p.2∧H p.1=none∧p.1≠X.env.locals∧p.1∉X.fs∧∀ v,p.2.data≠.cell v
 hok:HOk X.prog X.w H s.heap
 len:σ.length=X.N.length
section
variable {X:Cx} {pins:List (Addr×Obj)} {σ:List (Option V)} {H H':Hp} {s:Shared} {h':Heap}
theorem Cx.Ok.nofr(ok:X.Ok){b:Addr}{o:Obj}(e:X.base.get? b=some o):b∉X.fs:=fun hb=>by
 have:=(ok.funs.mem hb).1
 rw[e] at this;cases this
theorem Inv.bs(I:Inv X pins σ H s):∀ b o,X.base.get? b=some o→s.heap.get? b=some o∧H b=none:=fun b o e=>
 ⟨I.base.keep b o (I.ok.bs b o e).1 (I.ok.bs b o e).2 (I.ok.nofr e) (I.ok.noex b o e),I.base.free b o (I.ok.bs b o e).1 (I.ok.bs b o e).2 (I.ok.noex b o e)⟩
theorem Inv.bk(I:Inv X pins σ H s):∀ b o,X.base.get? b=some o→s.heap.get? b=some o:=fun b o e=>(I.bs b o e).1
theorem Inv.mod(I:Inv X pins σ H s):Mod X.K X.mg X.base:=I.ok.mod
theorem Inv.kIn(I:Inv X pins σ H s):X.K.In s.heap:=I.ok.mod.kin.keeps I.bk
theorem Inv.lt(I:Inv X pins σ H s):X.env.locals<s.heap.objs.size:=let ⟨_,hn,_⟩:=I.loc;hn.lt
theorem Inv.sz(I:Inv X pins σ H s):X.s₀.heap.objs.size≤s.heap.objs.size:=c4g I.ok.above (c5k I.lt)
theorem Inv.nofs(I:Inv X pins σ H s){a:Addr}(h:s.heap.objs.size≤a):a∉X.fs:=fun hb=>by
 obtain⟨_,o,ho,_⟩:=I.ok.funs.mem hb
 exact absurd (c3g (Heap.lt_size ho) (c4g I.sz h)) (c4n _)
theorem Inv.cne(I:Inv X pins σ H s):∀ x c,X.env.cells.lookup x=some c→c≠X.env.locals:=fun x c e z=>by
 obtain⟨v,o,ho,hd⟩:=I.cell x c e
 obtain⟨m,⟨o',es,ep,ho',hd',_⟩,_⟩:=I.loc
 rw[z,ho'] at ho;cases ho;rw[hd'] at hd;cases hd
theorem Inv.funs(I:Inv X pins σ H s):s.heap.FunFrames X.base X.outer:=by
 have all:∀ (l:List Env),(∀ b∈frs l,b∈X.fs)→X.s₀.heap.FunFrames X.base l→s.heap.FunFrames X.base l:=by
   intro l
   induction l with
   | nil=>intro _ _;trivial
   | cons env r ih=>
     intro hs hl
     obtain⟨hk,⟨L,o,hf,hn,ho,hd⟩,hr⟩:=hl
     have hL:L∈X.fs:=hs L (by unfold frs;rw[c7h,hf];exact c5z)
     obtain⟨sl,e⟩:=I.base.slot L o ho (I.ok.frf L hL) hL fun z=>I.ok.exfs L z hL
     exact⟨hk,⟨L,_,hf,hn,e,hd⟩,ih (fun b hb=>hs b (by unfold frs;rw[c7h,hf];exact c3q _ hb)) hr⟩
 exact all X.outer (fun _ hb=>hb) I.ok.funs
theorem Inv.stack(I:Inv X pins σ H s):s.heap.FunFrames X.base X.stack:=by
 rcases I.ok.stk with e | ⟨e,hf⟩
 · rw[e];exact I.funs
 · rw[e]
   obtain⟨m,hn,_⟩:=I.loc
   refine .cons (by rw[I.ok.kind];decide) hf hn ?_ I.funs
   exact Heap.get?_none_of_le (c4g I.ok.bsz I.ok.above)
theorem Inv.stkSub(I:Inv X pins σ H s):∀ b∈frs X.stack,b∈X.env.locals::X.fs:=fun b hb=>by
 rcases I.ok.stk with e | ⟨e,hf⟩
 · rw[e] at hb;exact c3q _ hb
 · rw[e] at hb
   unfold frs at hb
   rw[c7h,hf] at hb
   exact hb
theorem Inv.stkFree(I:Inv X pins σ H s):∀ b∈frs X.stack,H b=none:=fun b hb=>by
 rcases c2x.mp (I.stkSub b hb) with e | hb
 · rw[e];exact I.free
 · obtain⟨_,o,ho,_⟩:=I.ok.funs.mem hb
   exact I.base.free b o ho (I.ok.frf b hb) fun z=>I.ok.exfs b z hb
theorem Inv.step{g':Array GenState}{t':Nat}{d':Drawn}{ch:List Addr}(I:Inv X pins σ H s)(hch:∀ b∈ch,(b∈X.ex∨X.s₀.heap.objs.size≤b)∧b≠X.env.locals∧(∀ x c,X.env.cells.lookup x=some c→c≠b)∧∀ p∈X.pn++pins,p.1≠b)(keep:∀ b o,b≠X.env.locals→b∉X.fs→b∉ch→s.heap.get? b=some o→H b=none→h'.get? b=some o)(slot:∀ b o,b≠X.env.locals→b∈X.fs→b∉ch→s.heap.get? b=some o→H b=none→∃ sl,h'.get? b=some { o with slots:=sl })(free:∀ b o,b∉ch→s.heap.get? b=some o→H b=none→H' b=none)(there:∀ b o,b∉ch→s.heap.get? b=some o→∃ o',h'.get? b=some o')(tups:∀ b xs,H b=some (.tup xs)→H' b=some (.tup xs))(frzs:∀ b o u,H b=some (.frz o u)→H' b=some (.frz o u))(tbls:∀ b ps,H b=some (.tbl ps)→∃ more,H' b=some (.tbl (ps++more)))(ns:∀ m,s.heap.Ns X.env.locals m→h'.Ns X.env.locals m)(hok:HOk X.prog X.w H' h')(hg:AllBare g') :
   Inv X pins σ H' { s with heap:=h',gens:=g',drawn:=d',toks:=t' }:=by
 have neL:∀ b o,X.s₀.heap.get? b=some o→b≠X.env.locals:=fun b o e=>c3e (c3g (Heap.lt_size e) I.ok.above)
 have neC:∀ b o,X.s₀.heap.get? b=some o→b∉X.ex→b∉ch:=fun b o e hx hb=>by
   rcases (hch b hb).1 with z | z
   · exact hx z
   · exact absurd (c3g (Heap.lt_size e) z) (c4n _)
 have cellK:∀ x c,X.env.cells.lookup x=some c→∀ v,s.heap.IsCell c v→h'.IsCell c v:=fun x c e v ⟨o,ho,hd⟩=>by
   have nch:c∉ch:=fun z=>(hch c z).2.2.1 x c e rfl
   by_cases hc:c∈X.fs
   · obtain⟨sl,q⟩:=slot c o (I.cne x c e) hc nch ho (I.freeC x c e)
     exact⟨_,q,hd⟩
   · exact⟨o,keep c o (I.cne x c e) hc nch ho (I.freeC x c e),hd⟩
 refine⟨I.ok,I.os,hg,⟨fun b o e n hb hx=>?_,fun b o e n hb hx=>?_,fun b o e n hx=>?_,fun b o e hx=>?_,fun b xs e=>tups b xs (I.base.tups b xs e),fun b o xs e=>frzs b o xs (I.base.frzs b o xs e),fun b ps e=>?_⟩,?_,fun x c e=>?_,?_,fun x c e=>?_,fun p hp=>?_,hok,I.len⟩
 · exact keep b o (neL b o e) hb (neC b o e hx) (I.base.keep b o e n hb hx) (I.base.free b o e n hx)
 · obtain⟨sl,e1⟩:=I.base.slot b o e n hb hx
   obtain⟨sl',e2⟩:=slot b _ (neL b o e) hb (neC b o e hx) e1 (I.base.free b o e n hx)
   exact⟨sl',e2⟩
 · obtain⟨o',e1⟩:=I.base.there b o e hx
   exact free b o' (neC b o e hx) e1 (I.base.free b o e n hx)
 · obtain⟨o',e1⟩:=I.base.there b o e hx
   exact there b o' (neC b o e hx) e1
 · obtain⟨m1,e1⟩:=I.base.tbls b ps e
   obtain⟨m2,e2⟩:=tbls b _ e1
   exact⟨m1++m2,by rw[e2,Array.append_assoc]⟩
 · obtain⟨m,hn,hl⟩:=I.loc
   refine⟨m,ns m hn,fun i x v e1 e2 e3=>?_⟩
   obtain⟨u,r,l⟩:=hl i x v e1 e2 e3
   refine⟨u,r,?_⟩
   rcases l with l | ⟨k,c,e,z⟩
   · exact .inl l
   · exact .inr ⟨k,c,e,cellK x c e _ z⟩
 · obtain⟨v,z⟩:=I.cell x c e
   exact⟨v,cellK x c e v z⟩
 · obtain⟨m,⟨o,_,_,ho,_⟩,_⟩:=I.loc
   exact free _ o (fun z=>(hch _ z).2.1 rfl) ho I.free
 · obtain⟨v,o,ho,hd⟩:=I.cell x c e
   exact free c o (fun z=>(hch c z).2.2.1 x c e rfl) ho (I.freeC x c e)
 · obtain⟨e,n,ne,nf,d⟩:=I.pin p hp
   have nch:p.1∉ch:=fun z=>(hch p.1 z).2.2.2 p hp rfl
   exact⟨keep p.1 p.2 ne nf nch e n,free p.1 p.2 nch e n,ne,nf,d⟩
theorem Inv.un{t':Nat}(I:Inv X pins σ H s)(u:Un X.fs [] H H' s.heap h')(hok:HOk X.prog X.w H' h'):Inv X pins σ H' { s with heap:=h',toks:=t' }:=by
 obtain⟨m,⟨o,es,ep,ho,r⟩,_⟩:=id I.loc
 obtain⟨sl,hL⟩:=u.any ho I.free (by simp)
 exact I.step (g':=s.gens) (d':=s.drawn) (ch:=[]) (fun _ z=>nomatch z) (fun b o _ hb _ e n=>u.keep b o e n hb (by simp)) (fun b o _ hb _ e n=>u.slot b o e n hb (by simp)) (fun b o _ e n=>u.free b o e n (by simp)) (fun b o _ e=>u.there b o e (by simp)) u.tups u.frzs u.tbls (fun m' hm=>by
   obtain⟨o',es',ep',ho',r'⟩:=hm
   rw[ho] at ho';cases ho'
   exact⟨_,es',ep',hL,r'⟩) hok I.bare
theorem Inv.call{g':Array GenState}{t':Nat}{d':Drawn}{ch:List Addr}(I:Inv X pins σ H s)(u:Un (frs X.stack) ch H H' s.heap h')(hok:HOk X.prog X.w H' h')(hg:AllBare g')(hch:∀ b∈ch,(b∈X.ex∨X.s₀.heap.objs.size≤b)∧b≠X.env.locals∧(∀ x c,X.env.cells.lookup x=some c→c≠b)∧∀ p∈X.pn++pins,p.1≠b) :
   Inv X pins σ H' { s with heap:=h',gens:=g',drawn:=d',toks:=t' }:=by
 obtain⟨m,⟨o,es,ep,ho,r⟩,_⟩:=id I.loc
 obtain⟨sl,hL⟩:=u.any ho I.free fun z=>(hch _ z).2.1 rfl
 exact I.step (ch:=ch) hch (fun b o hL hb hc e n=>u.keep b o e n (fun z=>(c2x.mp (I.stkSub b z)).elim hL hb) hc) (fun b o _ _ hc e n=>u.any e n hc) (fun b o hc e n=>u.free b o e n hc) (fun b o hc e=>u.there b o e hc) u.tups u.frzs u.tbls (fun m' hm=>by
   obtain⟨o',es',ep',ho',r'⟩:=hm
   rw[ho] at ho';cases ho'
   exact⟨_,es',ep',hL,r'⟩) hok hg
theorem Inv.turned{t':Nat}{it:Addr}(I:Inv X pins σ H s)(k:∀ b o,b≠it→s.heap.get? b=some o→h'.get? b=some o)(hn:H it=none)(hL:it≠X.env.locals)(h1:it∈X.ex∨X.s₀.heap.objs.size≤it)(h2:∀ x c,X.env.cells.lookup x=some c→c≠it)(h3:∀ p∈X.pn++pins,p.1≠it):Inv X pins σ H { s with heap:=h',toks:=t' }:=by
 have nit:∀ b u,H b=some u→b≠it:=fun b u e z=>by rw[z,hn] at e;cases e
 refine I.step (g':=s.gens) (d':=s.drawn) (ch:=[it]) (fun b hb=>?_) (fun b o _ _ hc e _=>k b o (fun z=>hc (by simp[z])) e) (fun b o _ _ hc e _=>⟨o.slots,k b o (fun z=>hc (by simp[z])) e⟩) (fun _ _ _ _ n=>n)
   (fun b o hc e=>⟨o,k b o (fun z=>hc (by simp[z])) e⟩) (fun _ _ e=>e) (fun _ _ _ e=>e) (fun b ps e=>⟨#[],by rw[e];simp⟩) (fun m hm=>?_) (fun b u e=>?_) I.bare
 · have e:b=it:=by simpa using hb
   subst e
   exact⟨h1,hL,h2,h3⟩
 · obtain⟨o,es,ep,ho,r⟩:=hm
   exact⟨o,es,ep,k _ o (Ne.symm hL) ho,r⟩
 · refine (I.hok b u e).stay (fun c v hc q=>k c v ?_ q) (fun _ q=>q) fun _ _ q=>q
   rcases hc with z | z
   · rw[z];exact nit b u e
   · exact nit c _ z
theorem Inv.tok(I:Inv X pins σ H s)(t:Nat):Inv X pins σ H { s with toks:=t }:=I.un (h':=s.heap) (t':=t) Un.refl I.hok
theorem Inv.kept{t':Nat}(I:Inv X pins σ H s)(k:∀ b u,s.heap.get? b=some u→h'.get? b=some u):Inv X pins σ H { s with heap:=h',toks:=t' }:=I.un (Un.kept k) (I.hok.kept k)
theorem Inv.laid{a:Addr}{o:HO}{t':Nat}(I:Inv X pins σ H s)(k:∀ b u,s.heap.get? b=some u→h'.get? b=some u)(hp:s.heap.objs.size≤a)(new:a5f X.prog X.w (upd H a o) h' a o) :
 Inv X pins σ (upd H a o) { s with heap:=h',toks:=t' }:=I.un (Un.laid k hp (I.hok.fresh hp)) (I.hok.laid k hp new)
theorem Inv.write{x e:Addr}{o:HO}{t':Nat}(I:Inv X pins σ H s)(mu:Mut (H x))(he:e=x∨H e=some (.own x))(k:∀ b u,b≠e→s.heap.get? b=some u→h'.get? b=some u)(heo:∃ u,h'.get? e=some u)(new:a5f X.prog X.w (upd H x o) h' x o):Inv X pins σ (upd H x o) { s with heap:=h',toks:=t' }:=I.un (Un.write mu he k heo) (I.hok.write mu he k heo new)
theorem Inv.pins_of{pins':List (Addr×Obj)}(I:Inv X pins σ H s)(h:∀ p∈pins',s.heap.get? p.1=some p.2∧H p.1=none∧p.1≠X.env.locals∧p.1∉X.fs∧∀ v,p.2.data≠.cell v):Inv X pins' σ H s:=
 ⟨I.ok,I.os,I.bare,I.base,I.loc,I.cell,I.free,I.freeC,fun p hp=>(c3n.mp hp).elim (fun z=>I.pin p (c7d _ z)) (h p),I.hok,I.len⟩
theorem b5r{N:List Str}(hN:N.Nodup){i j:Nat}{x:Str}(a:N[i]?=some x)(b:N[j]?=some x):i=j:=by
 obtain⟨h1,e1⟩:=c2q.mp a
 obtain⟨h2,e2⟩:=c2q.mp b
 exact (List.getElem_inj hN).mp (e1.trans e2.symm)
theorem b8i{M:Model}{A:Around}{E:Value→Shared→Prop}{i:Nat}{x:Str}{v:V}{u:Value}{Q:Unit→Shared→Prop}(I:Inv X pins σ H s)(hN:X.N.Nodup)(hi:X.N[i]?=some x)(hx:Loc X.env.scope x)(r:RelV v u)(h:∀ s',Inv X pins (σ.set i (some v)) H s'→(∃ a,Heap.SameBut a s.heap s'.heap∧(a=X.env.locals∨X.env.cells.lookup x=some a))→Q () s')(hf:X.fn x=true∨X.env.scope.names.lookup x=some .local:=by first | exact .inl rfl | exact .inr rfl | assumption):wpAny M A (storeName X.env x u) Q E s:=by
 obtain⟨m,hn,hl⟩:=id I.loc
 have hcls:(X.env.scope.kind == .class || (X.env.scope.kind == .module && X.env.locals != X.env.globals))=false:=by rw[I.ok.kind];rfl
 have hiσ:i<σ.length:=by rw[I.len];exact (c2q.mp hi).1
 have cne:=I.cne
 have tracked:∀ {a:Addr} {h':Heap},(∃ o,s.heap.get? a=some o∧H a=none)→Heap.SameBut a s.heap h'→HOk X.prog X.w H h':=fun {a h'} ha hs b ob e=>by
   obtain⟨_,_,hfree⟩:=ha
   refine (I.hok b ob e).stay (fun c w' hc q=>(hs.2 c ?_).trans q) (fun _ q=>q) fun _ _ q=>q
   rintro rfl
   rcases hc with rfl | hc
   · rw[hfree] at e;cases e
   · rw[hfree] at hc;cases hc
 rcases hx with hk | hk
 · refine wpAny_storeName_local hk hn (fun h' hn' hs=>?_) hcls
   obtain⟨oL,_,_,hoL,_⟩:=id hn
   refine h _ ⟨I.ok,I.os,I.bare,⟨fun b o e n hb hx=>?_,fun b o e n hb hx=>?_,I.base.free,fun b o e hx=>?_,I.base.tups,I.base.frzs,I.base.tbls⟩,⟨_,hn',fun j y v' e1 e2 e3=>?_⟩,fun y c e=>?_,I.free,I.freeC,fun p hp=>?_,tracked ⟨oL,hoL,I.free⟩ hs,by simpa using I.len⟩ ⟨_,hs,.inl rfl⟩
   · exact (hs.2 b (c3e (c3g (Heap.lt_size e) I.ok.above))).trans (I.base.keep b o e n hb hx)
   · obtain⟨sl,e1⟩:=I.base.slot b o e n hb hx
     exact⟨sl,(hs.2 b (c3e (c3g (Heap.lt_size e) I.ok.above))).trans e1⟩
   · obtain⟨o',e1⟩:=I.base.there b o e hx
     exact⟨o',(hs.2 b (c3e (c3g (Heap.lt_size e) I.ok.above))).trans e1⟩
   · by_cases hj:j=i
     · subst hj
       rw[hi] at e1;cases e1
       rw[List.getElem?_set_self hiσ] at e2
       cases e2
       exact⟨u,r,.inl ⟨hk,by simp⟩⟩
     · rw[List.getElem?_set_ne (Ne.symm hj)] at e2
       obtain⟨u',r',q⟩:=hl j y v' e1 e2 e3
       refine⟨u',r',?_⟩
       rcases q with⟨k,e⟩ | ⟨k,c,e,z⟩
       · refine .inl ⟨k,?_⟩
         have:y≠x:=fun e=>hj (b5r hN e1 (e ▸ hi))
         simp[this,e]
       · exact .inr ⟨k,c,e,z.sameBut hs (cne y c e)⟩
   · obtain⟨w',z⟩:=I.cell y c e
     exact⟨w',z.sameBut hs (cne y c e)⟩
   · obtain⟨e,n,ne,nf,d⟩:=I.pin p hp
     exact⟨(hs.2 p.1 ne).trans e,n,ne,nf,d⟩
 · have hfn:X.fn x=true:=by
     rcases hf with z | z
     · exact z
     · rw[z] at hk;cases hk
   obtain⟨c,hc⟩:=I.ok.has x (.inl hk)
   obtain⟨w',z⟩:=I.cell x c hc
   refine wpAny_storeName_cell I.ok.kind hk hc z (fun h' hc' hs=>?_)
   obtain⟨oc,hoc,hocd⟩:=id z
   refine h { s with heap:=h' } ⟨I.ok,I.os,I.bare,⟨fun b o e n hb hx=>?_,fun b o e n hb hx=>?_,I.base.free,fun b o e hx=>?_,I.base.tups,I.base.frzs,I.base.tbls⟩,⟨m,hn.sameBut hs (Ne.symm (cne x c hc)),fun j y v' e1 e2 e3=>?_⟩,fun y c' e=>?_,I.free,I.freeC,fun p hp=>?_,tracked ⟨oc,hoc,I.freeC x c hc⟩ hs,by simpa using I.len⟩ ⟨c,hs,.inr hc⟩
   · exact (hs.2 b (c3e (c3g (Heap.lt_size e) (I.ok.cab x c hfn hc)))).trans (I.base.keep b o e n hb hx)
   · obtain⟨sl,e1⟩:=I.base.slot b o e n hb hx
     exact⟨sl,(hs.2 b (c3e (c3g (Heap.lt_size e) (I.ok.cab x c hfn hc)))).trans e1⟩
   · obtain⟨o',e1⟩:=I.base.there b o e hx
     exact⟨o',(hs.2 b (c3e (c3g (Heap.lt_size e) (I.ok.cab x c hfn hc)))).trans e1⟩
   · by_cases hj:j=i
     · subst hj
       rw[hi] at e1;cases e1
       rw[List.getElem?_set_self hiσ] at e2
       cases e2
       exact⟨u,r,.inr ⟨.inl hk,c,hc,hc'⟩⟩
     · rw[List.getElem?_set_ne (Ne.symm hj)] at e2
       obtain⟨u',r',q⟩:=hl j y v' e1 e2 e3
       refine⟨u',r',?_⟩
       rcases q with q | ⟨k,c',e,z'⟩
       · exact .inl q
       · refine .inr ⟨k,c',e,z'.sameBut hs ?_⟩
         rintro rfl
         exact hj (b5r hN e1 (I.ok.inj _ _ _ e hc ▸ hi))
   · by_cases hcc:c'=c
     · subst hcc;exact⟨_,hc'⟩
     · obtain⟨w2,z2⟩:=I.cell y c' e
       exact⟨w2,z2.sameBut hs hcc⟩
   · obtain⟨e,n,ne,nf,d⟩:=I.pin p hp
     refine⟨(hs.2 p.1 ?_).trans e,n,ne,nf,d⟩
     intro q
     rw[q,hoc] at e
     have q':oc=p.2:=c2u.inj e
     exact d w' (by rw[← q'];exact hocd)
theorem a5i{M:Model}{A:Around}{E:Value→Shared→Prop}{i:Nat}{x:Str}{v:V}{u:Value}{Q:Unit→Shared→Prop}(I:Inv X pins σ H s)(hN:X.N.Nodup)(hi:X.N[i]?=some x)(hx:Loc X.env.scope x)(r:RelV v u)(h:∀ s',Inv X pins (σ.set i (some v)) H s'→Q () s')(hf:X.fn x=true∨X.env.scope.names.lookup x=some .local:=by first | exact .inl rfl | exact .inr rfl | assumption):wpAny M A (storeName X.env x u) Q E s:=
 b8i I hN hi hx r (fun s' I' _=>h s' I') hf
theorem Inv.call'{s':Shared}{ch:List Addr}(I:Inv X pins σ H s)(ho:s'.os=s.os)(u:Un (frs X.stack) ch H H' s.heap s'.heap)(hok:HOk X.prog X.w H' s'.heap)(hg:AllBare s'.gens)(hch:∀ b∈ch,(b∈X.ex∨X.s₀.heap.objs.size≤b)∧b≠X.env.locals∧(∀ x c,X.env.cells.lookup x=some c→c≠b)∧∀ p∈X.pn++pins,p.1≠b):Inv X pins σ H' s':=by
 obtain⟨h',g',d',t',o'⟩:=s'
 have e:o'=s.os:=ho
 subst e
 exact I.call (g':=g') (t':=t') (d':=d') u hok hg hch
end
abbrev XK:=Value→Option Addr→Hp→Prop
abbrev St:=List (Option V)
abbrev VK:=V→Hp→Prop
abbrev TE:=St→Hp→VK→Prop
abbrev TT:=St→Hp→(Bool→Hp→Prop)→Prop
abbrev TA:=St→Hp→(List V→Hp→Prop)→Prop
structure Ends where
 nx:St→Hp→Prop
 rt:VK
 bk:St→Hp→Prop:=fun _ _=>False
 ct:St→Hp→Prop:=fun _ _=>False
abbrev TS:=Ends→St→Hp→Prop
def EP(X:Cx)(pins:List (Addr×Obj))(σ:St)(Q:VK)(u:Value)(s':Shared):Prop:=∃ v H',Inv X pins σ H' s'∧RelV v u∧Q v H'
def TP(X:Cx)(pins:List (Addr×Obj))(σ:St)(Q:Bool→Hp→Prop)(b:Bool)(s':Shared):Prop:=∃ H',Inv X pins σ H' s'∧Q b H'
def AP(X:Cx)(pins:List (Addr×Obj))(σ:St)(Q:List V→Hp→Prop)(us:List Value)(s':Shared):Prop:=∃ vs H',Inv X pins σ H' s'∧Vals vs us∧Q vs H'
def SP(X:Cx)(pins:List (Addr×Obj))(D:Ends)(f:Flow)(s':Shared):Prop:=
 match f with
 | .next=>∃ σ' H',Inv X pins σ' H' s'∧D.nx σ' H'
 | .brk=>∃ σ' H',Inv X pins σ' H' s'∧D.bk σ' H'
 | .cont=>∃ σ' H',Inv X pins σ' H' s'∧D.ct σ' H'
 | .ret u=>∃ v σ' H',Inv X pins σ' H' s'∧RelV v u∧D.rt v H'
def PE(X:Cx)(e:Expr)(t:TE):Prop:=
 ∀ (pins:List (Addr×Obj)) (s:Shared) (σ:St) (H:Hp) (Q:VK),Inv X pins σ H s→t σ H Q→wpAny (model X.prog X.w) X.A (eval e X.env) (EP X pins σ Q) X.xe s
def PT(X:Cx)(e:Expr)(t:TT):Prop:=
 ∀ (pins:List (Addr×Obj)) (s:Shared) (σ:St) (H:Hp) (Q:Bool→Hp→Prop),Inv X pins σ H s→t σ H Q→wpAny (model X.prog X.w) X.A (isTrue e X.env (eval e X.env)) (TP X pins σ Q) X.xe s
def PW(X:Cx)(e:Expr)(t:TT):Prop:=
 ∀ (whole:Sem Value) (pins:List (Addr×Obj)) (s:Shared) (σ:St) (H:Hp) (Q:Bool→Hp→Prop),Inv X pins σ H s→t σ H Q→wpAny (model X.prog X.w) X.A (isTrue e X.env whole) (TP X pins σ Q) X.xe s
theorem PW.pt{X:Cx}{e:Expr}{t:TT}(h:PW X e t):PT X e t:=h _
def PA(X:Cx)(es:List Expr)(t:TA):Prop:=
 ∀ (pos:Pos) (pins:List (Addr×Obj)) (s:Shared) (σ:St) (H:Hp) (Q:List V→Hp→Prop),Inv X pins σ H s→t σ H Q→wpAny (model X.prog X.w) X.A (spliced (backTo pos (starEach es X.env))) (AP X pins σ Q) X.xe s
def PS(X:Cx)(st:Stmt)(t:TS):Prop:=
 ∀ (pins:List (Addr×Obj)) (s:Shared) (σ:St) (H:Hp) (D:Ends),Inv X pins σ H s→t D σ H→wpAny (model X.prog X.w) X.A (exec st X.env) (SP X pins D) X.xe s
def PSs(X:Cx)(st:List Stmt)(t:TS):Prop:=
 ∀ (pins:List (Addr×Obj)) (s:Shared) (σ:St) (H:Hp) (D:Ends),Inv X pins σ H s→t D σ H→wpAny (model X.prog X.w) X.A (execs st X.env) (SP X pins D) X.xe s
theorem thn{α:Type}{t:Sem α}{Q Q':α→Shared→Prop}{M:Model}{A:Around}{E:Value→Shared→Prop}{s:Shared}(h:wpAny M A t Q E s)(hQ:∀ a s,Q a s→Q' a s):wpAny M A t Q' E s:=wpAny_mono h hQ fun _ _ x=>x
end L2
namespace L2
open PySem PySem.Spec PyProof.Rows
section
variable {X:Cx}
def tVar(i:Nat):TE:=fun σ H Q=>∃ v,σ[i]?=some (some v)∧Q v H
def tC(v:V):TE:=fun _ H Q=>Q v H
theorem pe_var{i:Nat}{x:Str}{pos:Pos}(hN:X.N[i]?=some x)(hv:Vis X.env.scope x)(hd:(x == ("__debug__" : Str))=false:=by decide)(hcd:(x == ("__classdict__" : Str))=false:=by decide):PE X (.Name x pos) (tVar i):=by
 intro pins s σ H Q I h
 obtain⟨v,e,h⟩:=h
 obtain⟨m,hn,hl⟩:=I.loc
 obtain⟨u,r,l⟩:=hl i x v hN e hv
 have fin:EP X pins σ Q u s:=⟨v,H,I,r,h⟩
 rcases l with⟨hk,hm⟩ | ⟨hk,c,hc,hcell⟩
 · exact wpAny_Name (wpAny_loadName_local I.ok.kind hk hn hm fin) hd
 · rcases hk with hk | hk
   · exact wpAny_Name (wpAny_loadName_cell I.ok.kind hk hc hcell fin) hd
   · exact wpAny_Name (wpAny_loadName_free I.ok.kind hk hc hcell fin hcd) hd
theorem pe_int{i j pos}:PE X (.Constant (.int i) j pos) (tC (.int i)):=fun _ _ _ H _ I h=>wpAny_Constant_int ⟨.int i,H,I.tok _,⟨_,rfl⟩,h⟩
theorem pe_bl{b j pos}:PE X (.Constant (.bool b) j pos) (tC (.bl b)):=fun _ _ _ H _ I h=>Constant_bool ⟨.bl b,H,I,rfl,h⟩
theorem pe_non{j pos}:PE X (.Constant .none j pos) (tC .non):=fun _ _ _ H _ I h=>Constant_none ⟨.non,H,I,rfl,h⟩
theorem pe_str{x j pos}:PE X (.Constant (.str x) j pos) (tC (.str x)):=fun _ _ _ H _ I h=>Calls.Constant_str ⟨.str x,H,I.tok _,⟨_,rfl⟩,h⟩
def Gl(X:Cx)(x:Str):Prop:=X.env.kindOf x=some .globalImplicit
theorem a8w{E:Value→Shared→Prop}{pins:List (Addr×Obj)}{s:Shared}{σ:St}{H:Hp}{x:Str}{u:Value}{pos:Pos}{Q:Value→Shared→Prop}(I:Inv X pins σ H s)(hg:Gl X x)(hm:X.mg x=some u)(h:Q u s)(hd:(x == ("__debug__" : Str))=false:=by decide):wpAny (model X.prog X.w) X.A (eval (.Name x pos) X.env) Q E s:=
 Calls.Name_function_global I.ok.kind hg (Calls.loadGlobal_global (by rw[I.ok.glob];exact I.mod.glob.keeps I.bk) hm h) hd
theorem a8x{E:Value→Shared→Prop}{pins:List (Addr×Obj)}{s:Shared}{σ:St}{H:Hp}{x:Str}{u:Value}{pos:Pos}{Q:Value→Shared→Prop}(I:Inv X pins σ H s)(hg:Gl X x)(hm:X.mg x=none)(hv:bootBuiltins x=some u)(h:Q u s)(hn:x ≠ "__name__":=by decide)(hd:(x == ("__debug__" : Str))=false:=by decide):wpAny (model X.prog X.w) X.A (eval (.Name x pos) X.env) Q E s:=by
 obtain⟨mb,h1,h2⟩:=I.mod.blt
 exact Calls.Name_function_global I.ok.kind hg (Calls.loadGlobal_builtin (by rw[I.ok.glob];exact I.mod.glob.keeps I.bk) hm (by rw[I.ok.blt];exact h1.keeps I.bk) ((h2 x hn).trans hv) h) hd
theorem pe_glob{x:Str}{v:V}{u:Value}{pos:Pos}(hg:Gl X x)(hm:X.mg x=some u)(r:RelV v u)(hd:(x == ("__debug__" : Str))=false:=by decide):PE X (.Name x pos) (tC v):=
 fun _ _ _ H _ I h=>a8w I hg hm ⟨v,H,I,r,h⟩ hd
theorem pe_bltn{x:Str}{v:V}{u:Value}{pos:Pos}(hg:Gl X x)(hm:X.mg x=none)(hv:bootBuiltins x=some u)(r:RelV v u)(hn:x ≠ "__name__":=by decide)(hd:(x == ("__debug__" : Str))=false:=by decide):PE X (.Name x pos) (tC v):=
 fun _ _ _ H _ I h=>a8x I hg hm hv ⟨v,H,I,r,h⟩ hn hd
variable {a b:Expr} {ta tb:TE} {pos:Pos}
def tB(t:TE):TT:=fun σ H Q=>t σ H fun x H1=>∃ c,x=.bl c∧Q c H1
theorem pt_val{e:Expr}{t:TE}(h:PE X e t)(he:∀ whole,isTrue e X.env whole=(do let v ← whole;standAt e.pos;holding [v] (truthy v)):=by intro _;rfl):PT X e (tB t):=by
 intro pins s σ H Q I hw
 refine isTrue_plain (thn (h pins s σ H _ I hw) fun v s1 ⟨x,H1,I1,r1,q1⟩=>?_) (he _)
 obtain⟨d,rfl,q⟩:=q1
 cases r1
 exact wpAny_truthy_bool ⟨H1,I1,q⟩
variable {tA tB':TT} {rest:List Expr}
def tAnd(t u:TT):TT:=fun σ H Q=>t σ H fun c H1=>if c=true then u σ H1 Q else Q false H1
def tNot(t:TT):TT:=fun σ H Q=>t σ H fun c H1=>Q (!c) H1
theorem pw_and1(ha:PT X a tA):PW X (.BoolOp .And [a] pos) tA:=by
 intro wh pins s σ H Q I h
 refine isTrue_and (thn (ha pins s σ H Q I h) fun c s1 e=>?_)
 cases c with
 | true=>exact isTrue_and_nil e
 | false=>exact e
theorem pw_and(ha:PT X a tA)(hb:PW X (.BoolOp .And (b::rest) pos) tB'):PW X (.BoolOp .And (a::b::rest) pos) (tAnd tA tB'):=by
 intro wh pins s σ H Q I h
 refine isTrue_and (thn (ha pins s σ H _ I h) fun c s1 ⟨H1,I1,q1⟩=>?_)
 cases c with
 | true=>exact hb wh pins s1 σ H1 Q I1 q1
 | false=>exact⟨H1,I1,q1⟩
theorem pt_not(ha:PT X a tA):PT X (.UnaryOp .Not a pos) (tNot tA):=by
 intro pins s σ H Q I h
 exact isTrue_not (ha pins s σ H (fun c H1=>Q (!c) H1) I h)
def tAndV(ta tb:TE):TE:=fun σ H Q=>ta σ H fun x H1=>∃ c,x=.bl c∧if c=true then tb σ H1 Q else Q (.bl false) H1
def tNotV(ta:TE):TE:=fun σ H Q=>ta σ H fun x H1=>∃ c,x=.bl c∧Q (.bl (!c)) H1
theorem pe_one{op}{t:TE}(h:PE X a t):PE X (.BoolOp op [a] pos) t:=fun pins s σ H Q I hw=>BoolOp_one (h pins s σ H Q I hw)
theorem pe_and(ha:PE X a ta)(hb:PE X (.BoolOp .And (b::rest) pos) tb):PE X (.BoolOp .And (a::b::rest) pos) (tAndV ta tb):=by
 intro pins s σ H Q I h
 refine BoolOp_and (thn (ha pins s σ H _ I h) fun v s1 ⟨x,H1,I1,r1,q1⟩=>?_)
 obtain⟨c,rfl,q1⟩:=q1
 cases r1
 refine wpAny_truthy_bool ?_
 cases c with
 | true=>exact hb pins s1 σ H1 Q I1 q1
 | false=>exact⟨.bl false,H1,I1,rfl,q1⟩
theorem pe_not(ha:PE X a ta):PE X (.UnaryOp .Not a pos) (tNotV ta):=by
 intro pins s σ H Q I h
 refine UnaryOp_ (thn (ha pins s σ H _ I h) fun v s1 ⟨x,H1,I1,r1,q1⟩=>?_)
 obtain⟨c,rfl,q1⟩:=q1
 cases r1
 exact not_of (wpAny_truthy_bool ⟨.bl (!c),H1,I1,rfl,q1⟩)
def tIf(t:TT)(ta tb:TE):TE:=fun σ H Q=>t σ H fun c H1=>if c=true then ta σ H1 Q else tb σ H1 Q
theorem pe_ifExp{c:Expr}(hc:PT X c tA)(ha:PE X a ta)(hb:PE X b tb):PE X (.IfExp c a b pos) (tIf tA ta tb):=by
 intro pins s σ H Q I h
 refine wpAny_IfExp (thn (hc pins s σ H _ I h) fun d s1 ⟨H1,I1,q1⟩=>?_)
 cases d with
 | true=>exact ha pins s1 σ H1 Q I1 q1
 | false=>exact hb pins s1 σ H1 Q I1 q1
end
end L2
namespace L2
open PySem PySem.Spec PyProof.Rows
def SqL(K:c2f)(H:Hp)(a:Addr)(xs:List V):Prop:=
 Rd H a (.lst xs)∨
   ∃ (o:Obj) (its:Array Value) (n:Nat),K.lookup a=some o∧o.cls=.type "list" ∧ o.dict=none∧o.data=.seq its n∧its.size≤sizeLine∧Vals xs its.toList
def SqT(K:c2f)(H:Hp)(a:Addr)(xs:List V):Prop:=
 Rd H a (.tup xs)∨
   ∃ (o:Obj) (its:Array Value) (n:Nat),K.lookup a=some o∧o.cls=.type "tuple" ∧ o.data=.seq its n∧its.size≤sizeLine∧Vals xs its.toList
def absV:Value→Option V
 | .none=>some .non
 | .bool b=>some (.bl b)
 | .int i _=>some (.int i)
 | .str x _=>some (.str x)
 | .bytes b _=>some (.byt b)
 | .float b _=>some (.flt b)
 | .ref a=>some (.ref a)
 | .type n=>some (.ty n)
 | _=>none
theorem RelV.abs{x:V}{u:Value}(r:RelV x u):absV u=some x:=by
 cases x with
 | non=>cases r;rfl
 | bl _=>cases r;rfl
 | int _=>obtain⟨t,rfl⟩:=r;rfl
 | str _=>obtain⟨t,rfl⟩:=r;rfl
 | byt _=>obtain⟨t,rfl⟩:=r;rfl
 | flt _=>obtain⟨t,rfl⟩:=r;rfl
 | ref _=>cases r;rfl
 | ty _=>cases r;rfl
theorem RelV.inj{x y:V}{u:Value}(r:RelV x u)(q:RelV y u):x=y:=c2u.inj (r.abs.symm.trans q.abs)
theorem Vals.inj:∀ {xs ys:List V} {us:List Value},Vals xs us→Vals ys us→xs=ys
 | _,_,_,.nil,.nil=>rfl
 | _,_,_,.cons r t,.cons r' t'=>by rw[r.inj r',Vals.inj t t']
section
variable {X:Cx} {pins:List (Addr×Obj)} {σ:St} {H:Hp} {s:Shared} {a:Addr} {xs ys:List V}
theorem SqL.of{K:c2f}(h:H a=some (.lst xs)):SqL K H a xs:=.inl (.inl h)
theorem SqT.of{K:c2f}(h:H a=some (.tup xs)):SqT K H a xs:=.inl (.inl h)
theorem Inv.list(I:Inv X pins σ H s)(h:SqL X.K H a xs):∃ its:List Value,Vals xs its∧PlainL s.heap a its.toArray∧xs.length≤sizeLine:=by
 rcases h with h | ⟨o,its,n,hk,hc,hd,hs,hz,r⟩
 · obtain⟨z,its,n,r,e⟩:=h.ok I.hok
   exact⟨its,r,⟨_,n,e,rfl,rfl,rfl⟩,z⟩
 · refine⟨its.toList,r,⟨o,n,I.kIn a o hk,hc,hd,by simpa using hs⟩,?_⟩
   have e:=r.length
   simp only[c2g] at e
   omega
theorem Inv.tuple(I:Inv X pins σ H s)(h:SqT X.K H a xs):∃ its:List Value,Vals xs its∧IsTup s.heap a its.toArray∧xs.length≤sizeLine:=by
 rcases h with h | ⟨o,its,n,hk,hc,hs,hz,r⟩
 · obtain⟨z,its,r,p⟩:=h.ok I.hok
   exact⟨its,r,p,z⟩
 · refine⟨its.toList,r,⟨o,I.kIn a o hk,hc,n,by simpa using hs⟩,?_⟩
   have e:=r.length
   simp only[c2g] at e
   omega
theorem Inv.list_inj(I:Inv X pins σ H s)(h:SqL X.K H a xs)(h':SqL X.K H a ys):xs=ys:=by
 obtain⟨its,r,⟨o,n,e,_,_,d⟩,_⟩:=I.list h
 obtain⟨its',r',⟨o',n',e',_,_,d'⟩,_⟩:=I.list h'
 rw[e] at e';cases e'
 rw[d] at d'
 injection d' with d1 _
 have:its=its':=by simpa using congrArg Array.toList d1
 subst this
 exact r.inj r'
theorem Inv.tuple_inj(I:Inv X pins σ H s)(h:SqT X.K H a xs)(h':SqT X.K H a ys):xs=ys:=by
 obtain⟨its,r,⟨o,e,_,n,d⟩,_⟩:=I.tuple h
 obtain⟨its',r',⟨o',e',_,n',d'⟩,_⟩:=I.tuple h'
 rw[e] at e';cases e'
 rw[d] at d'
 injection d' with d1 _
 have:its=its':=by simpa using congrArg Array.toList d1
 subst this
 exact r.inj r'
end
abbrev Cx.wish(X:Cx)(E:Value→Shared→Prop):Cx:={ X with xe:=E }
abbrev Cx.nox(X:Cx):Cx:=X.wish fun _ _=>False
theorem Cx.Ok.wish{X:Cx}(ok:X.Ok)(E:Value→Shared→Prop):(X.wish E).Ok:=
 ⟨ok.mod,ok.kind,ok.glob,ok.blt,ok.above,ok.inj,ok.has,ok.cab,ok.hd,ok.frames,ok.stk,ok.exf,ok.bs,ok.bsz,ok.noex,ok.exfs,ok.funs,ok.frf⟩
theorem Cx.Ok.unwish{X:Cx}{E:Value→Shared→Prop}(ok:(X.wish E).Ok):X.Ok:=
 ⟨ok.mod,ok.kind,ok.glob,ok.blt,ok.above,ok.inj,ok.has,ok.cab,ok.hd,ok.frames,ok.stk,ok.exf,ok.bs,ok.bsz,ok.noex,ok.exfs,ok.funs,ok.frf⟩
section
variable {X:Cx} {pins:List (Addr×Obj)} {σ:St} {H:Hp} {s:Shared} {E:Value→Shared→Prop}
theorem Inv.wish(I:Inv X pins σ H s)(E:Value→Shared→Prop):Inv (X.wish E) pins σ H s:=⟨I.ok.wish E,I.os,I.bare,I.base,I.loc,I.cell,I.free,I.freeC,I.pin,I.hok,I.len⟩
theorem Inv.unwish(I:Inv (X.wish E) pins σ H s):Inv X pins σ H s:=⟨I.ok.unwish,I.os,I.bare,I.base,I.loc,I.cell,I.free,I.freeC,I.pin,I.hok,I.len⟩
theorem SP.unwish{D:Ends}{f:Flow}{s':Shared}(h:SP (X.wish E) pins D f s'):SP X pins D f s':=by
 cases f with
 | next=>obtain⟨σ',H',I,q⟩:=h;exact⟨σ',H',I.unwish,q⟩
 | brk=>obtain⟨σ',H',I,q⟩:=h;exact⟨σ',H',I.unwish,q⟩
 | cont=>obtain⟨σ',H',I,q⟩:=h;exact⟨σ',H',I.unwish,q⟩
 | ret u=>obtain⟨v,σ',H',I,r,q⟩:=h;exact⟨v,σ',H',I.unwish,r,q⟩
theorem PSs.nox{st:List Stmt}{t:TS}(h:PSs X.nox st t):PSs X st t:=fun pins s σ H D I hw=>
 wpAny_mono (h pins s σ H D (I.wish _) hw) (fun _ _ q=>q.unwish) fun _ _ z=>False.elim z
end
section
variable {X:Cx} {st:Stmt} {rest:List Stmt} {t u:TS} {e:Expr} {te:TE} {pos:Pos}
def tNext:TS:=fun D σ H=>D.nx σ H
def tSeq(t u:TS):TS:=fun D σ H=>t { D with nx:=u D } σ H
theorem pss_nil:PSs X [] tNext:=fun _ _ σ H _ I h=>wpAny_execs_nil ⟨σ,H,I,h⟩
theorem pss_cons(h1:PS X st t)(h2:PSs X rest u):PSs X (st::rest) (tSeq t u):=by
 intro pins s σ H D I h
 refine wpAny_execs_cons (thn (h1 pins s σ H { D with nx:=u D } I h) fun f s1 q=>?_)
 cases f with
 | next=>
   obtain⟨σ',H',I',q⟩:=q
   exact h2 pins s1 σ' H' D I' q
 | ret v=>exact q
 | brk=>exact q
 | cont=>exact q
theorem pss_one(h1:PS X st t):PSs X [st] t:=by
 intro pins s σ H D I h
 refine wpAny_execs_cons (thn (h1 pins s σ H D I h) fun f s1 q=>?_)
 cases f with
 | next=>exact wpAny_execs_nil q
 | ret v=>exact q
 | brk=>exact q
 | cont=>exact q
theorem Inv.quiet{pins:List (Addr×Obj)}{σ:St}{H:Hp}{s:Shared}(I:Inv X pins σ H s):interactive X.env=false:=by simp[interactive,I.ok.kind]
def tDrop(te:TE):TS:=fun D σ H=>te σ H fun _ H1=>D.nx σ H1
theorem ps_expr(he:PE X e te)(hs:swapsWith e none pos.line X.env=pure false:=by rfl):PS X (.Expr e pos) (tDrop te):=by
 intro pins s σ H D I h
 exact wpAny_Expr_any (thn (he pins s σ H _ I h) fun v s1 ⟨x,H1,I1,r1,q1⟩=>⟨σ,H1,I1,q1⟩) I.quiet hs
def tRet(te:TE):TS:=fun D σ H=>te σ H D.rt
theorem ps_ret(he:PE X e te):PS X (.Return (some e) pos) (tRet te):=by
 intro pins s σ H D I h
 exact wpAny_Return_some (thn (he pins s σ H _ I h) fun v s1 ⟨x,H1,I1,r1,q1⟩=>⟨x,σ,H1,I1,r1,q1⟩)
def tIfS(c:TT)(t u:TS):TS:=fun D σ H=>c σ H fun b H1=>if b=true then t D σ H1 else u D σ H1
theorem ps_if{c:Expr}{a b:List Stmt}{tc:TT}(hc:PT X c tc)(ha:PSs X a t)(hb:PSs X b u):PS X (.If c a b pos) (tIfS tc t u):=by
 intro pins s σ H D I h
 refine wpAny_If (thn (hc pins s σ H _ I h) fun d s1 ⟨H1,I1,q1⟩=>?_)
 cases d with
 | true=>exact ha pins s1 σ H1 D I1 q1
 | false=>exact hb pins s1 σ H1 D I1 q1
def tNever:TS:=fun _ _ _=>False
theorem ps_never:PS X st tNever:=fun _ _ _ _ _ _ h=>h.elim
end
abbrev TG:=V→St→Hp→(St→Hp→Prop)→Prop
abbrev TGs:=List V→St→Hp→(St→Hp→Prop)→Prop
def PG(X:Cx)(target:Expr)(t:TG):Prop:=
 ∀ (pins:List (Addr×Obj)) (s:Shared) (σ:St) (H:Hp) (v:V) (u:Value) (Q:St→Hp→Prop),Inv X pins σ H s→RelV v u→t v σ H Q→
   wpAny (model X.prog X.w) X.A (assign target X.env u) (fun _ s'=>∃ σ' H',Inv X pins σ' H' s'∧Q σ' H') X.xe s
def PGs(X:Cx)(ts:List Expr)(t:TGs):Prop:=
 ∀ (pins:List (Addr×Obj)) (s:Shared) (σ:St) (H:Hp) (vs:List V) (us:List Value) (Q:St→Hp→Prop),Inv X pins σ H s→Vals vs us→t vs σ H Q→
   wpAny (model X.prog X.w) X.A (assignInOrder ((assignEach ts X.env).map (·.2)) us) (fun _ s'=>∃ σ' H',Inv X pins σ' H' s'∧Q σ' H') X.xe s
section
variable {X:Cx} {pos:Pos}
def a3l(i:Nat):TG:=fun v σ H Q=>Q (σ.set i (some v)) H
theorem pg_name{i:Nat}{x:Str}(hN:X.N.Nodup)(hi:X.N[i]?=some x)(hx:Loc X.env.scope x)(hf:X.fn x=true∨X.env.scope.names.lookup x=some .local:=by first | exact .inl rfl | exact .inr rfl | assumption):PG X (.Name x pos) (a3l i):=by
 intro pins s σ H v u Q I r h
 exact wpAny_assign_Name (a5i I hN hi hx r (fun s' I'=>⟨_,H,I',h⟩) hf)
def gNil:TGs:=fun vs σ H Q=>vs=[]∧Q σ H
def a5s(t:TG)(u:TGs):TGs:=fun vs σ H Q=>∃ v r,vs=v::r∧t v σ H fun σ' H'=>u r σ' H' Q
theorem pgs_nil:PGs X [] gNil:=by
 intro pins s σ H vs us Q I r h
 obtain⟨e,h⟩:=h
 subst e
 cases r
 exact assignInOrder_nil ⟨σ,H,I,h⟩
theorem pgs_cons{e:Expr}{es:List Expr}{t:TG}{u:TGs}(h1:PG X e t)(h2:PGs X es u)(hs:(assignEach (e::es) X.env).map (·.2)=assign e X.env::(assignEach es X.env).map (·.2):=by rfl):PGs X (e::es) (a5s t u):=by
 intro pins s σ H vs us Q I r h
 obtain⟨v,vr,e1,h⟩:=h
 subst e1
 cases r with
 | cons r rr=>
   rw[hs]
   refine assignInOrder_cons (thn (h1 pins s σ H _ _ _ I r h) fun _ s1 ⟨σ1,H1,I1,q1⟩=>?_)
   exact h2 pins s1 σ1 H1 _ _ Q I1 rr q1
def gTup(K:c2f)(n:Nat)(t:TGs):TG:=fun v σ H Q=>∃ a xs,v=.ref a∧SqT K H a xs∧xs.length=n∧t xs σ H Q
theorem pg_tup{es:List Expr}{k:Nat}{t:TGs}{n:Nat}(hc:X.calm=true)(h:PGs X es t)(hn:(assignEach es X.env).length=n:=by rfl)(hst:(assignEach es X.env).findIdx? (·.1)=none:=by rfl):PG X (.Tuple es k pos) (gTup X.K n t):=by
 intro pins s σ H v u Q I r hw
 obtain⟨a,xs,e1,hq,hl,hw⟩:=hw
 subst e1
 cases r
 obtain⟨its,rv,ht,hz⟩:=I.tuple hq
 refine assign_Tuple_tuple (I.ok.hd hc) ht (by simp[hn,← hl,rv.length]) hst fun h' hx=>?_
 have I1:Inv X pins σ H { s with heap:=h' }:=I.kept (t':=s.toks) fun b o e=>hx b o (c3e (Heap.lt_size e)) e
 exact h pins _ σ H xs _ Q I1 (by simpa using rv) hw
def tAsg(te:TE)(g:TG):TS:=fun D σ H=>te σ H fun x H1=>g x σ H1 D.nx
theorem ps_asg{tg e:Expr}{te:TE}{g:TG}(he:PE X e te)(hg:PG X tg g)(hs:swapsWithSole [tg] e pos.line X.env=pure false:=by rfl)(hw:swappedStores [tg] e X.env=pure none:=by rfl)(h1:(assignEach [tg] X.env).map (·.2)=[assign tg X.env]:=by rfl):PS X (.Assign [tg] e pos) (tAsg te g):=by
 intro pins s σ H D I h
 refine wpAny_Assign_stores (thn (he pins s σ H _ I h) fun v s1 ⟨x,H1,I1,r1,q1⟩=>?_) hs hw
 rw[h1]
 exact thn (hg pins s1 σ H1 x v _ I1 r1 q1) fun _ s2 q=>q
theorem ps_set{i:Nat}{x:Str}{e:Expr}{te:TE}{pos':Pos}(hN:X.N.Nodup)(hi:X.N[i]?=some x)(hx:Loc X.env.scope x)(he:PE X e te)(hs:swapsWith e (some (.Name x pos')) pos.line X.env=pure false:=by rfl)(hf:X.fn x=true∨X.env.scope.names.lookup x=some .local:=by first | exact .inl rfl | exact .inr rfl | assumption) :
   PS X (.Assign [.Name x pos'] e pos) (tAsg te (a3l i)):=by
 intro pins s σ H D I h
 refine wpAny_Assign_Name (thn (he pins s σ H _ I h) fun v s1 ⟨y,H1,I1,r1,q1⟩=>?_) hs
 exact a5i I1 hN hi hx r1 (fun s2 I2=>⟨_,H1,I2,q1⟩) hf
def tPar(i j:Nat)(ta:TA):TS:=fun D σ H=>ta σ H fun vs H1=>∃ v w,vs=[v,w]∧D.nx ((σ.set i (some v)).set j (some w)) H1
theorem ps_par{i j:Nat}{x y:Str}{a b:Expr}{ta:TA}{px py pt:Pos}{kt k2 pt2}(hc:X.calm=true)(hN:X.N.Nodup)(hi:X.N[i]?=some x)(hj:X.N[j]?=some y)(hij:i≠j)(hx:X.env.scope.names.lookup x=some .local)(hy:X.env.scope.names.lookup y=some .local)(ha:PA X [a,b] ta)(hw:swappedStores [.Tuple [.Name x px,.Name y py] kt pt] (.Tuple [a,b] k2 pt2) X.env=pure (some [x,y]))(hs:swapsWithSole [.Tuple [.Name x px,.Name y py] kt pt] (.Tuple [a,b] k2 pt2) pos.line X.env=pure false:=by rfl) :
   PS X (.Assign [.Tuple [.Name x px,.Name y py] kt pt] (.Tuple [a,b] k2 pt2) pos) (tPar i j ta):=by
 intro pins s σ H D I h
 rw[exec_Assign_arm]
 refine wpAny_bind (wpAny_standAt ?_)
 rw[hs]
 refine wpAny_bind (wpAny_pure ?_)
 rw[if_neg (by decide)]
 refine wpAny_bind (Tuple_ (thn (ha _ pins s σ H _ I h) fun us s1 ⟨vs,H1,I1,r1,q1⟩=>?_))
 obtain⟨v,w,e1,q1⟩:=q1
 subst e1
 obtain⟨u1,u2,rfl,rv,rw'⟩ : ∃ u1 u2,us=[u1,u2]∧RelV v u1∧RelV w u2:=by
   cases r1 with
   | cons p q=>
     cases q with
     | cons p' q'=>
       cases q'
       exact⟨_,_,rfl,p,p'⟩
 refine wpAny_newObj_type ?_ (by show 2≤sizeLine;decide)
 have I2:Inv X pins σ H1 { s1 with heap:=s1.heap.push { cls:=.type "tuple",data:=.seq [u1,u2].toArray } }:=I1.kept (t':=s1.toks) fun b o e=>Heap.get?_push_of_some _ e
 rw[hw]
 refine wpAny_bind (wpAny_pure ?_)
 show wpAny (model X.prog X.w) X.A (do rule "assign.swapped-stores";let items ← unpackItems (.ref s1.heap.objs.size) 2 none;assignInOrder [fun v=>bindName X.env y v,fun v=>bindName X.env x v] items.reverse;pure Flow.next) _ _ _
 refine wpAny_bind (wpAny_rule (wpAny_bind (unpackItems_tuple (items:=#[u1,u2]) (I.ok.hd hc) (IsTup.new s1.heap _) fun h' hx'=>?_)))
 have I3:=I2.kept (h':=h') (t':=s1.toks) fun b o e=>hx' b o (c3e (Heap.lt_size e)) e
 show wpAny _ _ (assignInOrder [fun v=>bindName X.env y v,fun v=>bindName X.env x v] [u2,u1] >>= fun _=>pure Flow.next) _ _ _
 refine wpAny_bind (assignInOrder_cons (wpAny_bindName (a5i I3 hN hj (.inl hy) rw' (fun s2 I4=>?_) (.inr hy))))
 refine assignInOrder_cons (wpAny_bindName (a5i I4 hN hi (.inl hx) rv (fun s3 I5=>assignInOrder_nil (wpAny_pure ?_)) (.inr hx)))
 rw[List.set_comm _ _ (Ne.symm hij)] at I5
 exact⟨_,H1,I5,q1⟩
end
section
variable {X:Cx} {pos:Pos}
def b4v(c:TT)(tb:TS):TS:=fun D σ H=>∃ W:Nat→St→Hp→Prop,(∃ m,W m σ H)∧∀ m σ H,W m σ H→
 c σ H fun b H1=>if b=true then ∃ N:St→Hp→Prop,(∀ σ' H',N σ' H'→∃ m',m' < m∧W m' σ' H')∧tb { D with nx:=N,ct:=N,bk:=D.nx } σ H1 else D.nx σ H1
theorem ps_while{c:Expr}{body:List Stmt}{tc:TT}{tb:TS}(hp:PassesOwn (model X.prog X.w) X.A X.env X.xe)(hc:PT X c tc)(hb:PSs X body tb):PS X (.While c body [] pos) (b4v tc tb):=by
 intro pins s σ H D I h
 obtain⟨W,⟨m0,w0⟩,turn⟩:=h
 refine wpAny_While (codeAny_whileLoop (fun n s'=>∃ σ' H',Inv X pins σ' H' s'∧W n σ' H') ?_ m0 ⟨σ,H,I,w0⟩)
 rintro n s1 ⟨σ1,H1,I1,w1⟩
 refine wpAny_passesOwn hp (thn (hc pins s1 σ1 H1 _ I1 (turn n σ1 H1 w1)) fun b s2 ⟨H2,I2,q2⟩=>?_)
 cases b with
 | true=>
   obtain⟨N,hN,q2⟩:=q2
   rw[if_pos rfl]
   refine wpAny_passesOwn hp (thn (hb pins s2 σ1 H2 _ I2 q2) fun f s3 q3=>?_)
   cases f with
   | next=>
     obtain⟨σ3,H3,I3,n3⟩:=q3
     obtain⟨m',hm,w3⟩:=hN σ3 H3 n3
     exact⟨m',hm,σ3,H3,I3,w3⟩
   | cont=>
     obtain⟨σ3,H3,I3,n3⟩:=q3
     obtain⟨m',hm,w3⟩:=hN σ3 H3 n3
     exact⟨m',hm,σ3,H3,I3,w3⟩
   | brk=>exact q3
   | ret v=>exact q3
 | false=>
   rw[if_neg c3d]
   exact wpAny_execs_nil ⟨σ1,H2,I2,q2⟩
end
structure It where
 go:Nat→Hp→Prop
 yld:Nat→Hp→V→Hp→Prop
 stop:Nat→Hp→Prop
def FpOk(X:Cx)(pins:List (Addr×Obj))(H:Hp)(b:Addr):Prop:=
 H b=none∧b≠X.env.locals∧b∉X.fs∧(b∈X.ex∨X.s₀.heap.objs.size≤b)∧(∀ x c,X.env.cells.lookup x=some c→c≠b)∧∀ p∈X.pn++pins,p.1≠b
theorem Inv.fpOk{X:Cx}{pins:List (Addr×Obj)}{σ:St}{H H':Hp}{s:Shared}{b:Addr}(I:Inv X pins σ H s)(hb:s.heap.objs.size≤b)(hn:H' b=none):FpOk X pins H' b:=by
 refine⟨hn,Nat.ne_of_gt (c3g I.lt hb),I.nofs hb,.inr (c4g I.sz hb),fun x c e z=>?_,fun p hp z=>?_⟩
 · obtain⟨v,q⟩:=I.cell x c e
   exact absurd (c3g q.lt (by rw[z];exact hb)) (c4n _)
 · exact absurd (c3g (Heap.lt_size (I.pin p hp).1) (by rw[z];exact hb)) (c4n _)
structure Turn(P:Program)(w:World)(K:c2f)(tg:Expr)(J:It)(fp:List Addr)(it:Addr)(tn:Nat→Heap→Prop):Prop where
 mem:it∈fp
 obj:∀ i h,tn i h→∀ b∈fp,∃ o,h.get? b=some o∧∀ v,o.data≠.cell v
 keep:∀ i h h',tn i h→(∀ b∈fp,∀ o,h.get? b=some o→h'.get? b=some o)→tn i h'
 item:∀ (X:Cx),X.prog=P→X.w=w→X.K=K→X.calm=true→∀ (i:Nat) (pins:List (Addr×Obj)) (s:Shared) (σ:St) (H:Hp) (E:Value→Shared→Prop),Inv X pins σ H s→(∀ b∈fp,FpOk X pins H b)→tn i s.heap→J.go i H→
   wpAny (model P w) X.A (pyNext (.ref it)) (fun r s1=>∃ u,r=some u∧
     wpAny (model P w) X.A (letOwnedTupleGo tg (.ref it) u) (fun _ s2=>∃ x H',Inv X pins σ H' s2∧RelV x u∧J.yld i H x H'∧tn (i+1) s2.heap∧∀ b∈fp,H' b=none) E s1) E s
 done:∀ (X:Cx),X.prog=P→X.w=w→X.K=K→X.calm=true→∀ (i:Nat) (pins:List (Addr×Obj)) (s:Shared) (σ:St) (H:Hp) (E:Value→Shared→Prop),Inv X pins σ H s→(∀ b∈fp,FpOk X pins H b)→tn i s.heap→J.stop i H→
   wpAny (model P w) X.A (pyNext (.ref it)) (fun r s1=>r=none∧Inv X pins σ H s1) E s
 self:∀ (A:Around) (i:Nat) (s:Shared) (Q:Value→Shared→Prop) (E:Value→Shared→Prop),tn i s.heap→Q (.ref it) s→wpAny (model P w) A (pyIter (.ref it)) Q E s
abbrev TI:=St→Hp→(It→Hp→Prop)→Prop
def PIE(X:Cx)(pins:List (Addr×Obj))(σ:St)(tg:Expr)(R:It→Hp→Prop)(itv:Value)(s2:Shared):Prop:=
 ∃ (it:Addr) (fp:List Addr) (tn:Nat→Heap→Prop) (J:It) (H':Hp),itv=.ref it∧Inv X pins σ H' s2∧Turn X.prog X.w X.K tg J fp it tn∧tn 0 s2.heap∧(∀ b∈fp,FpOk X pins H' b)∧R J H'
def PI(X:Cx)(tg iter:Expr)(wi:TI):Prop:=
 ∀ (pins:List (Addr×Obj)) (s:Shared) (σ:St) (H:Hp) (R:It→Hp→Prop),Inv X pins σ H s→wi σ H R→
   wpAny (model X.prog X.w) X.A (eval iter X.env) (fun v s1=>wpAny (model X.prog X.w) X.A (pyIter v) (PIE X pins σ tg R) X.xe s1) X.xe s
theorem go_of{M:Model}{A:Around}{E:Value→Shared→Prop}{s:Shared}{tg:Expr}{it:Addr}{u:Value}{o:Obj}{n:String}{vs:Array Value}{Q:Unit→Shared→Prop}(ho:s.heap.get? it=some o)(hc:o.cls=.type n)(hd:o.data=.fields vs)(hn:["enumerate","zip","dict_itemiterator","dict_reverseitemiterator","odict_iterator","itertools.zip_longest","itertools.pairwise"].contains n=false)(hQ:Q () s):wpAny M A (letOwnedTupleGo tg (.ref it) u) Q E s:=by
 unfold letOwnedTupleGo
 cases tg<;>first
   | exact wpAny_pure hQ
   | (cases u<;>first
       | exact wpAny_pure hQ
       | (refine wpAny_bind (wpAny_load ho ?_)
          rw[hc,hd]
          show wpAny M A (if (["enumerate","zip","dict_itemiterator","dict_reverseitemiterator","odict_iterator","itertools.zip_longest","itertools.pairwise"].contains n && vs[0]? == some (rawInt _))=true then _ else _) Q E s
          rw[if_neg (by intro h;rw[hn,Bool.false_and] at h;cases h)]
          exact wpAny_pure hQ))
def Itl(K:c2f)(a:Addr):It:=
 ⟨fun i H=>∃ xs x,SqL K H a xs∧xs[i]?=some x,fun i H x H'=>H'=H∧∀ xs,SqL K H a xs→xs[i]?=some x,fun i H=>∃ xs,SqL K H a xs∧xs.length≤i⟩
def Itt(K:c2f)(a:Addr):It:=
 ⟨fun i H=>∃ xs x,SqT K H a xs∧xs[i]?=some x,fun i H x H'=>H'=H∧∀ xs,SqT K H a xs→xs[i]?=some x,fun i H=>∃ xs,SqT K H a xs∧xs.length≤i⟩
def Itr(lo:Int)(n:Nat):It:=⟨fun i _=>i<n,fun i H x H'=>H'=H∧x=.int (lo+i),fun i _=>n≤i⟩
theorem b8b{P:Program}{w:World}{K:c2f}{tg:Expr}(a it:Addr):Turn P w K tg (Itl K a) [it] it (fun i h=>h.IsListIter it a i) where
 mem:=by simp
 obj:=fun i h st b hb=>by
   have e:b=it:=by simpa using hb
   subst e
   obtain⟨o,e,c,d⟩:=st
   exact⟨o,e,fun v z=>by rw[d] at z;cases z⟩
 keep:=fun i h h' st k=>st.at fun o e=>k it (by simp) o e
 item:=by
   intro X hP hw hK hc i pins s σ H E I hf st hg
   subst hP hw hK
   obtain⟨xs,x,hq,hx⟩:=hg
   obtain⟨its,rv,p,hz⟩:=I.list hq
   obtain⟨u,hu,ru⟩:=rv.get hx
   obtain⟨f0,f1,f2,f3,f4,f5⟩:=hf it (by simp)
   refine wpAny_pyNext_list_item st p.isList (x:=u) (by simpa using hu) fun h' st' sb=>?_
   have I1:Inv X pins σ H { s with heap:=h' }:=I.turned (t':=s.toks) (fun b o hb e=>(sb.2 b hb).trans e) f0 f1 f3 f4 f5
   obtain⟨o,e,c,d⟩:=id st'
   exact⟨u,rfl,go_of (s:={ s with heap:=h' }) e c d (by decide) ⟨x,H,I1,ru,⟨rfl,fun ys hy=>by rw[I.list_inj hy hq];exact hx⟩,st',fun b hb=>(hf b hb).1⟩⟩
 done:=by
   intro X hP hw hK hc i pins s σ H E I hf st hg
   subst hP hw hK
   obtain⟨xs,hq,hx⟩:=hg
   obtain⟨its,rv,p,hz⟩:=I.list hq
   obtain⟨f0,f1,f2,f3,f4,f5⟩:=hf it (by simp)
   have hl:=rv.length
   exact wpAny_pyNext_list_end (I.ok.hd hc) st p.isList (by simp;omega) fun h' eb=>⟨rfl,I.turned (t':=s.toks) (fun b o hb e=>eb b o hb e) f0 f1 f3 f4 f5⟩
 self:=fun _ _ _ _ _ st h=>wpAny_pyIter_listiter st h
theorem b6m{P:Program}{w:World}{K:c2f}{tg:Expr}(a it:Addr):Turn P w K tg (Itt K a) [it] it (fun i h=>h.IsTupleIter it a i) where
 mem:=by simp
 obj:=fun i h st b hb=>by
   have e:b=it:=by simpa using hb
   subst e
   obtain⟨o,e,c,d⟩:=st
   exact⟨o,e,fun v z=>by rw[d] at z;cases z⟩
 keep:=fun i h h' st k=>st.at fun o e=>k it (by simp) o e
 item:=by
   intro X hP hw hK hc i pins s σ H E I hf st hg
   subst hP hw hK
   obtain⟨xs,x,hq,hx⟩:=hg
   obtain⟨its,rv,p,hz⟩:=I.tuple hq
   obtain⟨u,hu,ru⟩:=rv.get hx
   obtain⟨f0,f1,f2,f3,f4,f5⟩:=hf it (by simp)
   refine wpAny_pyNext_tuple_item st (show s.heap.IsTuple a its.toArray from p) (x:=u) (by simpa using hu) fun h' st' sb=>?_
   have I1:Inv X pins σ H { s with heap:=h' }:=I.turned (t':=s.toks) (fun b o hb e=>(sb.2 b hb).trans e) f0 f1 f3 f4 f5
   obtain⟨o,e,c,d⟩:=id st'
   exact⟨u,rfl,go_of (s:={ s with heap:=h' }) e c d (by decide) ⟨x,H,I1,ru,⟨rfl,fun ys hy=>by rw[I.tuple_inj hy hq];exact hx⟩,st',fun b hb=>(hf b hb).1⟩⟩
 done:=by
   intro X hP hw hK hc i pins s σ H E I hf st hg
   subst hP hw hK
   obtain⟨xs,hq,hx⟩:=hg
   obtain⟨its,rv,p,hz⟩:=I.tuple hq
   obtain⟨f0,f1,f2,f3,f4,f5⟩:=hf it (by simp)
   have hl:=rv.length
   exact wpAny_pyNext_tuple_end (I.ok.hd hc) st (show s.heap.IsTuple a its.toArray from p) (by simp;omega) fun h' eb=>⟨rfl,I.turned (t':=s.toks) (fun b o hb e=>eb b o hb e) f0 f1 f3 f4 f5⟩
 self:=fun _ _ _ _ _ st h=>wpAny_pyIter_tupleiter st h
theorem b6n{P:Program}{w:World}{K:c2f}{tg:Expr}(it:Addr)(lo:Int)(n:Nat):Turn P w K tg (Itr lo n) [it] it (fun i h=>IsRangeIter h it (lo+(i:Nat)*1) ((n:Int) - (i:Nat)) 1) where
 mem:=by simp
 obj:=fun i h st b hb=>by
   have e:b=it:=by simpa using hb
   subst e
   exact⟨_,st,fun v z=>by
     have z':Data.fields _=Data.cell v:=z
     cases z'⟩
 keep:=fun i h h' st k=>k it (by simp) _ st
 item:=by
   intro X hP hw hK hc i pins s σ H E I hf st hg
   subst hP hw hK
   obtain⟨f0,f1,f2,f3,f4,f5⟩:=hf it (by simp)
   have W:=Walks.range (prog:=X.prog) (w:=X.w) (I.ok.hd hc) it lo 1 n
   refine W.item i s _ _ hg st fun v h' tk hv st' kk=>?_
   obtain⟨t,rfl⟩:=hv
   have I1:Inv X pins σ H { s with heap:=h',toks:=tk }:=I.turned (fun b o hb e=>kk b o (by simpa using hb) e) f0 f1 f3 f4 f5
   refine⟨_,rfl,go_of (s:={ s with heap:=h',toks:=tk }) (n := "range_iterator") st' rfl rfl (by decide) ⟨.int (lo+i),H,I1,⟨t,?_⟩,⟨rfl,rfl⟩,st',fun b hb=>(hf b hb).1⟩⟩
   rw[Int.mul_one]
 done:=by
   intro X hP hw hK hc i pins s σ H E I hf st hg
   subst hP hw hK
   obtain⟨f0,f1,f2,f3,f4,f5⟩:=hf it (by simp)
   exact wpAny_pyNext_range_end (I.ok.hd hc) st (by have:n≤i:=hg;omega) fun h' eb=>⟨rfl,I.turned (t':=s.toks) (fun b o hb e=>eb b o hb e) f0 f1 f3 f4 f5⟩
 self:=fun _ _ _ _ _ st h=>wpAny_pyIter_rangeiter st h
end L2
namespace L2
open PySem PySem.Spec PyProof.Rows
section
variable {X:Cx} {tg:Expr}
def iList(K:c2f)(tl:TE):TI:=fun σ H R=>tl σ H fun x H1=>∃ a,x=.ref a∧(∃ xs,SqL K H1 a xs)∧R (Itl K a) H1
def iTup(K:c2f)(tl:TE):TI:=fun σ H R=>tl σ H fun x H1=>∃ a,x=.ref a∧(∃ xs,SqT K H1 a xs)∧R (Itt K a) H1
theorem pi_list{l:Expr}{tl:TE}(hl:PE X l tl):PI X tg l (iList X.K tl):=by
 intro pins s σ H R I h
 refine thn (hl pins s σ H _ I h) fun v s1 ⟨x,H1,I1,r1,q1⟩=>?_
 obtain⟨a,e,⟨xs,hq⟩,q⟩:=q1
 subst e
 cases r1
 obtain⟨its,rv,p,hz⟩:=I1.list hq
 refine wpAny_pyIter_list p.isList ?_
 refine⟨s1.heap.objs.size,[s1.heap.objs.size],_,_,H1,rfl,I1.kept (t':=s1.toks) fun b o e=>Heap.get?_push_of_some _ e,b8b a _,⟨_,Heap.get?_push_size _ rfl,rfl,rfl⟩,fun b hb=>?_,q⟩
 have e:b=s1.heap.objs.size:=by simpa using hb
 subst e
 exact I1.fpOk (c2o _) (I1.hok.fresh (c2o _))
theorem pi_tup{l:Expr}{tl:TE}(hl:PE X l tl):PI X tg l (iTup X.K tl):=by
 intro pins s σ H R I h
 refine thn (hl pins s σ H _ I h) fun v s1 ⟨x,H1,I1,r1,q1⟩=>?_
 obtain⟨a,e,⟨xs,hq⟩,q⟩:=q1
 subst e
 cases r1
 obtain⟨its,rv,p,hz⟩:=I1.tuple hq
 refine wpAny_pyIter_tuple (show s1.heap.IsTuple a its.toArray from p) ?_
 refine⟨s1.heap.objs.size,[s1.heap.objs.size],_,_,H1,rfl,I1.kept (t':=s1.toks) fun b o e=>Heap.get?_push_of_some _ e,b6m a _,⟨_,Heap.get?_push_size _ rfl,rfl,rfl⟩,fun b hb=>?_,q⟩
 have e:b=s1.heap.objs.size:=by simpa using hb
 subst e
 exact I1.fpOk (c2o _) (I1.hok.fresh (c2o _))
theorem b5m{pins:List (Addr×Obj)}{σ:St}{H:Hp}{s:Shared}{R:It→Hp→Prop}{E:Value→Shared→Prop}{lo hi:Int}{t u v:Tok}{tk:Nat}(I:Inv X pins σ H s)(h1:-(2^62)≤lo)(h2:lo<2^62)(h3:-(2^62)≤hi)(h4:hi<2^62)(q:R (Itr lo (hi - lo).toNat) H):wpAny (model X.prog X.w) X.A (pyIter (.ref s.heap.objs.size)) (PIE X pins σ tg R) E { s with heap:=s.heap.push { cls:=.type "range",data:=.fields #[.int lo t,.int hi u,.int 1 v] },toks:=tk }:=by
 refine wpAny_pyIter_range (IsRange.new ..) (small_one h1 h2 h3 h4) ?_
 have I1:Inv X pins σ H { s with heap:=s.heap.push { cls:=.type "range",data:=.fields #[.int lo t,.int hi u,.int 1 v] },toks:=tk }:=I.kept fun b o e=>Heap.get?_push_of_some _ e
 refine⟨(s.heap.push { cls:=.type "range",data:=.fields #[.int lo t,.int hi u,.int 1 v] }).objs.size,[(s.heap.push { cls:=.type "range",data:=.fields #[.int lo t,.int hi u,.int 1 v] }).objs.size],_,_,H,rfl,
   I1.kept (t':=tk) fun b o e=>Heap.get?_push_of_some _ e,b6n _ lo (hi - lo).toNat,?_,fun b hb=>?_,q⟩
 · have e1:lo+((0:Nat):Int)*1=lo:=by simp
   have e2:(((hi - lo).toNat:Nat):Int) - ((0:Nat):Int)=Builtin.Range.rangeSize lo hi 1:=by rw[rangeSize_one];split<;>omega
   show IsRangeIter _ _ (lo+((0:Nat):Int)*1) ((((hi - lo).toNat:Nat):Int) - ((0:Nat):Int)) 1
   rw[e1,e2]
   exact Heap.get?_push_size _ rfl
 · have e:b=(s.heap.push { cls:=.type "range",data:=.fields #[.int lo t,.int hi u,.int 1 v] }).objs.size:=by simpa using hb
   subst e
   exact I1.fpOk (c2o _) (I1.hok.fresh (c2o _))
def iRng1(ta:TA):TI:=fun σ H R=>ta σ H fun vs H1=>∃ j:Int,vs=[.int j]∧-(2^62)≤j∧j<2^62∧R (Itr 0 j.toNat) H1
def iRng2(ta:TA):TI:=fun σ H R=>ta σ H fun vs H1=>∃ i j:Int,vs=[.int i,.int j]∧(-(2^62)≤i∧i<2^62∧-(2^62)≤j∧j<2^62)∧R (Itr i (j - i).toNat) H1
theorem b9i{a:Expr}{ta:TA}{p pos:Pos}(hg:Gl X "range")(hm:X.mg "range" = none)(ha:PA X [a] ta)(hs:starEach [a] X.env=[(false,eval a X.env)]:=by rfl):PI X tg (.Call (.Name "range" p) [a] [] pos) (iRng1 ta):=by
 intro pins s σ H R I h
 refine Call_ (a8x I hg hm boot_range (c5g (thn (ha pos pins s σ H _ I h) fun us s1 ⟨vs,H1,I1,r1,q1⟩=>?_) hs rfl))
 obtain⟨j,e,q1,q2,q⟩:=q1
 subst e
 cases r1 with
 | cons r rr=>
   cases rr
   obtain⟨t,rfl⟩:=r
   exact call_range_1 (b5m I1 (by omega) (by omega) q1 q2 (by simpa using q))
theorem b9h{a b:Expr}{ta:TA}{p pos:Pos}(hg:Gl X "range")(hm:X.mg "range" = none)(ha:PA X [a,b] ta)(hs:starEach [a,b] X.env=[(false,eval a X.env),(false,eval b X.env)]:=by rfl)(hs2:starEach [b] X.env=[(false,eval b X.env)]:=by rfl) :
   PI X tg (.Call (.Name "range" p) [a,b] [] pos) (iRng2 ta):=by
 intro pins s σ H R I h
 refine Call_ (a8x I hg hm boot_range (c5g (thn (ha pos pins s σ H _ I h) fun us s1 ⟨vs,H1,I1,r1,q1⟩=>?_) (by rw[hs,hs2]) (by rw[hs2];rfl)))
 obtain⟨i,j,e,⟨q1,q2,q3,q4⟩,q⟩:=q1
 subst e
 cases r1 with
 | cons r rr=>
   cases rr with
   | cons r' rr=>
     cases rr
     obtain⟨t,rfl⟩:=r
     obtain⟨t',rfl⟩:=r'
     exact call_range_2 (b5m I1 q1 q2 q3 q4 q)
def tFor(wi:TI)(g:TG)(tb:TS):TS:=fun D σ H=>wi σ H fun J H1=>∃ W:Nat→Nat→St→Hp→Prop,(∃ m,W 0 m σ H1)∧∀ i m σ H,W i m σ H→
 (J.stop i H∧D.nx σ H)∨(J.go i H∧∃ N:St→Hp→Prop,(∀ σ' H',N σ' H'→∃ m',m' < m∧W (i+1) m' σ' H')∧∀ x H',J.yld i H x H'→g x σ H' fun σ2 H2=>tb { D with nx:=N,ct:=N,bk:=D.nx } σ2 H2)
def a4d(fp:List Addr)(h:Heap):List (Addr×Obj):=fp.filterMap fun b=>(h.get? b).map fun o=>(b,o)
theorem a1f{fp:List Addr}{h:Heap}{b:Addr}{o:Obj}(hb:b∈fp)(e:h.get? b=some o):(b,o)∈a4d fp h:=List.mem_filterMap.mpr ⟨b,hb,by rw[e];rfl⟩
theorem c0c{fp:List Addr}{h:Heap}{p:Addr×Obj}(hp:p∈a4d fp h):p.1∈fp∧h.get? p.1=some p.2:=by
 obtain⟨b,hb,e⟩:=List.mem_filterMap.mp hp
 cases q:h.get? b with
 | none=>rw[q] at e;cases e
 | some o=>
   rw[q] at e
   have e':(b,o)=p:=c2u.inj e
   subst e'
   exact⟨hb,q⟩
theorem Inv.pinned{pins:List (Addr×Obj)}{σ:St}{H:Hp}{s:Shared}{fp:List Addr}(I:Inv X pins σ H s)(hf:∀ b∈fp,FpOk X pins H b)(ho:∀ b∈fp,∃ o,s.heap.get? b=some o∧∀ v,o.data≠.cell v):Inv X (pins++a4d fp s.heap) σ H s:=
 I.pins_of fun p hp=>(c3n.mp hp).elim (fun z=>I.pin p (c2j _ z)) fun z=>by
   obtain⟨hb,e⟩:=c0c z
   obtain⟨f0,f1,f2,_⟩:=hf p.1 hb
   obtain⟨o,e',d⟩:=ho p.1 hb
   rw[e] at e';cases e'
   exact⟨e,f0,f1,f2,d⟩
theorem Inv.unpinned{pins pl:List (Addr×Obj)}{σ:St}{H:Hp}{s:Shared}(I:Inv X (pins++pl) σ H s):Inv X pins σ H s:=I.pins_of fun p hp=>I.pin p (c2j _ (c7d _ hp))
theorem ps_for{iter:Expr}{body:List Stmt}{wi:TI}{g:TG}{tb:TS}{pos:Pos}(hp:PassesOwn (model X.prog X.w) X.A X.env X.xe)(hc:X.calm=true)(hi:PI X tg iter wi)(hg:PG X tg g)(hb:PSs X body tb)(hs:∀ x,foldedSetIterable iter X.env x=pure x:=by intro _;rfl):PS X (.For tg iter body [] pos) (tFor wi g tb):=by
 intro pins s σ H D I h
 refine wpAny_For (thn (hi pins s σ H _ I h) fun v s1 h1=>thn h1 fun itv s2 h2=>?_) hs
 obtain⟨it,fp,tn,J,H2,e,I2,T,st2,f2,W,⟨m0,w0⟩,turn⟩:=h2
 subst e
 have stat:∀ {H':Hp},(∀ b∈fp,H' b=none)→∀ b∈fp,FpOk X pins H' b:=fun hn b hb=>⟨hn b hb,(f2 b hb).2⟩
 refine codeAny_forLoop_any (fun n s'=>∃ i σ' H',Inv X pins σ' H' s'∧tn i s'.heap∧(∀ b∈fp,H' b=none)∧W i n σ' H') ?_ m0 ⟨0,σ,H2,I2,st2,fun b hb=>(f2 b hb).1,w0⟩
 rintro n s3 ⟨i,σ3,H3,I3,st3,fr3,w3⟩
 rcases turn i n σ3 H3 w3 with⟨stop,qn⟩ | ⟨go,N,hN,step⟩
 · refine wpAny_passesOwn hp (thn (T.done X rfl rfl rfl hc i pins s3 σ3 H3 X.xe I3 (stat fr3) st3 stop) fun r s4 ⟨hr,I4⟩=>?_)
   subst hr
   exact wpAny_execs_nil ⟨σ3,H3,I4,qn⟩
 · refine wpAny_passesOwn hp (thn (T.item X rfl rfl rfl hc i pins s3 σ3 H3 X.xe I3 (stat fr3) st3 go) fun r s4 ⟨u,hr,h4⟩=>?_)
   subst hr
   refine wpAny_passesOwn hp (thn h4 fun _ s5 ⟨x,H5,I5,r5,y5,st5,fr5⟩=>?_)
   have I5':=I5.pinned (stat fr5) (T.obj _ _ st5)
   refine wpAny_passesOwn hp (thn (hg _ s5 σ3 H5 x u _ I5' r5 (step x H5 y5)) fun _ s6 ⟨σ6,H6,I6,q6⟩=>?_)
   refine wpAny_passesOwn hp (thn (hb _ s6 σ6 H6 _ I6 q6) fun f s7 q7=>?_)
   have again:∀ {σ7:St} {H7:Hp},Inv X (pins++a4d fp s5.heap) σ7 H7 s7→N σ7 H7→∃ m,m<n∧∃ i σ' H',Inv X pins σ' H' s7∧tn i s7.heap∧(∀ b∈fp,H' b=none)∧W i m σ' H':=fun {σ7 H7} I7 n7=>by
     obtain⟨m',hm,w7⟩:=hN σ7 H7 n7
     refine⟨m',hm,i+1,σ7,H7,I7.unpinned,T.keep _ _ _ st5 fun b hb o e=>(I7.pin (b,o) (c2j _ (c2j _ (a1f hb e)))).1,fun b hb=>?_,w7⟩
     obtain⟨o,e,d⟩:=T.obj _ _ st5 b hb
     exact (I7.pin (b,o) (c2j _ (c2j _ (a1f hb e)))).2.1
   cases f with
   | next=>obtain⟨σ7,H7,I7,n7⟩:=q7;exact again I7 n7
   | cont=>obtain⟨σ7,H7,I7,n7⟩:=q7;exact again I7 n7
   | brk=>obtain⟨σ7,H7,I7,q7⟩:=q7;exact⟨σ7,H7,I7.unpinned,q7⟩
   | ret v=>obtain⟨x7,σ7,H7,I7,r7,q7⟩:=q7;exact⟨x7,σ7,H7,I7.unpinned,r7,q7⟩
end
theorem b1i{K:c2f}{a:Addr}{xs:List V}{g:TG}{tb:TS}{D:Ends}{σ:St}{H:Hp}(Pv:Nat→St→Hp→Prop)(h0:Pv 0 σ H)(hl:∀ i σ H,i≤xs.length→Pv i σ H→SqL K H a xs)(hs:∀ i x σ H,xs[i]?=some x→Pv i σ H→g x σ H fun σ2 H2=>tb { D with nx:=Pv (i+1),ct:=Pv (i+1),bk:=D.nx } σ2 H2)(hd:∀ σ H,Pv xs.length σ H→D.nx σ H) :
   ∃ W:Nat→Nat→St→Hp→Prop,(∃ m,W 0 m σ H)∧∀ i m σ H,W i m σ H→
     ((Itl K a).stop i H∧D.nx σ H)∨((Itl K a).go i H∧∃ N:St→Hp→Prop,(∀ σ' H',N σ' H'→∃ m',m' < m∧W (i+1) m' σ' H')∧∀ x H',(Itl K a).yld i H x H'→g x σ H' fun σ2 H2=>tb { D with nx:=N,ct:=N,bk:=D.nx } σ2 H2):=by
 refine⟨fun i m σ H=>m=xs.length - i∧i≤xs.length∧Pv i σ H,⟨xs.length,by simp,c4d _,h0⟩,?_⟩
 rintro i m σ H ⟨rfl,hi,p⟩
 have q:=hl i σ H hi p
 by_cases hlt:i<xs.length
 · refine .inr ⟨⟨xs,xs[i],q,by simp[hlt]⟩,Pv (i+1),fun σ' H' p'=>⟨xs.length - (i+1),by omega,rfl,hlt,p'⟩,fun x H' y=>?_⟩
   obtain⟨e,y⟩:=y
   subst e
   exact hs i x σ _ (y xs q) p
 · have e:i=xs.length:=by omega
   subst e
   exact .inl ⟨⟨xs,q,c2o _⟩,hd σ H p⟩
theorem for_tup{K:c2f}{a:Addr}{xs:List V}{g:TG}{tb:TS}{D:Ends}{σ:St}{H:Hp}(Pv:Nat→St→Hp→Prop)(h0:Pv 0 σ H)(hl:∀ i σ H,i≤xs.length→Pv i σ H→SqT K H a xs)(hs:∀ i x σ H,xs[i]?=some x→Pv i σ H→g x σ H fun σ2 H2=>tb { D with nx:=Pv (i+1),ct:=Pv (i+1),bk:=D.nx } σ2 H2)(hd:∀ σ H,Pv xs.length σ H→D.nx σ H) :
   ∃ W:Nat→Nat→St→Hp→Prop,(∃ m,W 0 m σ H)∧∀ i m σ H,W i m σ H→
     ((Itt K a).stop i H∧D.nx σ H)∨((Itt K a).go i H∧∃ N:St→Hp→Prop,(∀ σ' H',N σ' H'→∃ m',m' < m∧W (i+1) m' σ' H')∧∀ x H',(Itt K a).yld i H x H'→g x σ H' fun σ2 H2=>tb { D with nx:=N,ct:=N,bk:=D.nx } σ2 H2):=by
 refine⟨fun i m σ H=>m=xs.length - i∧i≤xs.length∧Pv i σ H,⟨xs.length,by simp,c4d _,h0⟩,?_⟩
 rintro i m σ H ⟨rfl,hi,p⟩
 have q:=hl i σ H hi p
 by_cases hlt:i<xs.length
 · refine .inr ⟨⟨xs,xs[i],q,by simp[hlt]⟩,Pv (i+1),fun σ' H' p'=>⟨xs.length - (i+1),by omega,rfl,hlt,p'⟩,fun x H' y=>?_⟩
   obtain⟨e,y⟩:=y
   subst e
   exact hs i x σ _ (y xs q) p
 · have e:i=xs.length:=by omega
   subst e
   exact .inl ⟨⟨xs,q,c2o _⟩,hd σ H p⟩
theorem a9b{lo:Int}{n:Nat}{g:TG}{tb:TS}{D:Ends}{σ:St}{H:Hp}(Pv:Nat→St→Hp→Prop)(h0:Pv 0 σ H)(hs:∀ i σ H,i<n→Pv i σ H→g (.int (lo+i)) σ H fun σ2 H2=>tb { D with nx:=Pv (i+1),ct:=Pv (i+1),bk:=D.nx } σ2 H2)(hd:∀ σ H,Pv n σ H→D.nx σ H) :
   ∃ W:Nat→Nat→St→Hp→Prop,(∃ m,W 0 m σ H)∧∀ i m σ H,W i m σ H→
     ((Itr lo n).stop i H∧D.nx σ H)∨((Itr lo n).go i H∧∃ N:St→Hp→Prop,(∀ σ' H',N σ' H'→∃ m',m' < m∧W (i+1) m' σ' H')∧∀ x H',(Itr lo n).yld i H x H'→g x σ H' fun σ2 H2=>tb { D with nx:=N,ct:=N,bk:=D.nx } σ2 H2):=by
 refine⟨fun i m σ H=>m=n - i∧i≤n∧Pv i σ H,⟨n,by simp,c4d _,h0⟩,?_⟩
 rintro i m σ H ⟨rfl,hi,p⟩
 by_cases hlt:i<n
 · refine .inr ⟨hlt,Pv (i+1),fun σ' H' p'=>⟨n - (i+1),by omega,rfl,hlt,p'⟩,fun x H' y=>?_⟩
   obtain⟨e,y⟩:=y
   subst e y
   exact hs i σ _ hlt p
 · have e:i=n:=by omega
   subst e
   exact .inl ⟨c2o _,hd σ H p⟩
theorem b0q{c:TT}{tb:TS}{D:Ends}{σ:St}{H:Hp}(Pv:St→Hp→Prop)(μ:St→Hp→Nat)(h0:Pv σ H)(hs:∀ σ H,Pv σ H→c σ H fun b H1=>if b=true then tb { D with nx:=fun σ' H'=>Pv σ' H'∧μ σ' H' < μ σ H,ct:=fun σ' H'=>Pv σ' H'∧μ σ' H' < μ σ H,bk:=D.nx } σ H1 else D.nx σ H1)(mono:∀ σ H Q Q',(∀ b H1,Q b H1→Q' b H1)→c σ H Q→c σ H Q'):b4v c tb D σ H:=by
 refine⟨fun m σ H=>m=μ σ H∧Pv σ H,⟨_,rfl,h0⟩,?_⟩
 rintro m σ H ⟨rfl,p⟩
 refine mono σ H _ _ (fun b H1 q=>?_) (hs σ H p)
 cases b with
 | true=>exact⟨_,fun σ' H' ⟨p',l⟩=>⟨_,l,rfl,p'⟩,q⟩
 | false=>exact q
end L2
namespace L2
open PySem PySem.Spec PyProof.Rows
abbrev R2:=V→V→Hp→VK→Prop
def OpR(X:Cx)(f:Value→Value→Sem Value)(r:R2):Prop:=
 ∀ (pins:List (Addr×Obj)) (s:Shared) (σ:St) (H:Hp) (x y:V) (v u:Value) (Q:VK),Inv X pins σ H s→RelV x v→RelV y u→r x y H Q→
   wpAny (model X.prog X.w) X.A (f v u) (EP X pins σ Q) X.xe s
def UnR(X:Cx)(f:Value→Sem Value)(r:V→Hp→VK→Prop):Prop:=
 ∀ (pins:List (Addr×Obj)) (s:Shared) (σ:St) (H:Hp) (x:V) (v:Value) (Q:VK),Inv X pins σ H s→RelV x v→r x H Q→
   wpAny (model X.prog X.w) X.A (f v) (EP X pins σ Q) X.xe s
def a5g(X:Cx)(f:Value)(r:List V→Hp→VK→Prop):Prop:=
 ∀ (pins:List (Addr×Obj)) (s:Shared) (σ:St) (H:Hp) (xs:List V) (us:List Value) (Q:VK),Inv X pins σ H s→Vals xs us→r xs H Q→
   wpAny (model X.prog X.w) X.A (call f us) (EP X pins σ Q) X.xe s
def tOp(r:R2)(ta tb:TE):TE:=fun σ H Q=>ta σ H fun x H1=>tb σ H1 fun y H2=>r x y H2 Q
def tUn(r:V→Hp→VK→Prop)(ta:TE):TE:=fun σ H Q=>ta σ H fun x H1=>r x H1 Q
def rI(C:Int→Int→Prop)(g:Int→Int→V):R2:=fun x y H Q=>∃ i j,x=.int i∧y=.int j∧C i j∧Q (g i j) H
def rI0(g:Int→Int→V):R2:=fun x y H Q=>∃ i j,x=.int i∧y=.int j∧Q (g i j) H
def rU(g:Int→V):V→Hp→VK→Prop:=fun x H Q=>∃ i,x=.int i∧Q (g i) H
section
variable {X:Cx} {a b c:Expr} {ta tb tc:TE} {pos:Pos}
theorem binT(ha:PE X a ta)(hb:PE X b tb){pins:List (Addr×Obj)}{s:Shared}{σ:St}{H:Hp}{R:V→V→Hp→Prop}(I:Inv X pins σ H s)(h:ta σ H fun x H1=>tb σ H1 fun y H2=>R x y H2){Q:Value→Shared→Prop}{f:Value→Value→Sem Value}(hf:∀ v u s2 x y H2,Inv X pins σ H2 s2→RelV x v→RelV y u→R x y H2→wpAny (model X.prog X.w) X.A (f v u) Q X.xe s2) :
   wpAny (model X.prog X.w) X.A (eval a X.env) (fun v s₁=>wpAny (model X.prog X.w) X.A (eval b X.env) (fun u s₂=>wpAny (model X.prog X.w) X.A (f v u) Q X.xe s₂) X.xe s₁) X.xe s:=by
 refine thn (ha pins s σ H _ I h) fun v s1 ⟨x,H1,I1,r1,q1⟩=>?_
 refine thn (hb pins s1 σ H1 _ I1 q1) fun u s2 ⟨y,H2,I2,r2,q2⟩=>?_
 exact hf v u s2 x y H2 I2 r1 r2 q2
theorem pe_op{op:Operator}{r:R2}(ho:OpR X (binaryOp op) r)(ha:PE X a ta)(hb:PE X b tb):PE X (.BinOp a op b pos) (tOp r ta tb):=by
 intro pins s σ H Q I h
 exact wpAny_BinOp (binT ha hb I h fun v u s2 x y H2 I2 rx ry q=>ho pins s2 σ H2 x y v u Q I2 rx ry q)
theorem pe_un{op:UnaryOp}{r:V→Hp→VK→Prop}(ho:UnR X (unaryOp op) r)(ha:PE X a ta):PE X (.UnaryOp op a pos) (tUn r ta):=by
 intro pins s σ H Q I h
 exact UnaryOp_ (thn (ha pins s σ H _ I h) fun v s1 ⟨x,H1,I1,r1,q1⟩=>ho pins s1 σ H1 x v Q I1 r1 q1)
theorem opI{f:Value→Value→Sem Value}{C:Int→Int→Prop}{g:Int→Int→Int}(rule:∀ (i j:Int) (t u:Tok) (s:Shared) (Q:Value→Shared→Prop) (E:Value→Shared→Prop),C i j→Q (.int (g i j) s.toks) { s with toks:=s.toks+1 }→wpAny (model X.prog X.w) X.A (f (.int i t) (.int j u)) Q E s) :
   OpR X f (rI C fun i j=>.int (g i j)):=by
 intro pins s σ H x y v u Q I rx ry h
 obtain⟨i,j,rfl,rfl,hc,q⟩:=h
 obtain⟨t,rfl⟩:=rx
 obtain⟨t',rfl⟩:=ry
 exact rule i j t t' s _ _ hc ⟨.int (g i j),H,I.tok _,⟨_,rfl⟩,q⟩
theorem opI0{f:Value→Value→Sem Value}{g:Int→Int→Int}(rule:∀ (i j:Int) (t u:Tok) (s:Shared) (Q:Value→Shared→Prop) (E:Value→Shared→Prop),Q (.int (g i j) s.toks) { s with toks:=s.toks+1 }→wpAny (model X.prog X.w) X.A (f (.int i t) (.int j u)) Q E s) :
   OpR X f (rI0 fun i j=>.int (g i j)):=by
 intro pins s σ H x y v u Q I rx ry h
 obtain⟨i,j,rfl,rfl,q⟩:=h
 obtain⟨t,rfl⟩:=rx
 obtain⟨t',rfl⟩:=ry
 exact rule i j t t' s _ _ ⟨.int (g i j),H,I.tok _,⟨_,rfl⟩,q⟩
theorem opB0{f:Value→Value→Sem Value}{g:Int→Int→Bool}(rule:∀ (i j:Int) (t u:Tok) (s:Shared) (Q:Value→Shared→Prop) (E:Value→Shared→Prop),Q (.bool (g i j)) s→wpAny (model X.prog X.w) X.A (f (.int i t) (.int j u)) Q E s) :
   OpR X f (rI0 fun i j=>.bl (g i j)):=by
 intro pins s σ H x y v u Q I rx ry h
 obtain⟨i,j,rfl,rfl,q⟩:=h
 obtain⟨t,rfl⟩:=rx
 obtain⟨t',rfl⟩:=ry
 exact rule i j t t' s _ _ ⟨.bl (g i j),H,I,rfl,q⟩
def CDiv(i j:Int):Prop:=0<j∧j<1073741824
def CPow(i j:Int):Prop:=0≤j∧j≤1000000∧i.natAbs<2^64
def CMul(i j:Int):Prop:=(-(2^64)<i∧i<2^64)∨(-(2^64)<j∧j<2^64)
theorem CMul.ok{i j:Int}(h:CMul i j):IntMulOk i j:=by
 rcases h with⟨h1,h2⟩ | ⟨h1,h2⟩
 · exact .of_left (intBits_le_64 h1 h2)
 · exact .of_right (intBits_le_64 h1 h2)
theorem a2n:OpR X (binaryOp .Add) (rI0 fun i j=>.int (i+j)):=opI0 fun _ _ _ _ _ _ _ q=>add_int q
theorem a3b:OpR X (binaryOp .Sub) (rI0 fun i j=>.int (i - j)):=opI0 fun _ _ _ _ _ _ _ q=>sub_int q
theorem b4b:OpR X (binaryOp .FloorDiv) (rI CDiv fun i j=>.int (i / j)):=opI fun i j _ _ _ _ _ hc q=>by
 have h1:(0:Int)<j:=hc.1
 have h2:j<1073741824:=hc.2
 exact floordiv_int (by omega) (by rw[c4h i (by omega)];exact q) (.inl (PyProof.noPylong_small (by omega)))
theorem a2h:OpR X (binaryOp .Mod) (rI (fun _ j=>0<j) fun i j=>.int (i % j)):=opI fun i j _ _ _ _ _ hc q=>by
 have h1:(0:Int)<j:=hc
 exact mod_int' (by omega) (by rw[Int.fmod_eq_emod_of_nonneg i (by omega)];exact q)
theorem op_modN:OpR X (binaryOp .Mod) (rI (fun _ j=>j≠0) fun i j=>.int (i.fmod j)):=opI fun _ _ _ _ _ _ _ hc q=>mod_int' hc q
theorem b9v:OpR X (binaryOp .Pow) (rI CPow fun i j=>.int (i^j.toNat)):=opI fun _ _ _ _ _ _ _ hc q=>pow_int_small hc.1 hc.2.1 hc.2.2 q
theorem b9u:OpR X (binaryOp .LShift) (rI CPow fun i j=>.int (i*2^j.toNat)):=opI fun _ _ _ _ _ _ _ hc q=>lshift_int_small hc.1 hc.2.1 hc.2.2 q
theorem unI{f:Value→Sem Value}{g:Int→Int}(rule:∀ (i:Int) (t:Tok) (s:Shared) (Q:Value→Shared→Prop) (E:Value→Shared→Prop),Q (.int (g i) s.toks) { s with toks:=s.toks+1 }→wpAny (model X.prog X.w) X.A (f (.int i t)) Q E s) :
   UnR X f (rU fun i=>.int (g i)):=by
 intro pins s σ H x v Q I rx h
 obtain⟨i,rfl,q⟩:=h
 obtain⟨t,rfl⟩:=rx
 exact rule i t s _ _ ⟨.int (g i),H,I.tok _,⟨_,rfl⟩,q⟩
theorem b7y:UnR X (unaryOp .USub) (rU fun i=>.int (-i)):=unI fun _ _ _ _ _ q=>neg_int q
end
def scal:V→V→Bool
 | .non,.non=>true | .non,.int _=>true | .int _,.non=>true | .non,.bl _=>true | .bl _,.non=>true | .non,.str _=>true | .str _,.non=>true
 | .int _,.int _=>true | .bl _,.bl _=>true | .str _,.str _=>true | .byt _,.byt _=>true
 | .int _,.str _=>true | .str _,.int _=>true | .bl _,.str _=>true | .str _,.bl _=>true
 | _,_=>false
def rEq:R2:=fun x y H Q=>scal x y=true∧Q (.bl (decide (x=y))) H
def rNe:R2:=fun x y H Q=>scal x y=true∧Q (.bl (!decide (x=y))) H
theorem c1h{i j:Int}:decide (V.int i=V.int j)=(i == j):=by
 rw[c7r]
 simp
theorem dec_bl{i j:Bool}:decide (V.bl i=V.bl j)=(i == j):=by
 rw[c7r]
 simp
theorem c1g{i j:Str}:decide (V.str i=V.str j)=(i == j):=by
 rw[c7r]
 simp
theorem c1i{i j:Array UInt8}:decide (V.byt i=V.byt j)=(i.toList == j.toList):=by
 rw[c7r]
 cases i
 cases j
 simp
section
variable {X:Cx} {a b c:Expr} {ta tb tc:TE} {pos:Pos}
theorem a1r{pins:List (Addr×Obj)}{σ:St}{H:Hp}{s:Shared}{Q:VK}{k k':Bool}(I:Inv X pins σ H s)(q:Q (.bl k) H)(e:k=k'):EP X pins σ Q (.bool k') s:=by
 subst e
 exact⟨.bl k,H,I,rfl,q⟩
theorem op_eq:OpR X (compareOp .Eq) rEq:=by
 intro pins s σ H x y v u Q I rx ry h
 obtain⟨hs,q⟩:=h
 cases x with
 | non=>
   cases rx
   cases y with
   | non=>cases ry;exact PySem.EqNone.eq_none_none (a1r I q (by simp))
   | bl j=>cases ry;exact PySem.EqNone.eq_none_bool (a1r I q (by simp))
   | int j=>obtain⟨t',rfl⟩:=ry;exact PySem.EqNone.eq_none_int (a1r I q (by simp))
   | str j=>obtain⟨t',rfl⟩:=ry;exact PySem.EqNone.eq_none_str (a1r I q (by simp))
   | _=>exact absurd (show false=true from hs) c3d
 | bl i=>
   cases rx
   cases y with
   | non=>cases ry;exact PySem.EqNone.eq_bool_none (a1r I q (by simp))
   | bl j=>cases ry;exact eq_bool (a1r I q dec_bl)
   | str j=>obtain⟨t',rfl⟩:=ry;exact PySem.EqMixed.eq_bool_str (a1r I q (by simp))
   | _=>exact absurd (show false=true from hs) c3d
 | int i=>
   obtain⟨t,rfl⟩:=rx
   cases y with
   | non=>cases ry;exact PySem.EqNone.eq_int_none (a1r I q (by simp))
   | int j=>obtain⟨t',rfl⟩:=ry;exact eq_int (a1r I q c1h)
   | str j=>obtain⟨t',rfl⟩:=ry;exact PySem.EqMixed.eq_int_str (a1r I q (by simp))
   | _=>exact absurd (show false=true from hs) c3d
 | str i=>
   obtain⟨t,rfl⟩:=rx
   cases y with
   | non=>cases ry;exact PySem.EqNone.eq_str_none (a1r I q (by simp))
   | bl j=>cases ry;exact PySem.EqMixed.eq_str_bool (a1r I q (by simp))
   | int j=>obtain⟨t',rfl⟩:=ry;exact PySem.EqMixed.eq_str_int (a1r I q (by simp))
   | str j=>obtain⟨t',rfl⟩:=ry;exact eq_str (a1r I q c1g)
   | _=>exact absurd (show false=true from hs) c3d
 | byt i=>
   obtain⟨t,rfl⟩:=rx
   cases y with
   | byt j=>obtain⟨t',rfl⟩:=ry;exact PySem.W.eq_bytes (a1r I q c1i)
   | _=>exact absurd (show false=true from hs) c3d
 | _=>cases y<;>exact absurd (show false=true from hs) c3d
theorem op_ne:OpR X (compareOp .NotEq) rNe:=by
 intro pins s σ H x y v u Q I rx ry h
 obtain⟨hs,q⟩:=h
 cases x with
 | non=>
   cases rx
   cases y with
   | non=>cases ry;exact PySem.EqNone.ne_none_none (a1r I q (by simp))
   | bl j=>cases ry;exact PySem.EqNone.ne_none_bool (a1r I q (by simp))
   | int j=>obtain⟨t',rfl⟩:=ry;exact PySem.EqNone.ne_none_int (a1r I q (by simp))
   | str j=>obtain⟨t',rfl⟩:=ry;exact PySem.EqNone.ne_none_str (a1r I q (by simp))
   | _=>exact absurd (show false=true from hs) c3d
 | bl i=>
   cases rx
   cases y with
   | non=>cases ry;exact PySem.EqNone.ne_bool_none (a1r I q (by simp))
   | bl j=>cases ry;exact ne_bool (a1r I q (congrArg not dec_bl))
   | str j=>obtain⟨t',rfl⟩:=ry;exact PySem.EqMixed.ne_bool_str (a1r I q (by simp))
   | _=>exact absurd (show false=true from hs) c3d
 | int i=>
   obtain⟨t,rfl⟩:=rx
   cases y with
   | non=>cases ry;exact PySem.EqNone.ne_int_none (a1r I q (by simp))
   | int j=>obtain⟨t',rfl⟩:=ry;exact ne_int (a1r I q (congrArg not c1h))
   | str j=>obtain⟨t',rfl⟩:=ry;exact PySem.EqMixed.ne_int_str (a1r I q (by simp))
   | _=>exact absurd (show false=true from hs) c3d
 | str i=>
   obtain⟨t,rfl⟩:=rx
   cases y with
   | non=>cases ry;exact PySem.EqNone.ne_str_none (a1r I q (by simp))
   | bl j=>cases ry;exact PySem.EqMixed.ne_str_bool (a1r I q (by simp))
   | int j=>obtain⟨t',rfl⟩:=ry;exact PySem.EqMixed.ne_str_int (a1r I q (by simp))
   | str j=>obtain⟨t',rfl⟩:=ry;exact ne_str (a1r I q (congrArg not c1g))
   | _=>exact absurd (show false=true from hs) c3d
 | byt i=>
   obtain⟨t,rfl⟩:=rx
   cases y with
   | byt j=>obtain⟨t',rfl⟩:=ry;exact PySem.W.ne_bytes (a1r I q (congrArg not c1i))
   | _=>exact absurd (show false=true from hs) c3d
 | _=>cases y<;>exact absurd (show false=true from hs) c3d
theorem op_lt:OpR X (compareOp .Lt) (rI0 fun i j=>.bl (decide (i<j))):=opB0 fun _ _ _ _ _ _ _ q=>lt_int q
theorem op_le:OpR X (compareOp .LtE) (rI0 fun i j=>.bl (decide (i≤j))):=opB0 fun _ _ _ _ _ _ _ q=>le_int q
theorem b6u:OpR X (compareOp .Gt) (rI0 fun i j=>.bl (decide (j<i))):=opB0 fun _ _ _ _ _ _ _ q=>gt_int q
theorem op_isN:OpR X (compareOp .Is) (fun x y H Q=>y=.non∧Q (.bl (decide (x=.non))) H):=by
 intro pins s σ H x y v u Q I rx ry h
 obtain⟨rfl,q⟩:=h
 cases ry
 refine is_none_gen (a1r I q ?_)
 cases x<;>first
   | (cases rx;rfl)
   | (obtain⟨t,rfl⟩:=rx;rfl)
theorem a2i(b:Expr){op:CmpOp}(h:op≠.In:=by decide)(h2:op≠.NotIn:=by decide):behindInMarks op b=false:=by
 have e1:(op == CmpOp.In)=false:=by cases op<;>first | rfl | exact absurd rfl h
 have e2:(op == CmpOp.NotIn)=false:=by cases op<;>first | rfl | exact absurd rfl h2
 cases b<;>simp[behindInMarks,e1,e2]
theorem pe_cmpR{op:CmpOp}{r:R2}(ho:OpR X (compareOp op) r)(ha:PE X a ta)(hb:PE X b tb)(hm:behindInMarks op b=false):PE X (.Compare a [op] [b] pos) (tOp r ta tb):=by
 intro pins s σ H Q I h
 exact wpAny_Compare1 (binT ha hb I h fun v u s2 x y H2 I2 rx ry q=>ho pins s2 σ H2 x y v u Q I2 rx ry q) hm
def tTest(t:TE):TT:=fun σ H Q=>t σ H fun x H'=>∃ k,x=.bl k∧Q k H'
theorem pt_cmpR{op:CmpOp}{r:R2}(ho:OpR X (compareOp op) r)(ha:PE X a ta)(hb:PE X b tb)(hm:behindInMarks op b=false):PT X (.Compare a [op] [b] pos) (tTest (tOp r ta tb)):=by
 intro pins s σ H Q I h
 refine wpAny_isTrue_Compare1 (thn (ha pins s σ H _ I h) fun v s1 ⟨x,H1,I1,r1,q1⟩=>thn (hb pins s1 σ H1 _ I1 q1) fun u s2 ⟨y,H2,I2,r2,q2⟩=>
   thn (ho pins s2 σ H2 x y v u _ I2 r1 r2 q2) fun c s3 ⟨z,H3,I3,r3,k,e,q3⟩=>?_) hm
 subst e
 cases r3
 exact wpAny_truthy_bool ⟨H3,I3,q3⟩
theorem c0m:(sizeLine:Nat)<2^63:=by rw[sizeLine_eq];decide
theorem vals1{x:V}{us:List Value}(r:Vals [x] us):∃ u,us=[u]∧RelV x u:=by
 cases r with
 | cons r1 r2=>cases r2;exact⟨_,rfl,r1⟩
theorem vals2{x y:V}{us:List Value}(r:Vals [x,y] us):∃ u w',us=[u,w']∧RelV x u∧RelV y w':=by
 cases r with
 | cons r1 r2=>
   cases r2 with
   | cons r3 r4=>cases r4;exact⟨_,_,rfl,r1,r3⟩
theorem b6k:a5g X (.builtin "abs") (fun xs H Q=>∃ i,xs=[.int i]∧Q (.int (if i<0 then -i else i)) H):=by
 intro pins s σ H xs us Q I r h
 obtain⟨i,rfl,q⟩:=h
 obtain⟨u,rfl,t,rfl⟩:=vals1 r
 exact call_abs_int fun u tk=>⟨.int (if i<0 then -i else i),H,I.tok _,⟨_,rfl⟩,q⟩
theorem c1o(hc:X.calm=true):a5g X (.builtin "max") (fun xs H Q=>∃ i j,xs=[.int i,.int j]∧Q (.int (if j > i then j else i)) H):=by
 intro pins s σ H xs us Q I r h
 obtain⟨i,j,rfl,q⟩:=h
 obtain⟨u,w',rfl,⟨t,rfl⟩,⟨t',rfl⟩⟩:=vals2 r
 refine max_two_ints (I.ok.hd hc) fun h' tk k=>⟨_,H,I.kept k,?_,q⟩
 by_cases hj:j > i
 · rw[if_pos hj,if_pos hj];exact⟨_,rfl⟩
 · rw[if_neg hj,if_neg hj];exact⟨_,rfl⟩
end
end L2
namespace L2
open PySem PySem.Spec PyProof.Rows
structure ObjM(h:Heap)(x dx C:Addr)(mA:Str→Option Value):Prop where
 obj:h.get? x=some (c5s C dx)
 ns:h.Ns1 dx mA
 ne:dx≠x
theorem c0k{h:Heap}{dx:Addr}{mA:Str→Option Value}(n:h.Ns1 dx mA):∃ od,h.get? dx=some od∧∀ name,PySem.W.lookIn name od=some (mA name):=by
 obtain⟨o,es,ep,ho,hd,hk,_,hm⟩:=n
 refine⟨o,ho,fun name=>?_⟩
 have e:=hm name
 unfold nsFind findBy at e
 rw[← Array.find?_toList] at e
 unfold PySem.W.lookIn
 rw[hd]
 dsimp only
 split
 · rename_i y q
   rw[q] at e
   exact congrArg some e
 · rename_i q
   rw[q] at e
   have a:es.toList.any (·.refKey)=false:=by
     rw[List.any_eq_false]
     intro y hy
     obtain⟨z,t,hkey⟩:=hk y (Array.mem_toList_iff.mp hy)
     simp[DictEntry.refKey,hkey]
   have a':¬ es.toList.any (·.refKey)=true:=by rw[a];exact c3d
   rw[if_neg a']
   exact congrArg some e
theorem ObjM.look{h:Heap}{x dx C:Addr}{mA:Str→Option Value}(I:ObjM h x dx C mA):∃ od,PySem.W.InstAt h x (c5s C dx) C (some od)∧∀ name,PySem.W.lookIn name od=some (mA name):=
 let ⟨od,ho,hl⟩:=c0k I.ns
 ⟨od,⟨I.obj,rfl,rfl,ho⟩,hl⟩
section
variable {prog:Program} {w:World} {A:Around} {E:Value→Shared→Prop} {s:Shared} {K:c2f} {x dx C f:Addr} {mA:Str→Option Value} {name:Str} {v:Value}
theorem get_map{expr:Bool}{Q:Value→Shared→Prop}(X:K.In s.heap)(I:ObjM s.heap x dx C mA)(hg:c7g K C name=true)(hh:c7w K C=true)(ha:c3l K (.ref C) name=some none)(hv:mA name=some v)(hv':PySem.W.handedIn v=true)(h:Q v { s with toks:=s.toks+1 }) :
   wpAny (model prog w) A (getAttr (.ref x) name expr) Q E s:=by
 obtain⟨od,J,hl⟩:=I.look
 exact PySem.W.get_value X J (PySem.W.plainGet_of hg).1 (PySem.W.findObj_own hh ha rfl (by rw[hl,hv])) hv' h
theorem get_meth{pl:Sem Bool}{Q:Value×List Value→Shared→Prop}(X:K.In s.heap)(I:ObjM s.heap x dx C mA)(hg:c7g K C name=true)(hf:c3l K (.ref C) name=some (some (.ref f)))(ht:c7u K (.ref f)=true)(hv:mA name=none)(h:Q (.ref f,[.ref x]) s) :
   wpAny (model prog w) A (getMethod (.ref x) name pl) Q E s:=by
 obtain⟨od,J,hl⟩:=I.look
 exact PySem.W.method_fn X J (PySem.W.plainGet_of hg).1 (PySem.W.plainGet_of hg).2 hf (beq_iff_eq.mp ht) (by show (PySem.W.lookIn name od).map (·.isSome)=some false;rw[hl,hv];rfl) h
theorem set_map{ns:List Str}{Q:Unit→Shared→Prop}(X:K.In s.heap)(I:ObjM s.heap x dx C mA)(hs:c3l K (.ref C) "__setattr__" = some (some (.builtin "object.__setattr__")))(hp:PySem.W.plainOver K C=true)(ht:PySem.W.takerIn K C name=some none)(hh:c7w K C=true)(hw:PySem.Within mA ns)(hsz:ns.length≤sizeLine)(h:∀ h',ObjM h' x dx C (fun y=>if y=name then some v else mA y)→Heap.SameBut dx s.heap h'→Q () { s with heap:=h',toks:=s.toks+2 }) :
   wpAny (model prog w) A (setAttr (.ref x) name v) Q E s:=by
 obtain⟨od,J,hl⟩:=I.look
 refine PySem.W.set_plain X J hs (PySem.W.osa_open (s:={ s with toks:=s.toks+1 }) (r:=none) X J hp ht fun b=>?_)
 obtain⟨cd,hc,hd'⟩:=PySem.W.any_some hh
 have hx:s.heap.get? x=some ⟨.ref C,some dx,.plain,#[]⟩:=I.obj
 refine wpAny_bind (wpAny_pure (wpAny_bind (wpAny_bind (wpAny_loadPart hx (wpAny_bind (PySem.W.Looks.here (s:={ s with toks:=s.toks+1 }) (PySem.W.looks_clsIn X hc) ?_))))))
 rw[hd']
 refine wpAny_pure (a:=some dx) (wpAny_bind (wpAny_pure (wpAny_bind ?_)))
 refine wpAny_nsSet1 (s:={ s with toks:=s.toks+1 }) I.ns fun h' hn2 hs2=>?_
 obtain⟨oD,esD,epD,hoD,hdD,hcD⟩:=hn2.count (PySem.Within.cons name v hw)
 refine wpAny_bind (wpAny_lookBehind hoD (by rw[hdD];exact pastItsLine_dict (c4g hcD (by rw[c3r];omega))) ?_)
 exact wpAny_pure (h _ ⟨(hs2.2 _ (Ne.symm I.ne)).trans I.obj,hn2,I.ne⟩ hs2)
theorem make_map{R:Result→Shared→Prop}{vs:List Value}{kw:List (Str×Value)}(X:K.In s.heap)(hm:PySem.W.makesIn K C=true)(hi:c3l K (.ref C) "__init__" = some (some (.ref f)))(hf:PySem.W.typeIn K (.ref f)=some (.type "function"))(h:codeAny (model prog w) (A.under (.builtin "type.__call__" ⟨.ref C::vs,kw⟩)) (.call (.ref f) ⟨.ref (s.heap.objs.size+1)::vs,kw⟩) (PySem.W.InitBack (s.heap.objs.size+1) R)
     { s with heap:=(s.heap.push c5b).push (c5s C s.heap.objs.size) }) :
   codeAny (model prog w) A (.call (.ref C) ⟨vs,kw⟩) R s:=by
 obtain⟨hh,g,d,t,os⟩:=s
 exact PySem.W.make_core (PySem.W.makes_of X hm) (PySem.W.looks_findIn X hi) (fun self=>PySem.W.bind_fn X self hf) (.inl rfl) h
end
def putF(f:Str)(v:V):List (Str×V)→List (Str×V)
 | []=>[(f,v)]
 | (g,x)::r=>if g=f then (g,v)::r else (g,x)::putF f v r
theorem a0q(f g:Str)(v:V):∀ fs:List (Str×V),(putF f v fs).lookup g=if g=f then some v else fs.lookup g
 | []=>by
   show c7n g [(f,v)]=_
   by_cases h:g=f
   · have hb:(g == f)=true:=beq_iff_eq.mpr h
     simp only[c7n,hb,if_pos h]
   · have hb:(g == f)=false:=beq_eq_false_iff_ne.mpr h
     simp only[c7n,hb,if_neg h]
 | (k,x)::r=>by
   have ih:=a0q f g v r
   rw[show putF f v ((k,x)::r)=(if k=f then (k,v)::r else (k,x)::putF f v r) from rfl]
   by_cases hk:k=f
   · rw[if_pos hk]
     by_cases h:g=k
     · have hb:(g == k)=true:=beq_iff_eq.mpr h
       simp only[c7n,hb,if_pos (h.trans hk)]
     · have hb:(g == k)=false:=beq_eq_false_iff_ne.mpr h
       simp only[c7n,hb,if_neg (fun e:g=f=>h (e.trans hk.symm))]
   · rw[if_neg hk]
     by_cases h:g=k
     · have hb:(g == k)=true:=beq_iff_eq.mpr h
       simp only[c7n,hb,if_neg (fun e:g=f=>hk (h.symm.trans e))]
     · have hb:(g == k)=false:=beq_eq_false_iff_ne.mpr h
       simp only[c7n,hb]
       exact ih
theorem a8y(f:Str)(v:V):∀ fs:List (Str×V),f∈(putF f v fs).map (·.1)∧∀ g,g∈fs.map (·.1)→g∈(putF f v fs).map (·.1)
 | []=>⟨by simp[putF],fun g h=>by simp at h⟩
 | (k,x)::r=>by
   obtain⟨i1,i2⟩:=a8y f v r
   rw[show putF f v ((k,x)::r)=(if k=f then (k,v)::r else (k,x)::putF f v r) from rfl]
   by_cases hk:k=f
   · rw[if_pos hk]
     subst hk
     exact⟨by simp,fun g h=>by simpa using h⟩
   · rw[if_neg hk]
     refine⟨?_,fun g h=>?_⟩
     · rw[c4u]
       exact c3q _ i1
     · rw[c4u] at h ⊢
       rcases c2x.mp h with e | e
       · exact c2x.mpr (.inl e)
       · exact c3q _ (i2 g e)
theorem a8v(f:Str)(v:V):∀ fs:List (Str×V),(putF f v fs).length≤fs.length+1
 | []=>by simp[putF]
 | (k,x)::r=>by
   have ih:=a8v f v r
   rw[show putF f v ((k,x)::r)=(if k=f then (k,v)::r else (k,x)::putF f v r) from rfl]
   by_cases hk:k=f
   · rw[if_pos hk,c3r,c3r];omega
   · rw[if_neg hk,c3r,c3r];omega
theorem RelO.some_of{v:V}{o:Option Value}(r:RelO (some v) o):∃ u,o=some u∧RelV v u:=by
 cases o with
 | none=>exact (show False from r).elim
 | some u=>exact⟨u,rfl,r⟩
theorem RelO.none_of{o:Option Value}(r:RelO none o):o=none:=by
 cases o with
 | none=>rfl
 | some u=>exact (show False from r).elim
theorem c0w{v:V}{u:Value}(r:RelV v u):PySem.W.handedIn u=true:=by
 cases v with
 | non=>cases (show u=Value.none from r);rfl
 | bl b=>cases (show u=Value.bool b from r);rfl
 | int i=>obtain⟨t,e⟩:=(show ∃ t,u=Value.int i t from r);cases e;rfl
 | str x=>obtain⟨t,e⟩:=(show ∃ t,u=Value.str x t from r);cases e;rfl
 | byt b=>obtain⟨t,e⟩:=(show ∃ t,u=Value.bytes b t from r);cases e;rfl
 | flt b=>obtain⟨t,e⟩:=(show ∃ t,u=Value.float b t from r);cases e;rfl
 | ref a=>cases (show u=Value.ref a from r);rfl
 | ty n=>cases (show u=Value.type n from r);rfl
section
variable {P:Program} {w:World} {H H':Hp} {h h':Heap} {a C dx:Addr} {fs fs':List (Str×V)}
theorem b4g(hok:HOk P w H h)(e:H a=some (.ins C dx fs)):∃ mA,ObjM h a dx C mA∧(∀ f,RelO (fs.lookup f) (mA f))∧PySem.Within mA (fs.map (·.1))∧fs.length≤1000∧H dx=some (.own a):=by
 obtain⟨d,z,ne,ob,mA,n,r,q⟩:=(show a5f P w H h a (.ins C dx fs) from hok a _ e)
 exact⟨mA,⟨ob,n,ne⟩,r,q,z,d⟩
end
structure Cls(K:c2f)(C:Addr):Prop where
 pg:c7g K C Str.empty=true
 hd:c7w K C=true
 po:PySem.W.plainOver K C=true
 sa:c3l K (.ref C) "__setattr__" = some (some (.builtin "object.__setattr__"))
theorem Cls.get{K:c2f}{C:Addr}(c:Cls K C)(f:Str):c7g K C f=true:=c.pg
def a2c(K:c2f)(C:Addr)(f:Str):Prop:=c3l K (.ref C) f=some none
theorem a2c.taker{K:c2f}{C:Addr}{f:Str}(n:a2c K C f):PySem.W.takerIn K C f=some none:=by
 unfold PySem.W.takerIn
 rw[show c3l K (.ref C) f=some none from n]
 rfl
structure Meth(K:c2f)(C:Addr)(m:Str)(f:Addr):Prop where
 at_:c3l K (.ref C) m=some (some (.ref f))
 fn:c7u K (.ref f)=true
 kp:c2s K (.ref f)=true
section
variable {X:Cx} {pins:List (Addr×Obj)} {σ:St} {H:Hp} {s:Shared} {a C dx:Addr} {fs:List (Str×V)} {f:Str} {v:V} {A:Around} {E:Value→Shared→Prop}
theorem b7g{b:Bool}{Q:Value→Shared→Prop}(I:Inv X pins σ H s)(e:H a=some (.ins C dx fs))(c:Cls X.K C)(n:a2c X.K C f)(l:fs.lookup f=some v)(h:∀ u s',Inv X pins σ H s'→RelV v u→Q u s'):wpAny (model X.prog X.w) A (getAttr (.ref a) f b) Q E s:=by
 obtain⟨mA,O,r,_,_,_⟩:=b4g I.hok e
 obtain⟨u,hu,ru⟩:=RelO.some_of (v:=v) (o:=mA f) (by rw[← l];exact r f)
 exact get_map I.kIn O (c.get f) c.hd n hu (c0w ru) (h u _ (I.tok _) ru)
theorem b7f{m:Str}{g:Addr}{pl:Sem Bool}{Q:Value×List Value→Shared→Prop}(I:Inv X pins σ H s)(e:H a=some (.ins C dx fs))(c:Cls X.K C)(k:Meth X.K C m g)(l:fs.lookup m=none)(h:Q (.ref g,[.ref a]) s):wpAny (model X.prog X.w) A (getMethod (.ref a) m pl) Q E s:=by
 obtain⟨mA,O,r,_,_,_⟩:=b4g I.hok e
 have hn:mA m=none:=RelO.none_of (by rw[← l];exact r m)
 exact get_meth I.kIn O (c.get m) k.at_ k.fn hn h
theorem b0e{y:V}{u:Value}{Q:Unit→Shared→Prop}(I:Inv X pins σ H s)(e:H a=some (.ins C dx fs))(c:Cls X.K C)(n:a2c X.K C f)(hl:fs.length<1000)(ry:RelV y u)(h:∀ s',Inv X pins σ (upd H a (.ins C dx (putF f y fs))) s'→Q () s'):wpAny (model X.prog X.w) A (setAttr (.ref a) f u) Q E s:=by
 obtain⟨mA,O,r,wi,_,ho⟩:=b4g I.hok e
 have hz:(fs.map (·.1)).length≤sizeLine:=by rw[c2h,sizeLine_eq];omega
 refine set_map I.kIn O c.sa c.po n.taker c.hd wi hz fun h' O' sb=>h _ ?_
 have hd:∃ o,h'.get? dx=some o:=let ⟨o,_,_,e',_⟩:=O'.ns;⟨o,e'⟩
 refine I.write (x:=a) (e:=dx) (by rw[e];exact True.intro) (.inr ho) (fun b q hb z=>(sb.2 b hb).trans z) hd ?_
 refine⟨by rw[a0j O.ne];exact ho,?_,O.ne,O'.obj,_,O'.ns,fun g=>?_,fun g hg=>?_⟩
 · have:=a8v f y fs;omega
 · show RelO ((putF f y fs).lookup g) (if g=f then some u else mA g)
   rw[a0q]
   by_cases q:g=f
   · rw[if_pos q,if_pos q];exact ry
   · rw[if_neg q,if_neg q];exact r g
 · by_cases q:g=f
   · rw[q];exact (a8y f y fs).1
   · refine (a8y f y fs).2 g (wi g fun z=>hg ?_)
     show (if g=f then some u else mA g)=none
     rw[if_neg q];exact z
theorem Inv.made(I:Inv X pins σ H s):Inv X pins σ (upd (upd H s.heap.objs.size (.own (s.heap.objs.size+1))) (s.heap.objs.size+1) (.ins C s.heap.objs.size []))
   { s with heap:=(s.heap.push c5b).push (c5s C s.heap.objs.size) }:=by
 have e1:(s.heap.push c5b).get? s.heap.objs.size=some c5b:=Heap.get?_push_size s.heap rfl
 have e2:((s.heap.push c5b).push (c5s C s.heap.objs.size)).get? (s.heap.objs.size+1)=some (c5s C s.heap.objs.size):=by
   have:=Heap.get?_push_size (s.heap.push c5b) (o:=c5s C s.heap.objs.size) rfl
   rwa [Heap.size_push] at this
 have e3:(s.heap.push c5b).Ns s.heap.objs.size (fun _=>none):=⟨c5b,#[],_,e1,rfl,(fun e he=>absurd he (by simp)),fun _=>rfl⟩
 have I1:=I.laid (a:=s.heap.objs.size) (o:=.own (s.heap.objs.size+1)) (h':=s.heap.push c5b) (t':=s.toks) (fun b u q=>Heap.get?_push_of_some _ q) (c2o _) ⟨_,e1⟩
 refine I1.laid (a:=s.heap.objs.size+1) (o:=.ins C s.heap.objs.size []) (t':=s.toks) (fun b u q=>Heap.get?_push_of_some _ q) (c5t (Heap.size_push _ _)) ?_
 have ne:s.heap.objs.size≠s.heap.objs.size+1:=c3e (c6i _)
 refine⟨by rw[a0j ne,a0d],c4d _,ne,e2,fun _=>none,(Heap.Ns1.of_empty e3).at fun o q=>Heap.get?_push_of_some _ q,fun _=>True.intro,fun y hy=>absurd rfl hy⟩
theorem attr_of{prog:Program}{w:World}{env:Env}{e:Expr}{f:Str}{pos:Pos}{s:Shared}{Q:Value→Shared→Prop}(hb:attributeBase e f env (eval e env)=eval e env)(h:wpAny (model prog w) A (eval e env) (fun o s₁=>wpAny (model prog w) A (getAttr o f true) Q E s₁) E s):wpAny (model prog w) A (eval (.Attribute e f pos) env) Q E s:=
 Attribute_any_ h (by rw[arm_eval_Attribute,hb])
end
def tFld(K:c2f)(ta:TE)(f:Str):TE:=fun σ H Q=>ta σ H fun x H1=>∃ a C dx fs v,x=.ref a∧H1 a=some (.ins C dx fs)∧Cls K C∧a2c K C f∧fs.lookup f=some v∧Q v H1
def sFld(K:c2f)(ta tv:TE)(f:Str):TS:=fun D σ H=>tv σ H fun y H1=>ta σ H1 fun x H2=>∃ a C dx fs,x=.ref a∧H2 a=some (.ins C dx fs)∧Cls K C∧a2c K C f∧fs.length<1000∧
 D.nx σ (upd H2 a (.ins C dx (putF f y fs)))
section
variable {X:Cx} {o e value:Expr} {f:Str} {pos pos' tpos:Pos} {ta tv:TE}
theorem pe_fld(he:PE X e ta)(hb:attributeBase e f X.env (eval e X.env)=eval e X.env):PE X (.Attribute e f pos) (tFld X.K ta f):=by
 intro pins s σ H Q I h
 refine attr_of hb (thn (he pins s σ H _ I h) fun u s1 ⟨x,H1,I1,rx,a,C,dx,fs,v,ex,ea,c,n,l,q⟩=>?_)
 subst ex
 obtain rfl:u=Value.ref a:=rx
 exact b7g I1 ea c n l fun u' s2 I2 ru=>⟨v,H1,I2,ru,q⟩
theorem ps_fld(ha:PE X o ta)(hv:PE X value tv)(hs:swapsWith value (some (.Attribute o f pos')) pos.line X.env=pure false):PS X (.Assign [.Attribute o f pos'] value pos) (sFld X.K ta tv f):=by
 intro pins s σ H D I h
 refine plainObj_wpAny_Assign_Attribute (thn (hv pins s σ H _ I h) fun u s1 ⟨y,H1,I1,ry,q⟩=>thn (ha pins s1 σ H1 _ I1 q) fun ov s2 ⟨x,H2,I2,rx,a,C,dx,fs,ex,ea,c,n,l,q2⟩=>?_) hs
 subst ex
 obtain rfl:ov=Value.ref a:=rx
 exact b0e I2 ea c n l ry fun s3 I3=>⟨σ,_,I3,q2⟩
end
section
variable {X:Cx} {pins:List (Addr×Obj)} {σ:St} {H:Hp} {s:Shared} {A:Around} {E:Value→Shared→Prop} {Q:Value→Shared→Prop} {c:Value} {b:Bool}
inductive TyOf (K:c2f) (H:Hp):V→Value→Prop where
 | non:TyOf K H .non (.type "NoneType")
 | bl (x:Bool):TyOf K H (.bl x) (.type "bool")
 | int (i:Int):TyOf K H (.int i) (.type "int")
 | str (x:Str):TyOf K H (.str x) (.type "str")
 | flt (x:UInt64):TyOf K H (.flt x) (.type "float")
 | lst {a:Addr} {xs:List V} (e:H a=some (.lst xs)):TyOf K H (.ref a) (.type "list")
 | frz {a:Addr} {o:Obj} {xs:List V} (e:H a=some (.frz o (.lst xs))):TyOf K H (.ref a) (.type "list")
 | tup {a:Addr} {xs:List V} (e:H a=some (.tup xs)):TyOf K H (.ref a) (.type "tuple")
 | dK {a:Addr} {kvs:List (Key×V)} (e:H a=some (.dK kvs)):TyOf K H (.ref a) (.type "dict")
 | dT {a:Addr} {kvs:List (List Key×V)} (e:H a=some (.dT kvs)):TyOf K H (.ref a) (.type "dict")
 | ins {a C dx:Addr} {fs:List (Str×V)} (e:H a=some (.ins C dx fs)) (cl:Cls K C) (ha:c3l K (.ref C) "__class__" = some (some (.builtin "object.__class__")))
     (hn:PySem.W.specialIn K (.builtin "object.__class__") "__get__" = some (some (.builtin "getset_descriptor.__get__"))) (htk:PySem.W.takesIn K (.builtin "object.__class__")=some true)
     (hm:PySem.W.mroIn K C (.type "object")=some true):TyOf K H (.ref a) (.ref C)
end
end L2
namespace L2
open PySem PySem.Spec PyProof.Rows
structure Room(k:Nat)(A:Around):Prop where
 hd:A.handled=none
 dp:A.depth+3*k+5<recursionLimit
 un:A.units+16*k+200<cLine
theorem Room.mono{j k:Nat}{A:Around}(r:Room k A)(h:j≤k):Room j A:=⟨r.hd,by have:=r.dp;omega,by have:=r.un;omega⟩
theorem Room.deeper{k:Nat}{A:Around}(r:Room (k+1) A)(env:Env):Room k (A.deeper env):=
 ⟨r.hd,by have:=r.dp;show A.depth+1+3*k+5<_;omega,by have:=r.un;show A.units+3+16*k+200<_;omega⟩
theorem b6z{A:Around}{C:Addr}{us:List Value}{kw:List (Str×Value)}:(A.under (.builtin "type.__call__" ⟨.ref C::us,kw⟩)).depth=A.depth+1:=by
 first | rfl | simp[Around.under,Code.weight,Code.isCreation,Code.isGuard,Code.isCaller,Code.frames,Code.isFrame,guardIds]
theorem b6y{A:Around}{C:Addr}{us:List Value}{kw:List (Str×Value)}:(A.under (.builtin "type.__call__" ⟨.ref C::us,kw⟩)).units=A.units+1:=by
 first | rfl | simp[Around.under,Code.cUnits,Code.frames,Code.isFrame]
theorem Room.make{k:Nat}{A:Around}(r:Room (k+1) A)(C:Addr)(us:List Value)(kw:List (Str×Value)):Room k (A.under (.builtin "type.__call__" ⟨.ref C::us,kw⟩)):=
 ⟨r.hd,by have:=r.dp;rw[b6z];omega,by have:=r.un;rw[b6y];omega⟩
theorem Room.depth{k:Nat}{A:Around}(r:Room k A):A.depth<recursionLimit:=by have:=r.dp;omega
theorem Room.units{k:Nat}{A:Around}(r:Room k A):A.units+64<cLine:=by have:=r.un;omega
def tNil:TA:=fun _ H Q=>Q [] H
def tCons(ta:TE)(tr:TA):TA:=fun σ H Q=>ta σ H fun x H1=>tr σ H1 fun xs H2=>Q (x::xs) H2
section
variable {X:Cx} {e:Expr} {es:List Expr} {te:TE} {t:TA} {pos:Pos}
theorem pa_nil:PA X [] tNil:=fun _ _ _ _ H Q I h=>Calls.spliced_nil ⟨[],H,I,.nil,h⟩
theorem pa_cons(ha:PE X e te)(hr:PA X es t)(hs:starEach (e::es) X.env=(false,eval e X.env)::starEach es X.env:=by rfl):PA X (e::es) (tCons te t):=by
 intro pos pins s σ H Q I h
 rw[hs]
 show wpAny _ _ (spliced ((false,eval e X.env)::backTo pos (starEach es X.env))) _ _ s
 refine Calls.spliced_cons (thn (ha pins s σ H _ I h) fun u s1 ⟨x,H1,I1,r1,q1⟩=>?_)
 exact thn (hr pos pins s1 σ H1 _ I1 q1) fun us s2 ⟨xs,H2,I2,r2,q2⟩=>⟨x::xs,H2,I2,.cons r1 r2,q2⟩
def tTup(t:TA):TE:=fun σ H Q=>t σ H fun xs H1=>xs.length≤sizeLine∧∀ p,H1 p=none→Q (.ref p) (upd H1 p (.tup xs))
def tLst(t:TA):TE:=fun σ H Q=>t σ H fun xs H1=>xs.length≤sizeLine∧∀ p,H1 p=none→Q (.ref p) (upd H1 p (.lst xs))
theorem pe_tup{x1}(h:PA X es t):PE X (.Tuple es x1 pos) (tTup t):=by
 intro pins s σ H Q I hq
 refine wpAny_Tuple_spliced (thn (h pos pins s σ H _ I hq) fun us s1 ⟨xs,H1,I1,r,z,q⟩=>⟨by rw[← r.length];exact z,?_⟩)
 have hf:H1 s1.heap.objs.size=none:=I1.hok.fresh (c2o _)
 refine⟨.ref s1.heap.objs.size,upd H1 s1.heap.objs.size (.tup xs),I1.laid (t':=s1.toks) (fun b u e=>Heap.get?_push_of_some _ e) (c2o _) ?_,rfl,q _ hf⟩
 exact⟨z,us,r,⟨_,Heap.get?_push_size _ rfl,rfl,_,rfl⟩⟩
theorem pe_lst(h:PA X es t):PE X (.List es pos) (tLst t):=by
 intro pins s σ H Q I hq
 refine wpAny_List_spliced (thn (h pos pins s σ H _ I hq) fun us s1 ⟨xs,H1,I1,r,z,q⟩=>⟨by rw[← r.length];exact z,?_⟩)
 have hf:H1 s1.heap.objs.size=none:=I1.hok.fresh (c2o _)
 refine⟨.ref s1.heap.objs.size,upd H1 s1.heap.objs.size (.lst xs),I1.laid (t':=s1.toks) (fun b u e=>Heap.get?_push_of_some _ e) (c2o _) ?_,rfl,q _ hf⟩
 exact⟨z,us,0,r,Heap.get?_push_size _ rfl⟩
end
abbrev Sp:=List V→Hp→VK→XK→Prop
abbrev CXT:=List Env→Hp→Shared→XK→Value→Shared→Prop
structure Env0(P:Program)(w:World)(K:c2f)(mg:Str→Option Value)(base:Heap)(A:Around)(outer:List Env)(s:Shared)(H:Hp):Prop where
 frames:A.frames=some outer
 mod:Mod K mg base
 bs:∀ b o,base.get? b=some o→s.heap.get? b=some o∧H b=none
 bsz:base.objs.size≤s.heap.objs.size
 funs:s.heap.FunFrames base outer
 frf:∀ b∈frs outer,H b=none
 hok:HOk P w H s.heap
 bare:AllBare s.gens
def CE(outer:List Env)(P:Program)(w:World)(H:Hp)(s:Shared)(Q:VK)(u:Value)(s':Shared):Prop:=
 ∃ v H',s'.os=s.os∧AllBare s'.gens∧Un (frs outer) [] H H' s.heap s'.heap∧HOk P w H' s'.heap∧RelV v u∧Q v H'
def CR(CX:CXT)(outer:List Env)(P:Program)(w:World)(H:Hp)(s:Shared)(Q:VK)(E:XK)(r:Result)(s':Shared):Prop:=
 match r with
 | .ok (.ret u)=>CE outer P w H s Q u s'
 | .ok _=>False
 | .error e=>CX outer H s E e s'
structure FnOk(P:Program)(w:World)(K:c2f)(mg:Str→Option Value)(base:Heap)(CX:CXT)(k:Nat)(f:Addr)(fd:FuncData)(ps:List Str)(sp:Sp):Prop where
 len:∀ vs H Q E,sp vs H Q E→vs.length=ps.length
 run:∀ (A:Around) (outer:List Env) (s:Shared) (H:Hp) (args:Args) (us:List Value) (vs:List V) (Q:VK) (E:XK),Room k A→Env0 P w K mg base A outer s H→BindsTo s fd args (ps.zip us)→Vals vs us→sp vs H Q E→
   codeAny (model P w) A (.call (.ref f) args) (CR CX outer P w H s Q E) s
theorem Env0.make{P:Program}{w:World}{K:c2f}{mg:Str→Option Value}{base:Heap}{A:Around}{outer:List Env}{s:Shared}{H:Hp}(e:Env0 P w K mg base A outer s H)(C:Addr)(us:List Value)(kw:List (Str×Value)) :
 Env0 P w K mg base (A.under (.builtin "type.__call__" ⟨.ref C::us,kw⟩)) outer s H:=⟨by first | exact e.frames | (simpa [Around.under,Code.envs,Code.isFrame,pushEnvs] using e.frames),e.mod,e.bs,e.bsz,e.funs,e.frf,e.hok,e.bare⟩
section
variable {X:Cx} {pins:List (Addr×Obj)} {σ:St} {H:Hp} {s s':Shared}
theorem Inv.env0(I:Inv X pins σ H s):Env0 X.prog X.w X.K X.mg X.base X.A X.stack s H:=
 ⟨I.ok.frames,I.ok.mod,I.bs,c4g I.ok.bsz I.sz,I.stack,I.stkFree,I.hok,I.bare⟩
theorem Inv.after{Q:VK}{u:Value}(I:Inv X pins σ H s)(h:CE X.stack X.prog X.w H s Q u s'):EP X pins σ Q u s':=by
 obtain⟨v,H',os,bare,un,hok,r,q⟩:=h
 obtain⟨hh,g,d,t,os'⟩:=s'
 obtain rfl:os'=s.os:=os
 exact⟨v,H',I.call (h':=hh) (g':=g) (d':=d) (t':=t) (ch:=[]) un hok bare (fun b z=>absurd z (by simp)),r,q⟩
end
def tCall(sp:Sp)(dvs:List V)(E:XK)(t:TA):TE:=fun σ H Q=>t σ H fun vs H1=>sp (vs++dvs) H1 Q E
def tMeth(C:Addr)(m:Str)(sp:Sp)(dvs:List V)(E:XK)(ta:TE)(t:TA):TE:=fun σ H Q=>ta σ H fun x H1=>∃ a dx fs,x=.ref a∧H1 a=some (.ins C dx fs)∧fs.lookup m=none∧
 t σ H1 fun vs H2=>sp (x::(vs++dvs)) H2 Q E
def tMake(C:Addr)(sp:Sp)(dvs:List V)(E:XK)(t:TA):TE:=fun σ H Q=>t σ H fun vs H1=>∀ x dx,H1 x=none→H1 dx=none→dx≠x→
 sp (.ref x::(vs++dvs)) (upd (upd H1 dx (.own x)) x (.ins C dx [])) (fun v H2=>v=.non∧Q (.ref x) H2) E
def a7p(K:c2f)(fd:FuncData)(ps:List Str)(ds:List Value):Prop:=
 ∀ (s:Shared) (us:List Value),K.In s.heap→(us++ds).length=ps.length→BindsTo s fd ⟨us,[]⟩ (ps.zip (us++ds))
theorem a7p.all{K:c2f}{fd:FuncData}{ps:List Str}(h:∀ us:List Value,us.length=ps.length→bindArgs fd ⟨us,[]⟩=pure (ps.zip us)):a7p K fd ps []:=fun s us _ hl=>by
 rw[c5d] at hl ⊢
 exact .of_eq (h us hl)
def a3k(CX:CXT)(X:Cx)(E:XK):Prop:=∀ (pins:List (Addr×Obj)) (σ:St) (H:Hp) (s:Shared) (e:Value) (s':Shared),Inv X pins σ H s→CX X.stack H s E e s'→X.xe e s'
section
variable {X:Cx} {CX:CXT} {k:Nat} {f C:Addr} {fd:FuncData} {ps:List Str} {sp:Sp} {dvs:List V} {ds:List Value} {E:XK} {x m:Str} {p pos apos:Pos} {e o:Expr} {es:List Expr} {ta:TE} {t:TA}
theorem run_fn{pins:List (Addr×Obj)}{σ:St}{H:Hp}{s:Shared}{Q:VK}{us:List Value}{vs:List V}(F:FnOk X.prog X.w X.K X.mg X.base CX k f fd ps sp)(hr:Room k X.A)(hb:a7p X.K fd ps ds)(hd:Vals dvs ds)(hx:a3k CX X E)(I:Inv X pins σ H s)(r:Vals vs us)(h:sp (vs++dvs) H Q E):wpAny (model X.prog X.w) X.A (call (.ref f) us) (EP X pins σ Q) X.xe s:=by
 have r2:Vals (vs++dvs) (us++ds):=r.append hd
 have hl:(us++ds).length=ps.length:=by rw[← r2.length];exact F.len _ _ _ _ h
 refine wpAny_call (codeAny_mono (F.run X.A X.stack s H ⟨us,[]⟩ (us++ds) (vs++dvs) Q E hr I.env0 (hb s us I.kIn hl) r2 h) fun r s' hq=>?_)
 cases r with
 | error e=>exact hx pins σ H s e s' I hq
 | ok fl=>
   cases fl with
   | ret u=>exact I.after hq
   | next=>exact False.elim hq
   | brk=>exact False.elim hq
   | cont=>exact False.elim hq
theorem pe_call(F:FnOk X.prog X.w X.K X.mg X.base CX k f fd ps sp)(hr:Room k X.A)(hg:Gl X x)(hm:X.mg x=some (.ref f))(hk:c2s X.K (.ref f)=true)(hb:a7p X.K fd ps ds)(hd:Vals dvs ds)(hx:a3k CX X E)(ha:PA X (e::es) t)(hdb:(x == ("__debug__" : Str))=false:=by decide)(he:starEach (e::es) X.env=(false,eval e X.env)::starEach es X.env:=by rfl)(hpl:(backTo pos (starEach es X.env)).any (·.1)=false:=by rfl) :
   PE X (.Call (.Name x p) (e::es) [] pos) (tCall sp dvs E t):=by
 intro pins s σ H Q I h
 refine wpAny_Call_Name_kw (a8w I hg hm ?_ hdb)
 refine PySem.W.callWith_K (h₀:=X.base) I.ok.mod.kin hk (thn (ha pos pins s σ H _ I h) fun us s1 ⟨vs,H1,I1,r,q⟩=>⟨I1.kIn,?_⟩) he hpl
 exact run_fn F hr hb hd hx I1 r q
theorem pe_meth0{pl:Sem Bool}(he:PE X o ta)(c:Cls X.K C)(hm:Meth X.K C m f)(F:FnOk X.prog X.w X.K X.mg X.base CX k f fd ps sp)(hr:Room k X.A)(hb:a7p X.K fd ps ds)(hd:Vals dvs ds)(hx:a3k CX X E)(ht:eval (.Call (.Attribute o m apos) [] [] pos) X.env=(do
     let ov ← eval o X.env
     standAt apos.atName
     let (f,first) ← holding [ov] (getMethod ov m pl)
     callWith pos f first (backTo pos (starEach [] X.env)) (backToKw pos (keywordEach [] X.env))):=by rfl) :
   PE X (.Call (.Attribute o m apos) [] [] pos) (tMeth C m sp dvs E ta tNil):=by
 intro pins s σ H Q I h
 refine PySem.W.methodCall_KW (pl:=pl) (thn (he pins s σ H _ I h) fun u s1 ⟨x,H1,I1,rx,a,dx,fs,ex,ea,l,q⟩=>?_) ht
 subst ex
 obtain rfl:u=Value.ref a:=rx
 refine b7f I1 ea c hm l ?_
 exact PySem.W.callWith_K0 (first:=[.ref a]) I1.kIn hm.kp (run_fn (us:=[.ref a]) (vs:=[.ref a]) F hr hb hd hx I1 (.cons rfl .nil) q)
structure Mk(K:c2f)(C f:Addr):Prop where
 makes:PySem.W.makesIn K C=true
 init:c3l K (.ref C) "__init__" = some (some (.ref f))
 fn:c7u K (.ref f)=true
 kp:c2s K (.ref C)=true
theorem run_make{pins:List (Addr×Obj)}{σ:St}{H:Hp}{s:Shared}{Q:VK}{us:List Value}{vs:List V}(M:Mk X.K C f)(F:FnOk X.prog X.w X.K X.mg X.base CX k f fd ps sp)(hr:Room (k+1) X.A)(hb:a7p X.K fd ps ds)(hd:Vals dvs ds)(hx:a3k CX X E)(I:Inv X pins σ H s)(r:Vals vs us)(h:∀ x dx,H x=none→H dx=none→dx≠x→sp (.ref x::(vs++dvs)) (upd (upd H dx (.own x)) x (.ins C dx [])) (fun v H2=>v=.non∧Q (.ref x) H2) E) :
   wpAny (model X.prog X.w) X.A (call (.ref C) us) (EP X pins σ Q) X.xe s:=by
 have hq:=h (s.heap.objs.size+1) s.heap.objs.size (I.hok.fresh (c6j _)) (I.hok.fresh (c2o _)) (c3e (c6i _))
 have I2:=Inv.made (C:=C) I
 have r2:Vals (V.ref (s.heap.objs.size+1)::(vs++dvs)) (Value.ref (s.heap.objs.size+1)::(us++ds)):=.cons rfl (r.append hd)
 have hl:(Value.ref (s.heap.objs.size+1)::us++ds).length=ps.length:=by
   have e:=r2.length
   rw[F.len _ _ _ _ hq] at e
   exact e.symm
 refine wpAny_call (make_map (f:=f) I.kIn M.makes M.init (beq_iff_eq.mp M.fn) (codeAny_mono (F.run _ X.stack _ _ ⟨Value.ref (s.heap.objs.size+1)::us,[]⟩ (Value.ref (s.heap.objs.size+1)::(us++ds)) _ _ E (hr.make C us [])
   (I2.env0.make C us []) (hb _ (Value.ref (s.heap.objs.size+1)::us) I2.kIn hl) r2 hq) fun r s' hq'=>?_))
 cases r with
 | error e=>exact hx pins σ _ _ e s' I2 hq'
 | ok fl=>
   cases fl with
   | ret u=>
     obtain⟨v,H',I3,rv,ev,q3⟩:=I2.after hq'
     subst ev
     exact⟨rv,⟨V.ref (s.heap.objs.size+1),H',I3,rfl,q3⟩⟩
   | next=>exact False.elim hq'
   | brk=>exact False.elim hq'
   | cont=>exact False.elim hq'
theorem pe_make(M:Mk X.K C f)(F:FnOk X.prog X.w X.K X.mg X.base CX k f fd ps sp)(hr:Room (k+1) X.A)(hg:Gl X x)(hm:X.mg x=some (.ref C))(hb:a7p X.K fd ps ds)(hd:Vals dvs ds)(hx:a3k CX X E)(ha:PA X (e::es) t)(hdb:(x == ("__debug__" : Str))=false:=by decide)(he:starEach (e::es) X.env=(false,eval e X.env)::starEach es X.env:=by rfl)(hpl:(backTo pos (starEach es X.env)).any (·.1)=false:=by rfl) :
   PE X (.Call (.Name x p) (e::es) [] pos) (tMake C sp dvs E t):=by
 intro pins s σ H Q I h
 refine wpAny_Call_Name_kw (a8w I hg hm ?_ hdb)
 refine PySem.W.callWith_K (h₀:=X.base) I.ok.mod.kin M.kp (thn (ha pos pins s σ H _ I h) fun us s1 ⟨vs,H1,I1,r,q⟩=>⟨I1.kIn,?_⟩) he hpl
 exact run_make M F hr hb hd hx I1 r q
end
structure a1a(N P:List Str)(sc:Scope):Prop where
 kind:sc.kind=.function
 co:sc.isCoroutine=false
 gen:sc.isGenerator=false
 nd:N.Nodup
 pre:N.take P.length=P
 par:∀ x∈P,sc.names.lookup x=some .local∨sc.names.lookup x=some .cell
 nofree:∀ y∈sc.names,y.2≠.free
theorem b3b{kindOf:Str→Option NameKind}{x:Str}:∀ {binds:List (Str×Value)} {m:Str→Option Value},(∀ v,(x,v)∉binds)→bindL kindOf binds m x=m x
 | [],_,_=>rfl
 | (n,v)::r,m,h=>by
   unfold bindL
   rw[b3b fun w hw=>h w (c3q _ hw)]
   split
   · have:x≠n:=by rintro rfl;exact h v c5z
     simp[this]
   · rfl
theorem b3d{kindOf:Str→Option NameKind}{x:Str}:∀ {binds:List (Str×Value)} {m:Str→Option Value},(∀ v,(x,v)∉binds)→bindC kindOf binds m x=m x
 | [],_,_=>rfl
 | (n,v)::r,m,h=>by
   unfold bindC
   rw[b3d fun w hw=>h w (c3q _ hw)]
   split
   · rfl
   · have:x≠n:=by rintro rfl;exact h v c5z
     simp[this]
theorem b3c{kindOf:Str→Option NameKind}{x:Str}{v:Value}:∀ {P:List Str} {vs:List Value} {i:Nat} {m:Str→Option Value},P.Nodup→P[i]?=some x→vs[i]?=some v→kindOf x=some .local→
   bindL kindOf (P.zip vs) m x=some v
 | [],_,_,_,_,h,_,_=>by simp at h
 | _::_,[],_,_,_,_,h,_=>by simp at h
 | p::P,w::vs,0,m,nd,h1,h2,hk=>by
   simp at h1 h2;subst h1;subst h2
   show bindL kindOf ((p,w)::P.zip vs) m p=_
   unfold bindL
   rw[b3b fun v hv=>(c6r.mp nd).1 (List.of_mem_zip hv).1,if_pos hk]
   simp
 | p::P,w::vs,i+1,m,nd,h1,h2,hk=>by
   show bindL kindOf ((p,w)::P.zip vs) m x=_
   unfold bindL
   exact b3c (i:=i) (c6r.mp nd).2 (by simpa using h1) (by simpa using h2) hk
theorem b3e{kindOf:Str→Option NameKind}{x:Str}{v:Value}:∀ {P:List Str} {vs:List Value} {i:Nat} {m:Str→Option Value},P.Nodup→P[i]?=some x→vs[i]?=some v→kindOf x≠some .local→
   bindC kindOf (P.zip vs) m x=some v
 | [],_,_,_,_,h,_,_=>by simp at h
 | _::_,[],_,_,_,_,h,_=>by simp at h
 | p::P,w::vs,0,m,nd,h1,h2,hk=>by
   simp at h1 h2;subst h1;subst h2
   show bindC kindOf ((p,w)::P.zip vs) m p=_
   unfold bindC
   rw[b3d fun v hv=>(c6r.mp nd).1 (List.of_mem_zip hv).1,if_neg hk]
   simp
 | p::P,w::vs,i+1,m,nd,h1,h2,hk=>by
   show bindC kindOf ((p,w)::P.zip vs) m x=_
   unfold bindC
   exact b3e (i:=i) (c6r.mp nd).2 (by simpa using h1) (by simpa using h2) hk
def a6s(N:List Str)(vs:List V):St:=vs.map some++c2n (N.length - vs.length) none
def cxOf(CX:CXT)(P:Program)(w:World)(K:c2f)(mg:Str→Option Value)(base:Heap)(N:List Str)(qual:Str)(scope:Scope)(f:Addr)(cd:Value)(A:Around)(outer:List Env)(s:Shared)(H:Hp)(E:XK):Cx where
 prog:=P
 w:=w
 K:=K
 mg:=mg
 base:=base
 A:=A.deeper (envOfC qual scope s.heap.objs.size f cd)
 N:=N
 s₀:=s
 H₀:=H
 env:=envOfC qual scope s.heap.objs.size f cd
 outer:=outer
 stack:=envOfC qual scope s.heap.objs.size f cd::outer
 ex:=[]
 calm:=true
 fn:=fun _=>true
 pn:=[]
 xe:=fun e s'=>wpAny (model P w) (A.deeper (envOfC qual scope s.heap.objs.size f cd)) (leaving (envOfC qual scope s.heap.objs.size f cd) e) (fun _ s''=>CX outer H s E e s'') (fun e' s''=>CX outer H s E e' s'') s'
theorem b6j{sc:Scope}{n:Nat}{x:Str}(h:sc.names.lookup x=some .cell):∃ c,(cellsFrom n sc.names []).lookup x=some c:=by
 have q:=PySem.W.cellsFrom_some sc.names n [] (.inl h)
 exact Option.isSome_iff_exists.mp q
theorem c0q{CX:CXT}{P:Program}{w:World}{K:c2f}{mg:Str→Option Value}{base:Heap}{N ps:List Str}{qual:Str}{scope:Scope}{f:Addr}{cd:Value}{A:Around}{outer:List Env}{s s1:Shared}{H:Hp}{E:XK}{us:List Value}{vs:List V}(S:a1a N ps scope)(hd:A.handled=none)(e0:Env0 P w K mg base A outer s H)(hl:vs.length=ps.length)(r:Vals vs us)(x:InCallC s s.heap.objs.size (bindL (envOfC qual scope s.heap.objs.size f cd).kindOf (ps.zip us) fun _=>none) (cellsFrom (s.heap.objs.size+1) scope.names []) (bindC (envOfC qual scope s.heap.objs.size f cd).kindOf (ps.zip us) fun _=>none) s1) :
   Inv (cxOf CX P w K mg base N qual scope f cd A outer s H E) [] (a6s N vs) H s1:=by
 have hpl:ps.length≤N.length:=by have:=congrArg c6v S.pre;rw[c3j] at this;omega
 obtain⟨h1,tk,rfl,hk⟩:=x.done
 have noA:∀ b:Addr,b∉(cxOf CX P w K mg base N qual scope f cd A outer s H E).ex:=fun b z=>absurd (show b∈([]:List Addr) from z) (by simp)
 refine⟨⟨e0.mod,S.kind,rfl,rfl,c2o _,fun y z c h1 h2=>?_,fun y hy=>?_,fun y c _ h=>?_,fun _=>hd,Around.frames_deeper e0.frames,.inr ⟨rfl,rfl⟩,fun b z=>absurd z (noA b),e0.bs,e0.bsz,fun b _ _=>noA b,fun b z=>absurd z (noA b),e0.funs,e0.frf⟩,
   rfl,e0.bare,Un.kept hk,⟨_,x.toInCall.ns,fun i y v h1 h2 h3=>?_⟩,fun y c h=>⟨_,x.cell y c h⟩,e0.hok.fresh (c2o _),fun y c h=>?_,fun p hp=>absurd (show p∈([]:List (Addr×Obj)) from hp) (by simp),e0.hok.kept hk,?_⟩
 · exact name_of_addr x.apart (PySem.mem_of_lookup h1) (PySem.mem_of_lookup h2)
 · have hy:scope.names.lookup y=some .cell∨scope.names.lookup y=some .free:=hy
   rcases hy with hy | hy
   · exact b6j hy
   · exact absurd rfl (S.nofree _ (PySem.mem_of_lookup hy))
 · exact c5k (x.above y c (PySem.mem_of_lookup h))
 · have hi:i<vs.length:=by
     unfold a6s at h2
     by_cases hi:i<vs.length
     · exact hi
     · rw[c2w (by simpa using hi)] at h2
       rw[c4v] at h2
       split at h2<;>cases h2
   have ha:vs[i]?=some v:=by
     unfold a6s at h2
     rw[c2v (by simpa using hi),c2p] at h2
     cases e:vs[i]? with
     | none=>rw[e] at h2;cases h2
     | some a=>rw[e] at h2;cases h2;rfl
   obtain⟨u,hu,rv⟩:=r.get ha
   have hp:ps[i]?=some y:=by
     rw[← S.pre,List.getElem?_take_of_lt (by omega)];exact h1
   have ndP:ps.Nodup:=by rw[← S.pre];exact S.nd.sublist (List.take_sublist _ _)
   refine⟨u,rv,?_⟩
   rcases S.par y (c2m hp) with k | k
   · exact .inl ⟨k,b3c ndP hp hu k⟩
   · obtain⟨c,e⟩:=b6j (n:=s.heap.objs.size+1) k
     refine .inr ⟨.inl k,c,e,?_⟩
     have q:=x.cell y c e
     rw[b3e ndP hp hu (by show scope.names.lookup y≠_;rw[k];decide)] at q
     exact q
 · exact e0.hok.fresh (c5k (x.above y c (PySem.mem_of_lookup h)))
 · unfold a6s
   show _=N.length
   rw[c2k,c2h,c2r]
   omega
theorem fn_of{CX:CXT}{P:Program}{w:World}{K:c2f}{mg:Str→Option Value}{base:Heap}{k:Nat}{f:Addr}{name qual:Str}{params:Arguments}{body:List Stmt}{scope:Scope}{dV kV doc pm cdv ct oc:Value}{an od:Option Addr}{osl:Array (Option Value)}{N ps:List Str}{sp:Sp}(lk:K.lookup f=some ⟨oc,od,.func (c2z name qual params body scope dV kV doc pm an cdv ct),osl⟩)(hcd:c2y K cdv qual=true)(S:a1a N ps scope)(len:∀ vs H Q E,sp vs H Q E→vs.length=ps.length)(hbody:∀ (A:Around) (outer:List Env) (s:Shared) (H:Hp) (vs:List V) (Q:VK) (E:XK),Room k (A.deeper (envOfC qual scope s.heap.objs.size f cdv))→sp vs H Q E→
     ∃ t,PSs (cxOf CX P w K mg base N qual scope f cdv A outer s H E) body t∧t { nx:=fun _ H'=>Q .non H',rt:=Q } (a6s N vs) H) :
   FnOk P w K mg base CX (k+1) f (c2z name qual params body scope dV kV doc pm an cdv ct) ps sp:=by
 refine⟨len,fun A outer s H args us vs Q E hr e0 hb r hsp=>?_⟩
 have hl:=len _ _ _ _ hsp
 have KX:K.In s.heap:=e0.mod.kin.keeps fun b o e=>(e0.bs b o e).1
 have lim:s.heap.NoLimit:=e0.mod.nolimit.keeps fun b o e=>(e0.bs b o e).1
 have hkind:∀ y∈ps.zip us,scope.names.lookup y.1=some .local∨(scope.names.lookup y.1=some .cell∧((cellsFrom (s.heap.objs.size+1) scope.names []).lookup y.1).isSome=true):=fun⟨n,v⟩ hy=>by
   rcases S.par n (List.of_mem_zip hy).1 with q | q
   · exact .inl q
   · exact .inr ⟨q,PySem.W.cellsFrom_some _ _ _ (.inl q)⟩
 refine codeAny_call_function hr.depth (KX _ _ lk) rfl S.co S.gen rfl (PySem.W.codeRec_of KX hcd) (hb _ _ _ _ ?_)
 refine wpAny_newFunctionEnv_cells S.kind hkind fun env he s1 x=>?_
 subst he
 refine⟨lim.keeps x.toInCall.keep,codeAny_func ?_⟩
 obtain⟨t,ht,hq⟩:=hbody A outer s H vs Q E (hr.deeper _) hsp
 have I:Inv (cxOf CX P w K mg base N qual scope f cdv A outer s H E) [] (a6s N vs) H s1:=c0q S hr.hd e0 hl r x
 refine wpAny_mono (ht [] s1 (a6s N vs) H _ I hq) (fun fl s' hs=>?_) fun e s' hs=>hs
 have fin:∀ {σ':St} {H':Hp} {v:V} {u:Value},Inv (cxOf CX P w K mg base N qual scope f cdv A outer s H E) [] σ' H' s'→RelV v u→Q v H'→CE outer P w H s Q u s':=
   fun {σ' H' v u} J rv q=>⟨v,H',J.os,J.bare,J.base,J.hok,rv,q⟩
 cases fl with
 | ret u=>
   obtain⟨v,σ',H',J,rv,q⟩:=hs
   exact fin J rv q
 | next=>
   obtain⟨σ',H',J,q⟩:=hs
   exact fin (v:=V.non) (u:=Value.none) J rfl q
 | brk=>
   obtain⟨_,_,_,q⟩:=hs
   exact False.elim q
 | cont=>
   obtain⟨_,_,_,q⟩:=hs
   exact False.elim q
end L2
namespace L2
open PySem PySem.Spec PyProof.Rows
section
variable {X:Cx} {x:Str} {p pos:Pos} {e:Expr} {es:List Expr} {t:TA} {id T:String} {r:List V→Hp→VK→Prop}
def tCB(r:List V→Hp→VK→Prop)(t:TA):TE:=fun σ H Q=>t σ H fun vs H1=>r vs H1 Q
theorem pe_callB(hc:a5g X (.builtin id) r)(hg:Gl X x)(hm:X.mg x=none)(hv:bootBuiltins x=some (.builtin id))(ha:PA X (e::es) t)(hn:x ≠ "__name__":=by decide)(hdb:(x == ("__debug__" : Str))=false:=by decide)(he:starEach (e::es) X.env=(false,eval e X.env)::starEach es X.env:=by rfl)(hpl:(backTo pos (starEach es X.env)).any (·.1)=false:=by rfl):PE X (.Call (.Name x p) (e::es) [] pos) (tCB r t):=by
 intro pins s σ H Q I h
 refine wpAny_Call_Name_kw (a8x I hg hm hv ?_ hn hdb)
 exact PyProof.Rows.callWith_builtin1 (thn (ha pos pins s σ H _ I h) fun us s1 ⟨vs,H1,I1,r1,q1⟩=>hc pins s1 σ H1 vs us Q I1 r1 q1) he hpl
theorem b9r(hc:a5g X (.type T) r)(hg:Gl X x)(hm:X.mg x=none)(hv:bootBuiltins x=some (.type T))(ha:PA X (e::es) t)(hn:x ≠ "__name__":=by decide)(hdb:(x == ("__debug__" : Str))=false:=by decide)(he:starEach (e::es) X.env=(false,eval e X.env)::starEach es X.env:=by rfl)(hpl:(backTo pos (starEach es X.env)).any (·.1)=false:=by rfl):PE X (.Call (.Name x p) (e::es) [] pos) (tCB r t):=by
 intro pins s σ H Q I h
 refine wpAny_Call_Name_kw (a8x I hg hm hv ?_ hn hdb)
 exact c5g (thn (ha pos pins s σ H _ I h) fun us s1 ⟨vs,H1,I1,r1,q1⟩=>hc pins s1 σ H1 vs us Q I1 r1 q1) he hpl
end
end L2
namespace HT
open PySem PyProof.Rows
section
variable {prog:Program} {w:World} {A:Around} {E:Value→Shared→Prop} {s:Shared}
theorem cat_tup{t b:Addr}{vs ws:List Value}{Q:Value→Shared→Prop}(ht:IsTup s.heap t vs.toArray)(hb:IsTup s.heap b ws.toArray)(hv:vs≠[])(h1:ws=[]→Q (.ref t) s)(h2:ws≠[]→Q (.ref s.heap.objs.size) { s with heap:=s.heap.push { cls:=.type "tuple",data:=.seq (vs++ws).toArray } })(hsz:vs.length+ws.length≤sizeLine):wpAny (model prog w) A (binaryOp .Add (.ref t) (.ref b)) Q E s:=by
 obtain⟨⟨cls,dd,data,sl⟩,ho,hc,n,hd⟩:=id ht
 obtain⟨⟨cls2,dd2,data2,sl2⟩,ho2,hc2,n2,hd2⟩:=id hb
 simp only at hc hd hc2 hd2
 subst hc hd hc2 hd2
 have e:vs.toArray++ws.toArray=(vs++ws).toArray:=by simp
 by_cases hw:ws=[]
 · exact concat_meets ⟨_,ho,rfl⟩ ⟨_,ho2,rfl⟩ noFill_tuple_add seq_tuple_add PySem.F.slot_tuple_add PySem.F.entry_tuple_add (PySem.F.args_tuple_add_2 _ _)
     (tuple_addW1 t b vs.toArray ws.toArray n n2 dd dd2 sl sl2 (by simpa using hv) (by simp[hw])) ⟨ho,ho2,h1 hw⟩
 · refine concat_meets ⟨_,ho,rfl⟩ ⟨_,ho2,rfl⟩ noFill_tuple_add seq_tuple_add PySem.F.slot_tuple_add PySem.F.entry_tuple_add (PySem.F.args_tuple_add_2 _ _)
     (tuple_addW2 t b vs.toArray ws.toArray n n2 dd dd2 sl sl2 (by simpa using hv) (by simpa using hw) (by rw[c3b,c3b];exact hsz)) ⟨ho,ho2,?_⟩
   rw[e]
   exact h2 hw
def sIx(n d:Nat):Option Int→Nat
 | none=>d
 | some v=>if v<0 then (v+(n:Int)).toNat else min v.toNat n
theorem b0y(n d:Nat):sIx n d none=d:=rfl
theorem b3t(n d k:Nat):sIx n d (some (k:Int))=min k n:=by
 show (if (k:Int)<0 then ((k:Int)+(n:Int)).toNat else min (k:Int).toNat n)=min k n
 rw[if_neg (by omega),c5a]
theorem sIx_le(n d:Nat)(hd:d≤n)(o:Option Int):sIx n d o≤n:=by
 cases o with
 | none=>exact hd
 | some v=>
   show (if v<0 then (v+(n:Int)).toNat else min v.toNat n)≤n
   by_cases hv:v<0
   · rw[if_pos hv];omega
   · rw[if_neg hv];exact Nat.min_le_right _ _
theorem c1n(v:Int)(n d:Nat):(if v<0 then max (v+(n:Int)) 0 else min v (n:Int))=((sIx n d (some v):Nat):Int):=by
 show (if v<0 then max (v+(n:Int)) 0 else min v (n:Int))=(((if v<0 then (v+(n:Int)).toNat else min v.toNat n):Nat):Int)
 by_cases hv:v<0
 · simp only[if_pos hv];omega
 · simp only[if_neg hv];omega
theorem b7v(lo hi:Option Int)(n:Nat):Builtin.Slice.sliceAdjust lo hi 1 (n:Int)=(((sIx n 0 lo:Nat):Int),((sIx n n hi:Nat):Int)):=by
 have h1:¬ ((1:Int)<0):=by omega
 unfold Builtin.Slice.sliceAdjust
 simp only[h1,if_false]
 refine Prod.ext ?_ ?_
 · cases lo with
   | none=>rfl
   | some v=>exact c1n v n 0
 · cases hi with
   | none=>rfl
   | some v=>exact c1n v n n
theorem b6p(i j:Nat):Builtin.Slice.slicePlaces (i:Int) (j:Int) 1=j - i:=by
 unfold Builtin.Slice.slicePlaces
 have h1:(1:Int) > 0:=by omega
 simp only[h1,if_true,Int.ediv_one]
 split<;>omega
theorem b0d{v:Value}{o:Option Int}{Q:Option Int→Shared→Prop}(p:IsPart v o)(h:Q o s):wpAny (model prog w) A (Builtin.Slice.slicePartIndex v) Q E s:=by
 cases p with
 | none=>exact slicePart_none h
 | int i t=>exact slicePart_int h
theorem a7k{sl:Addr}{vl vu:Value}{lo hi:Option Int}{n:Nat}{Q:Int×Int×Nat→Shared→Prop}(hs:s.heap.IsSliceOf sl vl vu .none)(pl:IsPart vl lo)(pu:IsPart vu hi)(h:Q (((sIx n 0 lo:Nat):Int),1,sIx n n hi - sIx n 0 lo) s):wpAny (model prog w) A (Builtin.Slice.sliceApplied (.ref sl) (pure (n:Int))) Q E s:=by
 obtain⟨os,hos,hcs,hds⟩:=id hs
 unfold Builtin.Slice.sliceApplied Builtin.Slice.sliceFields
 refine wpAny_bind (wpAny_bind (wpAny_field hos hds (x:=vl) rfl (wpAny_bind (wpAny_field hos hds (x:=vu) rfl (wpAny_bind (wpAny_field hos hds (x:=.none) rfl (wpAny_pure ?_)))))))
 refine wpAny_bind (slicePart_none ?_)
 show wpAny _ _ (if ((1:Int) == 0)=true then _ else _) _ _ s
 rw[if_neg (by decide)]
 refine wpAny_bind (b0d pl (wpAny_bind (b0d pu (wpAny_bind (wpAny_pure ?_)))))
 show wpAny _ _ (match Builtin.Slice.sliceAdjust lo hi 1 (n:Int) with | (lo,hi)=>pure (lo,(1:Int),Builtin.Slice.slicePlaces lo hi 1)) _ _ s
 rw[b7v lo hi n]
 show wpAny _ _ (pure (((sIx n 0 lo:Nat):Int),(1:Int),Builtin.Slice.slicePlaces ((sIx n 0 lo:Nat):Int) ((sIx n n hi:Nat):Int) 1)) _ _ s
 rw[b6p]
 exact wpAny_pure h
theorem pick_gen(xs:Array Value)(i k:Nat):((c4a k).filterMap fun (m:Nat)=>xs[((i:Int)+(m:Int)*1).toNat]?).toArray=((xs.toList.drop i).take k).toArray:=by
 have e:(fun (m:Nat)=>xs[((i:Int)+(m:Int)*1).toNat]?)=fun m=>xs[i+m]?:=by
   funext m
   have:((i:Int)+(m:Int)*1).toNat=i+m:=by omega
   rw[this]
 rw[e]
 have:=pick_run xs i k
 rw[List.filterMap_map] at this
 have e2:((fun x=>xs[x]?)∘fun x=>i+x)=fun m=>xs[i+m]?:=rfl
 rw[e2] at this
 rw[this]
theorem a7c{t sl:Addr}{items:Array Value}{vl vu:Value}{lo hi:Option Int}{Q:Value→Shared→Prop}(ht:IsTup s.heap t items)(hs:s.heap.IsSliceOf sl vl vu .none)(pl:IsPart vl lo)(pu:IsPart vu hi)(hw:¬ (sIx items.size 0 lo=0∧sIx items.size items.size hi=items.size))(h:Q (.ref s.heap.objs.size) { s with heap:=s.heap.push { cls:=.type "tuple",data:=.seq ((items.toList.drop (sIx items.size 0 lo)).take (sIx items.size items.size hi - sIx items.size 0 lo)).toArray } })(hsz:items.size≤sizeLine):wpAny (model prog w) A (getItem (.ref t) (.ref sl)) Q E s:=by
 have htake:sizeOk (.seq ((items.toList.drop (sIx items.size 0 lo)).take (sIx items.size items.size hi - sIx items.size 0 lo)).toArray):=by
   show ((items.toList.drop (sIx items.size 0 lo)).take (sIx items.size items.size hi - sIx items.size 0 lo)).toArray.size≤sizeLine
   rw[c3b,c3j,c3k,c2g]
   omega
 have hj:sIx items.size items.size hi≤items.size:=sIx_le _ _ (c2o _) hi
 obtain⟨os,hos,hcs,hds⟩:=id hs
 have hTs:s.TypeIs (.ref sl) "slice":=⟨os,hos,hcs⟩
 unfold getItem
 try with_reducible refine wpAny_holding ?_
 first | refine wpAny_bind (wpAny_pure ?_) | skip
 refine wpAny_bind (wpAny_sequenceKey ht.typeIs (by decide) ?_)
 refine wpAny_bind (wpAny_callSpecial?_slot (name:=Str.ofString "__getitem__") ht.typeIs c6m
   (wpAny_call_entry c6m ht.typeIs entry_tuple_getitem ?_ (args_tuple_getitem _ _)))
 show wpAny _ _ (Builtin.Tuple.tupleItemsOf (.ref t) >>= _) _ _ s
 refine wpAny_bind (tupleItemsOf_ ht ?_)
 refine wpAny_bind (wpAny_typeOf hTs ?_)
 rw[if_pos (by decide)]
 refine wpAny_bind (a7k hs pl pu ?_)
 have hno:¬ ((((sIx items.size 0 lo:Nat):Int) == 0 && (1:Int) == 1 && (sIx items.size items.size hi - sIx items.size 0 lo) == items.size)=true):=by
   intro q
   rw[c4k,c4k] at q
   have q1:((sIx items.size 0 lo:Nat):Int)=0:=eq_of_beq q.1.1
   have q2:sIx items.size items.size hi - sIx items.size 0 lo=items.size:=eq_of_beq q.2
   exact hw ⟨by omega,by omega⟩
 show wpAny _ _ (if (((sIx items.size 0 lo:Nat):Int) == 0 && (1:Int) == 1 && (sIx items.size items.size hi - sIx items.size 0 lo) == items.size)=true then _ else _) _ _ s
 rw[if_neg hno,pick_gen]
 first
   | exact wpAny_bind (m:=Builtin.Tuple.tupleExact _) (wpAny_newObj_type (wpAny_pure ⟨_,rfl,wpAny_pure h⟩) htake)
   | exact wpAny_bind (m:=Builtin.Tuple.tupleExact _) (wpAny_newObj_type (wpAny_bind (wpAny_pure (wpAny_pure ⟨_,rfl,wpAny_pure h⟩))) htake)
   | exact wpAny_bind (wpAny_bind (m:=Builtin.Tuple.tupleExact _) (wpAny_newObj_type (wpAny_pure (wpAny_pure ⟨_,rfl,wpAny_pure h⟩)) htake))
   | exact wpAny_bind (wpAny_bind (m:=Builtin.Tuple.tupleExact _) (wpAny_newObj_type (wpAny_pure ⟨_,rfl,wpAny_pure h⟩) htake))
end
end HT
namespace L2
open PySem PySem.Spec PyProof.Rows
abbrev TO:=St→Hp→(Option Int→Hp→Prop)→Prop
def PO(X:Cx)(e:Option Expr)(t:TO):Prop:=
 ∀ (pins:List (Addr×Obj)) (s:Shared) (σ:St) (H:Hp) (Q:Option Int→Hp→Prop),Inv X pins σ H s→t σ H Q→
   wpAny (model X.prog X.w) X.A (evalPart e X.env) (fun u s'=>∃ o H',Inv X pins σ H' s'∧IsPart u o∧Q o H') X.xe s
def b8g:TO:=fun _ H Q=>Q none H
def tPart(t:TE):TO:=fun σ H Q=>t σ H fun x H1=>∃ i,x=.int i∧Q (some i) H1
theorem b0k{ns:List Int}:∀ {us:List Value},Vals (ns.map V.int) us→IntsAre us ns:=by
 induction ns with
 | nil=>intro us r;rw[List.map_nil] at r;cases r;exact .nil
 | cons n ns ih=>
   intro us r
   rw[c4u] at r
   cases r with
   | cons r1 r2=>
     obtain⟨t,e⟩:=r1
     subst e
     exact .cons n t (ih r2)
section
variable {X:Cx} {e:Expr} {te:TE} {lo hi:Option Expr} {tl th:TO} {pos p2:Pos}
theorem po_none:PO X none b8g:=by
 intro pins s σ H Q I h
 rw[evalPart_none]
 exact wpAny_pure ⟨none,H,I,.none,h⟩
theorem po_some(h:PE X e te):PO X (some e) (tPart te):=by
 intro pins s σ H Q I hw
 rw[evalPart_some]
 refine thn (h pins s σ H _ I hw) fun u s1 ⟨x,H1,I1,r1,q1⟩=>?_
 obtain⟨i,rfl,q⟩:=q1
 obtain⟨t,rfl⟩:=r1
 exact⟨some i,H1,I1,.int i t,q⟩
def SlR(X:Cx)(r:V→Option Int→Option Int→Hp→VK→Prop):Prop:=
 ∀ (pins:List (Addr×Obj)) (s:Shared) (σ:St) (H:Hp) (x:V) (v vl vu:Value) (lo hi:Option Int) (sl:Addr) (Q:VK),Inv X pins σ H s→RelV x v→s.heap.IsSliceOf sl vl vu .none→IsPart vl lo→IsPart vu hi→r x lo hi H Q→
   ∃ T id,typeLookup (.type T) "__getitem__" = pure (some (.builtin id))∧s.TypeIs v T∧wpAny (model X.prog X.w) X.A (getItem v (.ref sl)) (EP X pins σ Q) X.xe s
def tSl(r:V→Option Int→Option Int→Hp→VK→Prop)(te:TE)(tl th:TO):TE:=fun σ H Q=>te σ H fun x H1=>tl σ H1 fun l H2=>th σ H2 fun u H3=>r x l u H3 Q
theorem pe_slice{r:V→Option Int→Option Int→Hp→VK→Prop}(hr:SlR X r)(he:PE X e te)(hl:PO X lo tl)(hu:PO X hi th):PE X (.Subscript e (.Slice lo hi none p2) pos) (tSl r te tl th):=by
 intro pins s σ H Q I h
 refine Subscript_ (thn (he pins s σ H _ I h) fun v s1 ⟨x,H1,I1,r1,q1⟩=>?_)
 refine wpAny_Slice (thn (hl pins s1 σ H1 _ I1 q1) fun vl s2 ⟨l,H2,I2,pl,q2⟩=>thn (hu pins s2 σ H2 _ I2 q2) fun vu s3 ⟨u,H3,I3,pu,q3⟩=>?_)
 rw[evalPart_none]
 refine wpAny_pure ?_
 have I4:Inv X pins σ H3 { s3 with heap:=s3.heap.push { cls:=.type "slice",data:=.fields #[vl,vu,.none] } }:=I3.kept (t':=s3.toks) fun b ob q=>Heap.get?_push_of_some _ q
 obtain⟨T,id,hT,ht,hg⟩:=hr pins { s3 with heap:=s3.heap.push { cls:=.type "slice",data:=.fields #[vl,vu,.none] } } σ H3 x v vl vu l u s3.heap.objs.size Q I4 r1 (Heap.IsSliceOf.new ..) pl pu q3
 show wpAny (model X.prog X.w) X.A (subscriptTail e (.Slice lo hi none p2) v (.ref s3.heap.objs.size)) (EP X pins σ Q) X.xe { s3 with heap:=s3.heap.push { cls:=.type "slice",data:=.fields #[vl,vu,.none] } }
 exact tail_any (ops:=[.ref s3.heap.objs.size,v]) ht hT hg (by with_unfolding_all rfl)
def cutV(xs:List V)(lo hi:Option Int):List V:=(xs.drop (HT.sIx xs.length 0 lo)).take (HT.sIx xs.length xs.length hi - HT.sIx xs.length 0 lo)
theorem a9f(xs:List V)(lo hi:Option Int):(cutV xs lo hi).length≤xs.length:=by
 unfold cutV
 rw[c3j,c3k]
 omega
def rSlT(K:c2f):V→Option Int→Option Int→Hp→VK→Prop:=fun x lo hi H Q=>∃ a xs,x=.ref a∧SqT K H a xs∧
 ¬ (HT.sIx xs.length 0 lo=0∧HT.sIx xs.length xs.length hi=xs.length)∧∀ p,H p=none→Q (.ref p) (upd H p (.tup (cutV xs lo hi)))
theorem sl_tup:SlR X (rSlT X.K):=by
 intro pins s σ H x v vl vu lo hi sl Q I rx hs pl pu h
 obtain⟨a,xs,rfl,hx,hw,q⟩:=h
 cases rx
 obtain⟨its,r,ht,hz⟩:=I.tuple hx
 have hlen:its.toArray.size=xs.length:=by rw[c3b];exact r.length.symm
 refine⟨"tuple",_,c6m.lookup,ht.typeIs,?_⟩
 refine HT.a7c ht hs pl pu (by rw[hlen];exact hw) ?_ (by rw[hlen];exact hz)
 rw[hlen]
 refine⟨.ref s.heap.objs.size,_,I.laid (t':=s.toks) (o:=.tup (cutV xs lo hi)) (fun b ob q=>Heap.get?_push_of_some _ q) (c2o _) ?_,rfl,q _ (I.hok.fresh (c2o _))⟩
 exact⟨c4g (a9f xs lo hi) hz,_,(r.drop (HT.sIx xs.length 0 lo)).take (HT.sIx xs.length xs.length hi - HT.sIx xs.length 0 lo),IsTup.new _ _⟩
def rCatT(K:c2f):R2:=fun x y H Q=>∃ a b xs ys,x=.ref a∧y=.ref b∧SqT K H a xs∧SqT K H b ys∧xs≠[]∧xs.length+ys.length≤sizeLine∧
 (ys=[]→Q (.ref a) H)∧(ys≠[]→∀ p,H p=none→Q (.ref p) (upd H p (.tup (xs++ys))))
theorem Vals.nil_iff{xs:List V}{us:List Value}(r:Vals xs us):us=[]↔xs=[]:=by
 cases r with
 | nil=>simp
 | cons _ _=>simp
theorem op_catT:OpR X (binaryOp .Add) (rCatT X.K):=by
 intro pins s σ H x y v u Q I rx ry h
 obtain⟨a,b,xs,ys,rfl,rfl,ha,hb,hx,hz,q1,q2⟩:=h
 cases rx
 cases ry
 obtain⟨its,r1,p1,_⟩:=I.tuple ha
 obtain⟨its2,r2,p2,_⟩:=I.tuple hb
 refine HT.cat_tup p1 p2 (fun z=>hx (r1.nil_iff.mp z)) (fun z=>⟨.ref a,H,I,rfl,q1 (r2.nil_iff.mp z)⟩) (fun z=>?_) (by rw[← r1.length,← r2.length];exact hz)
 refine⟨.ref s.heap.objs.size,_,I.laid (t':=s.toks) (o:=.tup (xs++ys)) (fun b ob q=>Heap.get?_push_of_some _ q) (c2o _) ?_,rfl,q2 (fun w=>z (r2.nil_iff.mpr w)) _ (I.hok.fresh (c2o _))⟩
 exact⟨by rw[c2k];exact hz,_,r1.append r2,IsTup.new _ _⟩
end
end L2
namespace L2
open PySem PySem.Spec PyProof.Rows
def ixN(n:Nat)(i:Int):Option Nat:=if 0≤i then (if i<n then some i.toNat else none) else if -(n:Int)≤i then some (i+n).toNat else none
def atI{α:Type}(xs:List α)(i:Int):Option α:=(ixN xs.length i).bind fun j=>xs[j]?
theorem ixN_seq{n:Nat}{i:Int}{j:Nat}(h:ixN n i=some j):seqIndex? i n=some j∧j<n∧-(n:Int)≤i∧i<n:=by
 unfold ixN at h
 by_cases h0:0≤i
 · rw[if_pos h0] at h
   by_cases h1:i<n
   · rw[if_pos h1] at h
     have e:i.toNat=j:=c2u.inj h
     exact⟨by rw[seqIndex_of h0 h1,e],by omega,by omega,h1⟩
   · rw[if_neg h1] at h;cases h
 · rw[if_neg h0] at h
   by_cases h1:-(n:Int)≤i
   · rw[if_pos h1] at h
     have e:(i+n).toNat=j:=c2u.inj h
     exact⟨by rw[seqIndex_neg (by omega) h1,e],by omega,h1,by omega⟩
   · rw[if_neg h1] at h;cases h
theorem c1u{α:Type}{xs:List α}{i:Int}{v:α}(h:atI xs i=some v):∃ j,seqIndex? i xs.length=some j∧xs[j]?=some v∧j<xs.length∧-(xs.length:Int)≤i∧i<xs.length:=by
 unfold atI at h
 cases e:ixN xs.length i with
 | none=>rw[e] at h;cases h
 | some j=>
   rw[e] at h
   obtain⟨h1,h2,h3,h4⟩:=ixN_seq e
   exact⟨j,h1,h,h2,h3,h4⟩
theorem b4r{α:Type}{xs:List α}{j:Nat}{v:α}(h:xs[j]?=some v):atI xs (j:Int)=some v:=by
 have hj:j<xs.length:=(c2q.mp h).1
 have e:ixN xs.length (j:Int)=some j:=by
   unfold ixN
   rw[if_pos (by omega),if_pos (by omega)];simp
 unfold atI;rw[e];exact h
theorem atI_last{α:Type}(xs:List α)(v:α):atI (xs++[v]) (-1)=some v:=by
 have hl:(xs++[v]).length=xs.length+1:=by simp
 have e:ixN (xs++[v]).length (-1)=some xs.length:=by
   unfold ixN
   rw[hl,if_neg (by decide),if_pos (by omega)]
   congr 1
   omega
 unfold atI
 rw[e]
 show (xs++[v])[xs.length]?=some v
 simp
def c2b(b:Expr):Prop:=∀ o i,subscripted b false o i=operate [o,i] (getItem o i)
def IxR(X:Cx)(r:R2):Prop:=
 ∀ (value slice:Expr) (pins:List (Addr×Obj)) (s:Shared) (σ:St) (H:Hp) (x y:V) (v u:Value) (Q:VK),Inv X pins σ H s→RelV x v→RelV y u→r x y H Q→
   subscripted slice false v u=operate [v,u] (getItem v u)→wpAny (model X.prog X.w) X.A (subscriptTail value slice v u) (EP X pins σ Q) X.xe s
def MtR(X:Cx)(id:String)(r:V→List V→Hp→VK→Prop):Prop:=
 ∀ (pins:List (Addr×Obj)) (s:Shared) (σ:St) (H:Hp) (x:V) (xs:List V) (v:Value) (us:List Value) (Q:VK),Inv X pins σ H s→RelV x v→Vals xs us→r x xs H Q→
   wpAny (model X.prog X.w) X.A (call (.builtin id) (v::us)) (EP X pins σ Q) X.xe s
section
variable {X:Cx} {a b:Expr} {ta tb:TE} {pos:Pos}
theorem pe_ix{r:R2}(hr:IxR X r)(ha:PE X a ta)(hb:PE X b tb)(hs:c2b b):PE X (.Subscript a b pos) (tOp r ta tb):=by
 intro pins s σ H Q I h
 exact Subscript_ (binT ha hb I h fun v u s2 x y H2 I2 rx ry q=>hr a b pins s2 σ H2 x y v u Q I2 rx ry q (hs _ _))
def rIxL(K:c2f):R2:=fun x y H Q=>∃ p xs i v,x=.ref p∧y=.int i∧SqL K H p xs∧atI xs i=some v∧Q v H
def rIxT(K:c2f):R2:=fun x y H Q=>∃ p xs i v,x=.ref p∧y=.int i∧SqT K H p xs∧atI xs i=some v∧Q v H
theorem ix_list:IxR X (rIxL X.K):=by
 intro value slice pins s σ H x y v u Q I rx ry h hs
 obtain⟨p,xs,i,z,rfl,rfl,hq,he,q⟩:=h
 cases rx
 obtain⟨t,rfl⟩:=ry
 obtain⟨its,r,pl,hz⟩:=I.list hq
 obtain⟨j,h1,h2,h3,h4,h5⟩:=c1u he
 obtain⟨w,ew,rw'⟩:=r.get h2
 have hl:=r.length
 have hn:=c0m
 have fin:EP X pins σ Q w s:=⟨z,H,I,rw',q⟩
 by_cases h0:0≤i
 · have hj:i.toNat=j:=by
     rw[seqIndex_of h0 h5] at h1
     exact c2u.inj h1
   exact item_listR pl.isList h0 (by omega) (by rw[hj];simpa using ew) fin hs
 · have hj:(i+(its.toArray.size:Int)).toNat=j:=by
     rw[seqIndex_neg (by omega) h4] at h1
     rw[c3b,← hl]
     exact c2u.inj h1
   exact subscriptTail_builtinR (x:=w) pl.isList.typeIs slot_list_getitem.lookup
     (wpAny_getItem_list_neg (Q:=fun r s'=>r=w∧EP X pins σ Q r s') pl.isList (by omega) (by rw[c3b]<;>omega) (by omega) (by rw[hj];simpa using ew) ⟨rfl,fin⟩) hs
theorem ix_tup:IxR X (rIxT X.K):=by
 intro value slice pins s σ H x y v u Q I rx ry h hs
 obtain⟨p,xs,i,z,rfl,rfl,hq,he,q⟩:=h
 cases rx
 obtain⟨t,rfl⟩:=ry
 obtain⟨its,r,pl,hz⟩:=I.tuple hq
 obtain⟨j,h1,h2,h3,h4,h5⟩:=c1u he
 obtain⟨w,ew,rw'⟩:=r.get h2
 have hl:=r.length
 have hn:=c0m
 have fin:EP X pins σ Q w s:=⟨z,H,I,rw',q⟩
 exact subscriptTail_builtinR (x:=w) pl.typeIs slot_tuple_getitem.lookup
   (getItem_tuple (j:=j) (Q:=fun r s'=>r=w∧EP X pins σ Q r s') pl (by omega) (by omega) (by rw[c3b,← hl];exact h1) (by simpa using ew) ⟨rfl,fin⟩) hs
theorem b2a(lo hi:Option Int)(n:Nat):(sliceBounds lo hi none n).1=((HT.sIx n 0 lo:Nat):Int)∧(sliceBounds lo hi none n).2.1=((HT.sIx n n hi:Nat):Int)∧(sliceBounds lo hi none n).2.2=1:=by
 refine⟨?_,?_,rfl⟩
 · cases lo with
   | none=>simp[sliceBounds,HT.sIx]
   | some i=>
     simp only[sliceBounds,HT.sIx,Option.getD_none,show (1:Int) > 0 by decide,if_true]
     by_cases h:i<0
     · simp only[h,if_true]<;>omega
     · simp only[h,if_false]<;>omega
 · cases hi with
   | none=>simp[sliceBounds,HT.sIx]
   | some i=>
     simp only[sliceBounds,HT.sIx,Option.getD_none,show (1:Int) > 0 by decide,if_true]
     by_cases h:i<0
     · simp only[h,if_true]<;>omega
     · simp only[h,if_false]<;>omega
theorem b0v(its:List Value)(lo hi:Option Int):slicePick its.toArray lo hi none=((its.drop (HT.sIx its.length 0 lo)).take (HT.sIx its.length its.length hi - HT.sIx its.length 0 lo)).toArray:=by
 obtain⟨h1,h2,h3⟩:=b2a lo hi its.toArray.size
 unfold slicePick
 rw[h1,h2,h3]
 simp only[sliceRange_one,pick_run,c3b]<;>rfl
def rSlL(K:c2f):V→Option Int→Option Int→Hp→VK→Prop:=fun x lo hi H Q=>∃ a xs,x=.ref a∧SqL K H a xs∧∀ p,H p=none→Q (.ref p) (upd H p (.lst (cutV xs lo hi)))
theorem sl_list:SlR X (rSlL X.K):=by
 intro pins s σ H x v vl vu lo hi sl Q I rx hs pl pu h
 obtain⟨a,xs,rfl,hx,q⟩:=h
 cases rx
 obtain⟨its,r,ht,hz⟩:=I.list hx
 have hlen:=r.length
 refine⟨"list",_,slot_list_getitem.lookup,ht.isList.typeIs,?_⟩
 refine wpAny_getItem_list_slice ht.isList hs pl pu .none (by simp) ?_ (by rw[c3b]<;>omega)
 rw[b0v,← hlen]
 refine⟨.ref s.heap.objs.size,_,I.laid (t':=s.toks) (o:=.lst (cutV xs lo hi)) (fun b ob q=>Heap.get?_push_of_some _ q) (c2o _) ?_,rfl,q _ (I.hok.fresh (c2o _))⟩
 exact⟨c4g (a9f xs lo hi) hz,_,0,(r.drop (HT.sIx xs.length 0 lo)).take (HT.sIx xs.length xs.length hi - HT.sIx xs.length 0 lo),Heap.get?_push_size _ rfl⟩
theorem b3a:a5g X (.builtin "len") (fun xs H Q=>∃ p ys,xs=[.ref p]∧(SqL X.K H p ys∨SqT X.K H p ys)∧Q (.int ys.length) H):=by
 intro pins s σ H xs us Q I r h
 obtain⟨p,ys,rfl,hq,q⟩:=h
 obtain⟨u,rfl,rx⟩:=vals1 r
 cases rx
 have hn:=c0m
 rcases hq with hq | hq
 · obtain⟨its,r',pl,hz⟩:=I.list hq
   have hlen:=r'.length
   exact Calls.call_len_list pl.isList (by simp only[c3b]<;>omega) ⟨.int ys.length,H,I.tok _,⟨s.toks+1,by rw[c3b,hlen]⟩,q⟩
 · obtain⟨its,r',pl,hz⟩:=I.tuple hq
   have hlen:=r'.length
   exact len_tuple pl (by simp only[c3b]<;>omega) ⟨.int ys.length,H,I.tok _,⟨s.toks+1,by rw[c3b,hlen]⟩,q⟩
theorem b2z:a5g X (.type "list") (fun xs H Q=>∃ p ys,xs=[.ref p]∧(SqL X.K H p ys∨SqT X.K H p ys)∧∀ l,H l=none→Q (.ref l) (upd H l (.lst ys))):=by
 intro pins s σ H xs us Q I r h
 obtain⟨p,ys,rfl,hq,q⟩:=h
 obtain⟨u,rfl,rx⟩:=vals1 r
 cases rx
 have fin:∀ (its:List Value),Vals ys its→ys.length≤sizeLine→∀ (h':Heap) (c':Nat),(∀ b o',s.heap.get? b=some o'→h'.get? b=some o')→
     h'.get? s.heap.objs.size=some { cls:=.type "list",dict:=none,data:=.seq its.toArray c',slots:=#[] }→EP X pins σ Q (.ref s.heap.objs.size) { s with heap:=h' }:=fun its r' hz h' c' kp e=>
   ⟨.ref s.heap.objs.size,_,I.laid (t':=s.toks) kp (c2o _) (show a5f X.prog X.w _ h' _ (.lst ys) from ⟨hz,its,c',r',e⟩),rfl,q _ (I.hok.fresh (c2o _))⟩
 rcases hq with hq | hq
 · obtain⟨its,r',pl,hz⟩:=I.list hq
   have hlen:=r'.length
   obtain⟨o,ho,hc,n,hd⟩:=pl.isList
   exact call_list_seq p (.inl rfl) ho hc hd (fun h' c' kp e=>fin its r' hz h' c' kp e) (by simp only[c3b]<;>omega)
 · obtain⟨its,r',pl,hz⟩:=I.tuple hq
   have hlen:=r'.length
   obtain⟨o,ho,hc,n,hd⟩:=pl
   exact call_list_seq p (.inr rfl) ho hc hd (fun h' c' kp e=>fin its r' hz h' c' kp e) (by simp only[c3b]<;>omega)
def tyV(K:c2f)(T:String)(x:V)(H:Hp):Prop:=match x with
 | .str _=>T = "str"
 | .int _=>T = "int"
 | .ref p=>(T = "list" ∧ ∃ xs,SqL K H p xs)∨(T = "tuple" ∧ ∃ o,K.lookup p=some o∧o.cls=.type "tuple" ∧ o.dict=none)∨
     (T = "dict" ∧ ((∃ kvs,H p=some (.dK kvs))∨∃ kvs,H p=some (.dT kvs)))∨(T = "set" ∧ ∃ S n,H p=some (.set S n))
 | _=>False
theorem tyV_is{pins:List (Addr×Obj)}{σ:St}{H:Hp}{s:Shared}{T:String}{x:V}{v:Value}(I:Inv X pins σ H s)(r:RelV x v)(ty:tyV X.K T x H) :
   s.TypeIs v T∧∀ a,v=.ref a→∃ ob,s.heap.get? a=some ob∧ob.dict=none:=by
 cases x with
 | str z=>
   obtain⟨t,rfl⟩:=r
   cases (show T = "str" from ty)
   exact⟨typeIs_str s z t,fun _ e=>nomatch e⟩
 | int i=>
   obtain⟨t,rfl⟩:=r
   cases (show T = "int" from ty)
   exact⟨typeIs_int s i t,fun _ e=>nomatch e⟩
 | ref p=>
   cases r
   rcases ty with⟨rfl,xs,hq⟩ | ⟨rfl,o,hk,hc,hd⟩ | ⟨rfl,hk⟩ | ⟨rfl,S,n,hk⟩
   · obtain⟨its,_,pl,_⟩:=I.list hq
     refine⟨pl.isList.typeIs,fun a e=>?_⟩
     cases e
     obtain⟨o,n,e,c,hd,_⟩:=pl
     exact⟨o,e,hd⟩
   · refine⟨⟨o,I.kIn p o hk,hc⟩,fun a e=>?_⟩
     cases e
     exact⟨o,I.kIn _ o hk,hd⟩
   · have z:∃ o,s.heap.get? p=some o∧o.ExactDict:=by
       rcases hk with⟨kvs,hk⟩ | ⟨kvs,hk⟩
       · obtain⟨_,_,_,_,o,_,_,e,ex,_⟩:=I.hok p _ hk
         exact⟨o,e,ex⟩
       · obtain⟨_,_,_,_,o,_,_,e,ex,_⟩:=I.hok p _ hk
         exact⟨o,e,ex⟩
     obtain⟨o,e,ex⟩:=z
     refine⟨⟨o,e,ex.1⟩,fun a e2=>?_⟩
     cases e2
     exact⟨o,e,ex.2.1⟩
   · obtain⟨o,_,_,_,e,ex,_⟩:=I.hok p _ hk
     refine⟨⟨o,e,ex.1⟩,fun a e2=>?_⟩
     cases e2
     exact⟨o,e,ex.2.1⟩
 | _=>exact False.elim ty
def tBM(K:c2f)(T:String)(r:V→List V→Hp→VK→Prop)(to:TE)(t:TA):TE:=fun σ H Q=>to σ H fun x H1=>tyV K T x H1∧t σ H1 fun xs H2=>r x xs H2 Q
variable {o e:Expr} {es:List Expr} {to:TE} {t:TA} {name:Str} {apos cpos:Pos} {T id:String} {r:V→List V→Hp→VK→Prop}
theorem pe_bm(pa:PlainAttrs T)(slot:Slot T name id)(hty:typeOf (.builtin id)=pure (.type "method_descriptor"))(hm:MtR X id r)(ho:PE X o to)(ha:PA X (e::es) t)(hbase:attributeBase o name X.env (eval o X.env)=eval o X.env:=by rfl)(hfew:((backTo cpos (starEach (e::es) X.env)).all (fun x=>!x.1) && (backToKw cpos (keywordEach [] X.env)).all (fun x=>x.1.isSome)
     && decide ((e::es).length+([]:List Keyword).length+(if ([]:List Keyword).isEmpty then 0 else 1)<30))=true:=by rfl)(hline:(apos.endLine == cpos.line)=true:=by rfl)(hs:starEach (e::es) X.env=(false,eval e X.env)::starEach es X.env:=by rfl)(hplain:(backTo cpos (starEach es X.env)).any (·.1)=false:=by rfl) :
   PE X (.Call (.Attribute o name apos) (e::es) [] cpos) (tBM X.K T r to t):=by
 intro pins s σ H Q I h
 refine wpAny_Call_method_late hbase hfew hline rfl (thn (ho pins s σ H _ I h) fun v s1 ⟨x,H1,I1,r1,ty,q1⟩=>?_)
 obtain⟨h1,h2⟩:=tyV_is I1 r1 ty
 refine⟨T,id,pa,slot,hty,h1,h2,?_⟩
 have hA:=ha cpos pins s1 σ H1 _ I1 q1
 rw[hs] at hA ⊢
 refine Calls.callWith_builtin (by show (false || (backTo cpos (starEach es X.env)).any (·.1))=false;rw[hplain]<;>rfl) (Calls.evalArgs_plain ?_)
 exact thn hA fun us s2 ⟨vs,H2,I2,r2,q2⟩=>hm pins s2 σ H2 x vs v us Q I2 r1 r2 q2
end
end L2
namespace L2
open PySem PySem.Spec PyProof.Rows
def MtM(X:Cx)(id:String)(r:V→List V→Hp→VK→Prop):Prop:=
 ∀ (pins:List (Addr×Obj)) (s:Shared) (σ:St) (H:Hp) (x:V) (xs:List V) (v:Value) (us:List Value) (Q:VK),Inv X pins σ H s→RelV x v→Vals xs us→r x xs H Q→
   wpAny (model X.prog X.w) X.A (call (.builtin id) (v::us)) (EP X pins σ Q) X.xe s
theorem Vals.one:∀ {x:V} {us:List Value},Vals [x] us→∃ u,us=[u]∧RelV x u
 | _,_,.cons r .nil=>⟨_,rfl,r⟩
theorem Vals.reverse{xs:List V}{us:List Value}(h:Vals xs us):Vals xs.reverse us.reverse:=by
 induction h with
 | nil=>exact .nil
 | cons r t ih=>rw[List.reverse_cons,List.reverse_cons];exact Vals.append ih (.cons r .nil)
section
variable {X:Cx} {pins:List (Addr×Obj)} {σ:St} {H:Hp} {s:Shared} {l b:Addr} {xs ys zs:List V}
theorem Inv.lset{its its':List Value}{n:Nat}{f:Array Value→Array Value}{t':Nat}(I:Inv X pins σ H s)(hH:H l=some (.lst xs))(e:s.heap.get? l=some { cls:=.type "list",data:=.seq its.toArray n })(hf:f its.toArray=its'.toArray)(hv:Vals ys its')(hz:ys.length≤sizeLine) :
   Inv X pins σ (upd H l (.lst ys)) { s with heap:=s.heap.update l (Obj.mapSeq f),toks:=t' }:=by
 have q:=PySem.IsL.update e f
 rw[hf] at q
 refine I.write (x:=l) (e:=l) (by rw[hH];exact trivial) (.inl rfl) (fun b' u hb hu=>(Heap.get?_update_other s.heap (Obj.mapSeq f) (Ne.symm hb)).trans hu) ⟨_,q⟩ ?_
 exact⟨hz,its',_,hv,q⟩
theorem Inv.lnew{its:List Value}{t':Nat}(I:Inv X pins σ H s)(hv:Vals ys its)(hz:ys.length≤sizeLine) :
   Inv X pins σ (upd H s.heap.objs.size (.lst ys)) { s with heap:=s.heap.push { cls:=.type "list",data:=.seq its.toArray },toks:=t' }:=
 I.laid (fun _ _ q=>Heap.get?_push_of_some _ q) (c2o _) ⟨hz,its,0,hv,Heap.get?_push_size _ rfl⟩
theorem Inv.fresh(I:Inv X pins σ H s):H s.heap.objs.size=none:=I.hok.fresh (c2o _)
theorem Inv.lstM(I:Inv X pins σ H s)(hH:H l=some (.lst xs)):xs.length≤sizeLine∧∃ (its:List Value) (n:Nat),Vals xs its∧xs.length=its.length∧s.heap.get? l=some { cls:=.type "list",data:=.seq its.toArray n }:=by
 obtain⟨z,its,n,r,e⟩:=I.hok l _ hH
 exact⟨z,its,n,r,r.length,e⟩
theorem notLongL{n:Nat}(h:n≤sizeLine):Builtin.List.listTooLong n=false:=by
 unfold Builtin.List.listTooLong
 exact decide_eq_false (by omega)
end
section
variable {X:Cx}
def rAppend:V→List V→Hp→VK→Prop:=fun x vs H Q=>∃ l xs y,x=.ref l∧vs=[y]∧H l=some (.lst xs)∧xs.length<sizeLine∧Q .non (upd H l (.lst (xs++[y])))
theorem a2q:MtM X "list.append" rAppend:=by
 intro pins s σ H x vs v us Q I rx rv h
 obtain⟨l,xs,y,rfl,rfl,hH,hz,q⟩:=h
 cases rx
 obtain⟨u,rfl,ru⟩:=rv.one
 obtain⟨z,its,n,r,hl,e⟩:=I.lstM hH
 refine call_meets F.slot_list_append ⟨_,e,rfl⟩ F.entry_list_append (F.args_list_append_2 _ _) (PySem.list_append l its.toArray n u (by rw[c3b];omega)) ⟨e,?_⟩
 refine⟨.non,_,I.lset (its':=its++[u]) hH e (by simp) (r.append (.cons ru .nil)) ?_,rfl,q⟩
 rw[c2k,List.length_singleton]
 omega
def rExtend:V→List V→Hp→VK→Prop:=fun x vs H Q=>∃ l b xs zs,x=.ref l∧vs=[.ref b]∧H l=some (.lst xs)∧H b=some (.lst zs)∧xs.length+zs.length≤sizeLine∧Q .non (upd H l (.lst (xs++zs)))
theorem c0d:MtM X "list.extend" rExtend:=by
 intro pins s σ H x vs v us Q I rx rv h
 obtain⟨l,b,xs,zs,rfl,rfl,hH,hB,hz,q⟩:=h
 cases rx
 obtain⟨u,rfl,ru⟩:=rv.one
 cases ru
 obtain⟨z,its,n,r,hl,e⟩:=I.lstM hH
 obtain⟨z2,its2,n2,r2,hl2,e2⟩:=I.lstM hB
 have hsz:its.toArray.size+its2.toArray.size≤sizeLine:=by rw[c3b,c3b];omega
 have hlong:¬ (!its.toArray.isEmpty && Builtin.List.listTooLong (its.toArray.size+its2.toArray.size))=true:=by
   rw[notLongL hsz,Bool.and_false]
   exact c3d
 refine call_meets F.slot_list_extend ⟨_,e,rfl⟩ F.entry_list_extend (F.args_list_extend_2 _ _)
   (AutoSeq1.list_extend_list_list_0 l its.toArray n b its2.toArray n2 hlong (by rw[c3b];omega) (by omega)) ⟨e,e2,?_⟩
 refine⟨.non,_,I.lset (its':=its++its2) hH e (by simp) (r.append r2) ?_,rfl,q⟩
 rw[c2k]
 omega
def rCat:R2:=fun x y H Q=>∃ l b xs zs,x=.ref l∧y=.ref b∧H l=some (.lst xs)∧H b=some (.lst zs)∧xs.length+zs.length≤sizeLine∧∀ p,H p=none→Q (.ref p) (upd H p (.lst (xs++zs)))
theorem b9w:OpR X (binaryOp .Add) rCat:=by
 intro pins s σ H x y v u Q I rx ry h
 obtain⟨l,b,xs,zs,rfl,rfl,hH,hB,hz,q⟩:=h
 cases rx
 cases ry
 obtain⟨z,its,n,r,hl,e⟩:=I.lstM hH
 obtain⟨z2,its2,n2,r2,hl2,e2⟩:=I.lstM hB
 refine PySem.P.add_list e e2 ?_ (by rw[c3b,c3b];omega)
 have ea:its.toArray++its2.toArray=(its++its2).toArray:=by simp
 rw[ea]
 exact⟨.ref _,_,I.lnew (t':=s.toks) (r.append r2) (by rw[c2k];omega),rfl,q _ I.fresh⟩
end
section
variable {prog:Program} {w:World} {A:Around} {E:Value→Shared→Prop} {s:Shared}
set_option maxRecDepth 100000 in
end
end L2
namespace Att
open PySem PySem.W PySem.Calls PyProof.Rows
theorem a8z{P:Params}{h:Heap}:∀ (ns:List Int) (vs:List Value),WellAll P h vs (ns.map WData.int)→IntsAre vs ns:=by
 intro ns
 induction ns with
 | nil=>
   intro vs w
   rw[List.map_nil] at w
   cases w
   exact .nil
 | cons n ns ih=>
   intro vs w
   rw[c4u] at w
   cases w with
   | cons a b=>
     cases a
     exact .cons _ _ (ih _ b)
theorem b8u{l:OpenLaw}{n:Nat}(hn:l.most=some n){P:Params}{h:Heap}{args:List WData}{vals:List Value}(hpre:l.row.toRowW.claim.pre args=true)(hwl:WellAll P h vals args) :
   ∃ a vs ns,vals=[Value.ref a]∧args=[WData.list (ns.map WData.int)]∧h.get? a=some { cls:=.type "list",data:=.seq vs.toArray }∧IntsAre vs ns∧ns.length≤n:=by
 have hsh:WShape.hasAll [] args [.list .int]=true:=(pre_splitW hpre).1
 have hc:l.pre.holds [] { args:=args }=true:=(pre_splitW hpre).2
 obtain⟨d,r,rfl,h1,h2⟩:=hasAllW_cons hsh
 obtain rfl:=hasAllW_nil h2
 obtain⟨xs,rfl,h3⟩:=hasW_list h1
 obtain⟨ns,rfl⟩:=items_int h3
 have hlen:ns.length≤n:=by
   unfold OpenLaw.pre at hc
   have h4:(WTm.not (.lt (.lit (.int (n:Int))) (.len (.arg 0)))).holds [] { args:=[.list (ns.map .int)] }=true:=by
     have h4:=(holds_andW hc).1
     rw[hn] at h4
     exact h4
   have h5:=condW_of h4 (w_not (w_lt w_lit (w_len_list (w_arg rfl))))
   rw[c2h] at h5
   refine Nat.le_of_not_lt fun q=>?_
   have q':(n:Int)<((ns.length:Nat):Int):=by omega
   first
     | (rw[decide_eq_true q'] at h5;exact absurd h5 (by decide))
     | (simp at h5;omega)
 cases hwl with
 | cons w1 w2=>
   cases w2
   cases w1 with
   | list ho hall=>exact⟨_,_,ns,rfl,rfl,ho,a8z ns _ hall,hlen⟩
theorem b9e(l:OpenLaw)(args:List WData):l.row.toRowW.claim.post args (.bool true) args=true:=
 postW_of (r:=l.row.toRowW) (X:=(true == true))
   (show WShape.has [] (.bool true) .bool=true by first | rfl | decide | simp[WShape.has,WShape.arms,WShape.armsAll])
   (show (WTm.eq .res (.lit (.bool true))).value [] { args:=args,res:=some (.bool true),after:=args }=some (.bool (true == true)) from w_eq_bool (w_res rfl) w_lit) rfl
theorem b4q{l:OpenLaw}{n:Nat}{q:Program}{loose:List Str}{XP:(Str→Option Value)→Heap→Prop}{YP:World→Heap→Prop}{d:DefRec}(hn:l.most=some n)(hdf:d.params.defaults=[])(call:∀ (w:World) (s₀ s₁:Shared) (mg mb:Str→Option Value) (fa:Addr) (o:Obj) (pm cd doc:Value) (a:Addr) (vs:List Value) (ns:List Int),
     Ground q loose [] XP w s₀ mg mb s₁.heap→YP w s₁.heap→
     s₁.heap.get? fa=some o→o.data=.func (docDef d.name d.params d.body d.scope pm cd doc)→s₁.heap.CodeRec cd d.name→mg d.name=some (.ref fa)→
     s₁.heap.get? a=some { cls:=.type "list",data:=.seq vs.toArray }→IntsAre vs ns→ns.length≤n→s₁.gens = #[]→
     codeAny (model l.prog w) callerA (.call (.ref fa) ⟨[.ref a],[]⟩) (fun r s'=>r=.ok (.ret (.bool true))∧OldK s₁.heap s'.heap∧s'.os=s₁.os∧AllBare s'.gens) s₁) :
   WalkO q loose XP YP l.row.toRowW d [] (fun f vs=>PySem.call f vs):=by
 intro w s₀ s₁ mg mb G Y fa o pm cd doc dV kV ho hd hcd hD hmg hg args vals as hpre hlay hrd hwl hlo
 obtain rfl:dV=.none:=Dflts.none hD hdf
 obtain rfl:kV=.none:=Dflts.noKw hD
 obtain⟨a,vs,ns,rfl,rfl,hobj,hints,hlen⟩:=b8u hn hpre hwl
 refine enter_call (codeAny_mono (call w s₀ s₁ mg mb fa o pm cd doc a vs ns G Y ho (fd_plain hd) hcd hmg hobj hints hlen hg) fun r s' hq=>?_)
 obtain⟨rfl,h2,h3,h4⟩:=hq
 exact⟨.inl ⟨.bool true,.bool true,[],rfl,fun _=>rfl,.bool true,b9e l _,fun _=>⟨c7i.nil,fun _ hm=>(nomatch hm)⟩⟩,h2,h3,h4⟩
end Att
namespace L2
open PySem PySem.Spec PyProof.Rows
theorem b1v:∀ {vs:List Value} {ns:List Int},IntsAre vs ns→Vals (ns.map V.int) vs
 | _,_,.nil=>.nil
 | _,_,.cons n t h=>.cons ⟨t,rfl⟩ (b1v h)
def Only(H:Hp):Prop:=∀ b,H b=none∨∃ o xs,H b=some (.frz o (.lst xs))
theorem law_call{P:Program}{w:World}{K:c2f}{mg mb:Str→Option Value}{CX:CXT}{k:Nat}{fa a:Addr}{fd:FuncData}{x:Str}{sp:Sp}{s₁:Shared}{vs:List Value}{ns:List Int}(KX:K.In s₁.heap)(hns:s₁.heap.Ns mainGlobals mg)(hb:s₁.heap.Ns builtinsNs mb)(hbb:∀ x:Str,x ≠ "__name__" → mb x=bootBuiltins x)(hlim:s₁.heap.NoLimit)(hg:s₁.gens = #[])(ha:s₁.heap.get? a=some { cls:=.type "list",data:=.seq vs.toArray })(hi:IntsAre vs ns)(hl:ns.length≤sizeLine)(hr:Room k callerA)(F:∀ base:Heap,K.In base→base.Ns mainGlobals mg→FnOk P w K mg base CX k fa fd [x] sp)(hbind:∀ (s:Shared) (u:Value),BindsTo s fd ⟨[u],[]⟩ [(x,u)])(hsp:∀ H:Hp,Only H→SqL K H a (ns.map V.int)→sp [.ref a] H (fun v _=>v=.bl true) fun _ _ _=>False)(hCX:∀ H e s',CX [] H s₁ (fun _ _ _=>False) e s'→False) :
   codeAny (model P w) callerA (.call (.ref fa) ⟨[.ref a],[]⟩) (fun r s'=>r=.ok (.ret (.bool true))∧OldK s₁.heap s'.heap∧s'.os=s₁.os∧AllBare s'.gens) s₁:=by
 have rv:=b1v hi
 have lenV:=hi.length
 have core:∀ H:Hp,Only H→SqL K H a (ns.map V.int)→HOk P w H s₁.heap→(∀ b,H b≠none→b=a)→(H a≠none→K.lookup a=none)→
     codeAny (model P w) callerA (.call (.ref fa) ⟨[.ref a],[]⟩) (fun r s'=>r=.ok (.ret (.bool true))∧OldK s₁.heap s'.heap∧s'.os=s₁.os∧AllBare s'.gens) s₁:=by
   intro H hO hS hok hA hK
   have base_of:∀ {b:Addr} {o:Obj},s₁.heap.get? b=some o→H b=none→(hidT s₁.heap H).get? b=some o:=fun e n=>hidT_get e n
   have noA:∀ {b:Addr} {o:Obj} {es:Array DictEntry} {ep:Nat},s₁.heap.get? b=some o→o.data=.dict es ep→H b=none:=fun {b o es ep} e d=>by
     cases q:H b with
     | none=>rfl
     | some u=>
       have e':b=a:=hA b (by rw[q];simp)
       subst e'
       rw[ha] at e;cases e
       have d':Data.seq vs.toArray _=Data.dict es ep:=d
       cases d'
   have nsK:∀ {b:Addr} {m:Str→Option Value},s₁.heap.Ns b m→(hidT s₁.heap H).Ns b m:=fun {b m} ⟨o,es,ep,e,d,r⟩=>⟨o,es,ep,base_of e (noA e d),d,r⟩
   have hKb:K.In (hidT s₁.heap H):=fun b o e=>base_of (KX b o e) (by
     cases q:H b with
     | none=>rfl
     | some u=>
       have e':b=a:=hA b (by rw[q];simp)
       subst e'
       rw[hK (by rw[q];simp)] at e;cases e)
   have hM:Mod K mg (hidT s₁.heap H):=⟨hKb,nsK hns,⟨mb,nsK hb,hbb⟩,let ⟨mc,h1,h2⟩:=hlim;⟨mc,nsK h1,h2⟩⟩
   have e0:Env0 P w K mg (hidT s₁.heap H) callerA [] s₁ H:=⟨rfl,hM,fun b o e=>of_hidT e,c5t (c0u _ _),trivial,fun b hb=>absurd (show b∈([]:List Addr) from hb) (by simp),hok,.of_eq hg⟩
   refine codeAny_mono ((F _ hKb (nsK hns)).run callerA [] s₁ H ⟨[.ref a],[]⟩ [.ref a] [.ref a] _ _ hr e0 (hbind s₁ (.ref a)) (.cons rfl .nil) (hsp H hO hS)) fun r s' h=>?_
   cases r with
   | error e=>exact (hCX H e s' h).elim
   | ok fl=>
     cases fl with
     | next=>exact False.elim h
     | brk=>exact False.elim h
     | cont=>exact False.elim h
     | ret u=>
       obtain⟨v,H',os,bare,un,hok',r',q⟩:=h
       have q':v=.bl true:=q
       subst q'
       obtain rfl:u=Value.bool true:=r'
       refine⟨rfl,OldK.of_keep fun b o e=>?_,os,bare⟩
       cases q:H b with
       | none=>exact un.keep b o e q (by intro z;exact absurd (show b∈([]:List Addr) from z) (by simp)) (by simp)
       | some u=>
         rcases hO b with z | ⟨ob,xs,z⟩
         · rw[q] at z;cases z
         · have z2:=un.frzs b ob _ z
           obtain⟨e1,_⟩:=hok b _ z
           obtain⟨e2,_⟩:=hok' b _ z2
           rw[e] at e1;cases e1
           exact e2
 cases hk:K.lookup a with
 | some o=>
   have e:=KX a o hk
   rw[ha] at e
   cases e
   refine core (fun _=>none) (fun _=>.inl rfl) (.inr ⟨_,vs.toArray,_,hk,rfl,rfl,rfl,by rw[c3b,lenV];exact hl,by simpa using rv⟩) (fun b u z=>by have z':(none:Option HO)=some u:=z;cases z') (fun b z=>absurd rfl z) fun z=>absurd rfl z
 | none=>
   refine core (fun b=>if b=a then some (.frz { cls:=.type "list",data:=.seq vs.toArray } (.lst (ns.map V.int))) else none) (fun b=>?_) (.inl (.inr ⟨{ cls:=.type "list",data:=.seq vs.toArray },if_pos rfl⟩)) (fun b u z=>?_) (fun b z=>?_) fun _=>hk
   · by_cases hb:b=a
     · exact .inr ⟨_,_,if_pos hb⟩
     · exact .inl (if_neg hb)
   · by_cases hb:b=a
     · have z':=(if_pos hb).symm.trans z
       cases z'
       subst hb
       exact⟨ha,by rw[c2h];exact hl,vs,_,rv,ha⟩
     · have z':=(if_neg hb).symm.trans z
       cases z'
   · by_cases hb:b=a
     · exact hb
     · exact absurd (if_neg hb) z
end L2
namespace L2
open PySem PySem.Spec PyProof.Rows
theorem walk_of{l:PySem.W.OpenLaw}{n k:Nat}{q:Program}{loose:List Str}{XP:(Str→Option Value)→Heap→Prop}{YP:World→Heap→Prop}{d:DefRec}{K:Params→c2f}{CX:World→CXT}{sp:World→Sp}{x:Str}(hn:l.most=some n)(hn2:n≤sizeLine)(hdf:d.params.defaults=[])(hr:Room k callerA)(hY:∀ (w:World) (h:Heap),YP w h→(K w.params).In h)(F:∀ (w:World) (mg:Str→Option Value) (fa:Addr) (h:Heap),(K w.params).In h→h.Ns mainGlobals mg→mg d.name=some (.ref fa)→
     ∃ fd:FuncData,(∀ (s:Shared) (u:Value),BindsTo s fd ⟨[u],[]⟩ [(x,u)])∧
       ∀ base:Heap,(K w.params).In base→base.Ns mainGlobals mg→FnOk l.prog w (K w.params) mg base (CX w) k fa fd [x] (sp w))(hsp:∀ (w:World) (H:Hp) (a:Addr) (ns:List Int),ns.length≤n→Only H→SqL (K w.params) H a (ns.map V.int)→sp w [.ref a] H (fun v _=>v=.bl true) fun _ _ _=>False)(hCX:∀ (w:World) (H:Hp) (s:Shared) (e:Value) (s':Shared),CX w [] H s (fun _ _ _=>False) e s'→False) :
   PySem.W.WalkO q loose XP YP l.row.toRowW d [] (fun f vs=>PySem.call f vs):=by
 refine Att.b4q hn hdf fun w s₀ s₁ mg mb fa o pm cd doc a vs ns G Y ho hd hcd hmg hobj hints hlen hg=>?_
 have KX:=hY w _ Y
 obtain⟨fd,hb,hF⟩:=F w mg fa _ KX G.T.g hmg
 exact law_call KX G.T.g G.T.b G.T.builtins G.T.nolimit hg hobj hints (c4g hlen hn2) hr hF hb (fun H hO hS=>hsp w H a ns hlen hO hS) fun H e s'=>hCX w H s₁ e s'
end L2
namespace L2
open PySem PySem.Spec PyProof.Rows
def c0s(s:Stmt)(j:Nat):Stmt:=match s with
 | .ClassDef _ _ _ body _ _ _ _ _ _ _=>body.getD j (.Pass ⟨0,0,0,0⟩)
 | _=>.Pass ⟨0,0,0,0⟩
def a0y(s:Stmt):Arguments:=match s with
 | .FunctionDef _ a _ _ _ _ _ _ _ _=>a
 | _=>{ posonlyargs:=[],args:=[],vararg:=none,kwonlyargs:=[],kw_defaults:=[],kwarg:=none,defaults:=[] }
def a0p(s:Stmt):List Stmt:=match s with
 | .FunctionDef _ _ b _ _ _ _ _ _ _=>b
 | _=>[]
def a0e(s:Stmt):Scope:=match s with
 | .FunctionDef _ _ _ _ _ _ sc _ _ _=>sc
 | _=>{ kind:=.function,names:=[],isGenerator:=false,isCoroutine:=false }
abbrev CX0:CXT:=fun _ _ _ _ _ _=>False
abbrev E0:XK:=fun _ _ _=>False
theorem a1q{X:Cx}:a3k CX0 X E0:=fun _ _ _ _ _ _ _ h=>h.elim
structure Fun(K:c2f)(x qual:Str)(st:Stmt)(f:Addr)(fd:FuncData):Prop where
 ex:∃ (oc:Value) (od:Option Addr) (kV doc pm:Value) (an:Option Addr) (cdv ct:Value) (osl:Array (Option Value)),
   fd=c2z x qual (a0y st) (a0p st) (a0e st) .none kV doc pm an cdv ct∧K.lookup f=some ⟨oc,od,.func fd,osl⟩∧c2y K cdv qual=true
 kp:c2s K (.ref f)=true
section
variable {P:Program} {w:World} {K:c2f} {mg:Str→Option Value} {base:Heap}
theorem Fun.ok{x qual:Str}{st:Stmt}{f:Addr}{fd:FuncData}{N ps:List Str}{k:Nat}{sp:Sp}(F:Fun K x qual st f fd)(S:a1a N ps (a0e st))(len:∀ vs H Q E,sp vs H Q E→vs.length=ps.length)(hbody:∀ (cdv:Value) (A:Around) (outer:List Env) (s:Shared) (H:Hp) (vs:List V) (Q:VK) (E:XK),Room k (A.deeper (envOfC qual (a0e st) s.heap.objs.size f cdv))→sp vs H Q E→
     ∃ t,PSs (cxOf CX0 P w K mg base N qual (a0e st) f cdv A outer s H E).nox (a0p st) t∧t { nx:=fun _ H'=>Q .non H',rt:=Q } (a6s N vs) H):FnOk P w K mg base CX0 (k+1) f fd ps sp:=by
 obtain⟨oc,od,kV,doc,pm,an,cdv,ct,osl,rfl,lk,hcd⟩:=F.ex
 refine fn_of lk hcd S len fun A outer s H vs Q E hr hsp=>?_
 obtain⟨t,h,q⟩:=hbody cdv A outer s H vs Q E hr hsp
 exact⟨t,h.nox,q⟩
theorem Fun.binds{x qual:Str}{st:Stmt}{f:Addr}{fd:FuncData}{ps:List Str}(F:Fun K x qual st f fd)(h:∀ (kV doc pm:Value) (an:Option Addr) (cdv ct:Value) (us:List Value),us.length=ps.length→bindArgs (c2z x qual (a0y st) (a0p st) (a0e st) .none kV doc pm an cdv ct) ⟨us,[]⟩=pure (ps.zip us)):a7p K fd ps []:=by
 obtain⟨oc,od,kV,doc,pm,an,cdv,ct,osl,rfl,lk,hcd⟩:=F.ex
 exact .all (h kV doc pm an cdv ct)
theorem fun_mk{x qual:Str}{st:Stmt}{f:Addr}{oc:Value}{od an:Option Addr}{osl:Array (Option Value)}{kV doc pm cdv ct:Value}(l:K.lookup f=some ⟨oc,od,.func (c2z x qual (a0y st) (a0p st) (a0e st) .none kV doc pm an cdv ct),osl⟩)(c:c2y K cdv qual=true)(k:c2s K (.ref f)=true):Fun K x qual st f (c2z x qual (a0y st) (a0p st) (a0e st) .none kV doc pm an cdv ct):=⟨⟨oc,od,kV,doc,pm,an,cdv,ct,osl,rfl,l,c⟩,k⟩
end
theorem b8s{n:Nat}(h:n≤1000):n<sizeLine:=Nat.lt_of_le_of_lt h (by decide)
section
variable {X:Cx}
theorem pv(i:Nat){x:Str}{pos:Pos}(hN:X.N[i]?=some x:=by rfl)(hv:Vis X.env.scope x:=by first | exact Or.inl rfl | exact Or.inr (Or.inl rfl) | exact Or.inr (Or.inr rfl))(hd:(x == ("__debug__" : Str))=false:=by decide)(hcd:(x == ("__classdict__" : Str))=false:=by decide):PE X (.Name x pos) (tVar i):=pe_var hN hv hd hcd
end
theorem iteF{A B:Prop}(h:B):if false=true then A else B:=by
 rw[if_neg c3d]
 exact h
theorem iteT{A B:Prop}(h:A):if true=true then A else B:=by
 rw[if_pos rfl]
 exact h
theorem iteNS{c A B:Prop}[Decidable c](hc:c)(h:B):if (!decide c)=true then A else B:=by
 rw[decide_eq_true hc]
 exact iteF h
def Same(H H':Hp):Prop:=∀ b o,H b=some o→H' b=some o
theorem Same.refl(H:Hp):Same H H:=fun _ _ h=>h
theorem Same.trans{H H1 H2:Hp}(a:Same H H1)(b:Same H1 H2):Same H H2:=fun c o h=>b c o (a c o h)
theorem Same.free{H H':Hp}(e:Same H H'){l:Addr}(h:H' l=Option.none):H l=Option.none:=by
 cases q:H l with
 | none=>rfl
 | some o=>
   rw[e l o q] at h
   cases h
theorem Same.seq{K:c2f}{H H':Hp}{a:Addr}{xs:List V}(e:Same H H')(h:SqL K H a xs):SqL K H' a xs:=by
 rcases h with (h | ⟨o,h⟩) | h
 · exact .inl (.inl (e _ _ h))
 · exact .inl (.inr ⟨o,e _ _ h⟩)
 · exact .inr h
end L2
namespace Cv
structure Sz(n:Nat)(x:Int):Prop where
 lt:x.natAbs<2^n
theorem Sz.mono{n m:Nat}{x:Int}(h:Sz n x)(hm:n≤m):Sz m x:=⟨c3g h.lt (Nat.pow_le_pow_right (by decide) hm)⟩
theorem Sz.le{n:Nat}{x y:Int}(h:Sz n x)(hy:y.natAbs≤x.natAbs):Sz n y:=⟨Nat.lt_of_le_of_lt hy h.lt⟩
theorem Sz.mul{n m:Nat}{x y:Int}(h:Sz n x)(k:Sz m y):Sz (n+m) (x*y):=by
 refine⟨?_⟩
 rw[Int.natAbs_mul,Nat.pow_add]
 exact Nat.mul_lt_mul'' h.lt k.lt
theorem Sz.add{n m:Nat}{x y:Int}(h:Sz n x)(k:Sz m y):Sz (max n m+1) (x+y):=by
 refine⟨?_⟩
 have h1:=(h.mono (Nat.le_max_left n m)).lt
 have h2:=(k.mono (Nat.le_max_right n m)).lt
 have h3:=Int.natAbs_add_le x y
 rw[c6o]
 omega
theorem Sz.neg{n:Nat}{x:Int}(h:Sz n x):Sz n (-x):=⟨by rw[Int.natAbs_neg];exact h.lt⟩
theorem Sz.sub{n m:Nat}{x y:Int}(h:Sz n x)(k:Sz m y):Sz (max n m+1) (x - y):=by
 rw[Int.sub_eq_add_neg]
 exact h.add k.neg
theorem Sz.one:Sz 1 1:=⟨by decide⟩
theorem Sz.zero:Sz 0 0:=⟨by decide⟩
structure Bd(n:Nat)(q:Rat):Prop where
 num:Sz n q.num
 den:Sz n (q.den:Int)
theorem Bd.mono{n m:Nat}{q:Rat}(h:Bd n q)(hm:n≤m):Bd m q:=⟨h.num.mono hm,h.den.mono hm⟩
theorem num_le(a b:Int)(hb:b≠0):(c2i a b).num.natAbs≤a.natAbs∧(c2i a b).den≤b.natAbs:=by
 refine⟨?_,?_⟩
 · rw[Rat.num_divInt]
   have h2:(b.sign*a).natAbs=a.natAbs:=by
     rw[Int.natAbs_mul,Int.natAbs_sign_of_ne_zero hb,Nat.one_mul]
   have hd:(b.gcd a:Int)∣b.sign*a:=Int.dvd_mul_of_dvd_right (Int.gcd_dvd_right ..)
   rw[← h2]
   have:=Int.natAbs_ediv_of_dvd hd
   rw[this]
   exact Nat.div_le_self _ _
 · rw[Rat.den_divInt,if_neg hb]
   exact Nat.div_le_self _ _
theorem Bd.of{n m:Nat}{a b:Int}(ha:Sz n a)(hb:Sz m b)(h0:b≠0):Bd (max n m) (c2i a b):=
 ⟨(ha.mono (Nat.le_max_left n m)).le (num_le a b h0).1,(hb.mono (Nat.le_max_right n m)).le (by rw[Int.natAbs_natCast];exact (num_le a b h0).2)⟩
theorem a7i(q:Rat):(q.den:Int)≠0:=by have:=q.den_pos;omega
theorem add_eq(a b:Rat):c2i (a.num*b.den+b.num*a.den) ((a.den:Int)*b.den)=a+b:=by
 have:=Rat.divInt_add_divInt a.num b.num (a7i a) (a7i b)
 rw[c5n,c5n] at this
 exact this.symm
theorem sub_eq(a b:Rat):c2i (a.num*b.den - b.num*a.den) ((a.den:Int)*b.den)=a - b:=by
 have:=Rat.divInt_sub_divInt a.num b.num (a7i a) (a7i b)
 rw[c5n,c5n] at this
 exact this.symm
theorem mul_eq(a b:Rat):c2i (a.num*b.num) ((a.den:Int)*b.den)=a*b:=by
 have:=Rat.divInt_mul_divInt a.num b.num (d₁:=a.den) (d₂:=b.den)
 rw[c5n,c5n] at this
 exact this.symm
theorem a7e(a b:Rat):(a.den:Int)*b.den≠0:=Int.mul_ne_zero (a7i a) (a7i b)
theorem Bd.add{n m:Nat}{a b:Rat}(h:Bd n a)(k:Bd m b):Bd (n+m+1) (a+b):=by
 rw[← add_eq]
 exact (Bd.of ((h.num.mul k.den).add (k.num.mul h.den)) (h.den.mul k.den) (a7e a b)).mono (by omega)
theorem Bd.sub{n m:Nat}{a b:Rat}(h:Bd n a)(k:Bd m b):Bd (n+m+1) (a - b):=by
 rw[← sub_eq]
 exact (Bd.of ((h.num.mul k.den).sub (k.num.mul h.den)) (h.den.mul k.den) (a7e a b)).mono (by omega)
theorem Bd.mul{n m:Nat}{a b:Rat}(h:Bd n a)(k:Bd m b):Bd (n+m) (a*b):=by
 rw[← mul_eq]
 exact (Bd.of (h.num.mul k.num) (h.den.mul k.den) (a7e a b)).mono (by omega)
theorem a8k(t b:Int)(hb:0<b):t.fdiv (c3s t b)=(c2i t b).num∧b.fdiv (c3s t b)=((c2i t b).den:Int):=by
 rw[Rat.num_divInt,Rat.den_divInt,if_neg (by omega),Int.sign_eq_one_of_pos hb,Int.one_mul,Int.gcd_comm b t]
 refine⟨c4h _ (Int.natCast_nonneg _),?_⟩
 rw[c4h _ (Int.natCast_nonneg _),Int.natCast_ediv,Int.natAbs_of_nonneg (c7c hb)]
theorem b8t(t b:Int)(hb:b<0):t.fdiv (-(c3s t b:Int))=(c2i t b).num∧b.fdiv (-(c3s t b:Int))=((c2i t b).den:Int):=by
 have h:=a8k (-t) (-b) (by omega)
 rw[Rat.neg_divInt_neg,Int.neg_gcd,Int.gcd_neg] at h
 rw[← Int.neg_fdiv_neg,Int.neg_neg,← Int.neg_fdiv_neg b,Int.neg_neg]
 exact h
theorem b6b(a b:Int):c3s b (a.fmod b)=c3s a b:=by
 rw[Int.fmod_def,Int.sub_eq_add_neg,← Int.mul_neg,Int.gcd_add_mul_left_right,Int.gcd_comm]
theorem fmod_lt(a b:Int)(hb:b≠0):(a.fmod b).natAbs<b.natAbs:=by
 rw[Int.fmod_eq_emod]
 have h1:=Int.emod_nonneg a hb
 have h2:=Int.emod_lt a hb
 by_cases h:0≤b∨b∣a
 · rw[if_pos h];omega
 · rw[if_neg h]
   have h3:a % b≠0:=fun z=>h (.inr (Int.dvd_of_emod_eq_zero z))
   omega
theorem gcd_zero(a:Int):(if a<0 then -a else a)=(c3s a 0:Int):=by
 rw[Int.gcd_zero]
 split<;>omega
theorem b6c(t b:Int)(hb:b≠0):(c3s t b:Int)≠0:=by
 have:=Int.gcd_pos_of_ne_zero_right t hb
 omega
end Cv
namespace Cv
theorem a9d(a b:Int):c2i a b=(a:Rat) / (b:Rat):=c5h a b
theorem a7y(q:Rat):(q.num:Rat)=q*((q.den:Int):Rat):=by
 have h:=c5n q
 rw[c5h] at h
 have hd:((q.den:Int):Rat)≠0:=by
   intro z
   exact a7i q (by exact_mod_cast z)
 conv=>rhs;rw[← h]
 grind
theorem b4m(q:Rat):((q.den:Int):Rat)≠0:=by
 intro z
 exact a7i q (by exact_mod_cast z)
theorem b2q{q:Rat}{t b:Int}(hb:b≠0)(h:q*(b:Rat)=(t:Rat)):q=c2i t b:=by
 rw[c5h]
 have hb':(b:Rat)≠0:=by
   intro z
   exact hb (by exact_mod_cast z)
 grind
end Cv
namespace Cv
open PySem PySem.Spec PyProof.Rows L2
section
variable {X:Cx}
def CMulB(i j:Int):Prop:=∃ n m,Sz n i∧Sz m j∧n+m≤100000000
def CDivB(_i j:Int):Prop:=j≠0∧Sz 9000 j
theorem a4q:OpR X (binaryOp .FloorDiv) (rI CDivB fun i j=>.int (i.fdiv j)):=opI fun i j _ _ _ _ _ hc q=>by
 obtain⟨h0,h1⟩:=hc
 refine floordiv_int h0 q (.inl (PyProof.noPylong_of_log2 ?_))
 have hp:j.natAbs≠0:=by omega
 exact (Nat.log2_lt hp).mpr h1.lt
theorem a5h{x:V}{us:List Value}(r:Vals [x] us):∃ u,us=[u]∧RelV x u:=by
 cases r with
 | cons p q=>cases q;exact⟨_,rfl,p⟩
theorem b0r{x y:V}{us:List Value}(r:Vals [x,y] us):∃ u v,us=[u,v]∧RelV x u∧RelV y v:=by
 cases r with
 | cons p q=>
   obtain⟨v,rfl,p'⟩:=a5h q
   exact⟨_,_,rfl,p,p'⟩
mutual
def Dn(K:c2f)(H:Hp):c6l→V→Prop
 | .none,v=>v=.non
 | .bool b,v=>v=.bl b
 | .int i,v=>v=.int i
 | .str x,v=>v=.str x
 | .bytes _,_=>False
 | .tuple ds,v=>∃ a xs,v=.ref a∧SqT K H a xs∧a5t K H ds xs
 | .list ds,v=>∃ a xs,v=.ref a∧SqL K H a xs∧a5t K H ds xs
def a5t(K:c2f)(H:Hp):List c6l→List V→Prop
 | [],xs=>xs=[]
 | d::ds,xs=>∃ y ys,xs=y::ys∧Dn K H d y∧a5t K H ds ys
end
mutual
theorem a6q{pins:List (Addr×Obj)}{σ:L2.St}{H:Hp}{s:Shared}(I:Inv X pins σ H s):∀ (n:Nat) (d:c6l) (v:V) (u:Value),Dn X.K H d v→RelV v u→c3t n d=true→∃ as,Reads s.heap u (c6p d) as
 | n,.none,v,u,h,r,_=>by
   cases (show v=.non from by simpa [Dn] using h);cases r
   rw[c6p];exact⟨_,Reads.none⟩
 | n,.bool b,v,u,h,r,_=>by
   cases (show v=.bl b from by simpa [Dn] using h);cases r
   rw[c6p];exact⟨_,Reads.bool b⟩
 | n,.int i,v,u,h,r,_=>by
   cases (show v=.int i from by simpa [Dn] using h)
   obtain⟨t,rfl⟩:=r
   rw[c6p];exact⟨_,Reads.int i t⟩
 | n,.str x,v,u,h,r,_=>by
   cases (show v=.str x from by simpa [Dn] using h)
   obtain⟨t,rfl⟩:=r
   rw[c6p];exact⟨_,Reads.str x t⟩
 | n,.bytes b,v,u,h,r,_=>by simp[Dn] at h
 | 0,.tuple ds,v,u,h,r,hk=>by simp[c3t] at hk
 | 0,.list ds,v,u,h,r,hk=>by simp[c3t] at hk
 | n+1,.tuple ds,v,u,h,r,hk=>by
   rw[Dn] at h
   obtain⟨a,xs,rfl,hs,hd⟩:=h
   cases r
   obtain⟨its,rv,⟨o,ho,hc,m,hdt⟩,hz⟩:=I.tuple hs
   obtain⟨as,q⟩:=a6f I n ds xs its hd rv (by simpa [c3t] using hk)
   rw[c6p]
   exact⟨as,reads_tuple_at ho hc hdt (by simpa using q)⟩
 | n+1,.list ds,v,u,h,r,hk=>by
   rw[Dn] at h
   obtain⟨a,xs,rfl,hs,hd⟩:=h
   cases r
   obtain⟨its,rv,pl,hz⟩:=I.list hs
   obtain⟨o,ho,hc,m,hdt⟩:=pl.isList
   obtain⟨as,q⟩:=a6f I n ds xs its hd rv (by simpa [c3t] using hk)
   rw[c6p]
   exact⟨_,reads_list_at ho hc hdt (by simpa using q)⟩
theorem a6f{pins:List (Addr×Obj)}{σ:L2.St}{H:Hp}{s:Shared}(I:Inv X pins σ H s):∀ (n:Nat) (ds:List c6l) (xs:List V) (us:List Value),a5t X.K H ds xs→Vals xs us→(∀ d∈ds,c3t n d=true)→∃ as,ReadsAll s.heap us (PySem.W.kqdPs ds) as
 | n,[],xs,us,h,r,_=>by
   cases (show xs=[] from by simpa [a5t] using h)
   cases r
   rw[PySem.W.kqdPs];exact⟨_,ReadsAll.nil⟩
 | n,d::ds,xs,us,h,r,hk=>by
   rw[a5t] at h
   obtain⟨y,ys,rfl,h1,h2⟩:=h
   cases r with
   | cons p q=>
     obtain⟨as,r1⟩:=a6q I n d y _ h1 p (hk d (.head _))
     obtain⟨bs,r2⟩:=a6f I n ds ys _ h2 q fun e he=>hk e (.tail _ he)
     rw[PySem.W.kqdPs]
     exact⟨_,ReadsAll.cons r1 r2⟩
end
theorem a6h{d:c6l}(h:c3t 8 d=true):SeqAt.shaped (c6p d)=true:=by
 have la:=PySem.W.kqd_lay 8 d h
 unfold SeqAt.shaped;rw[la.1,Bool.true_and];exact decide_eq_true (c4g la.2 (by decide))
def rEqD(K:c2f):R2:=fun x y H Q=>∃ d e,Dn K H d x∧Dn K H e y∧c3t 8 d=true∧c3t 8 e=true∧∀ b:Bool,(b=true↔d=e)→Q (.bl b) H
def rNeD(K:c2f):R2:=fun x y H Q=>∃ d e,Dn K H d x∧Dn K H e y∧c3t 8 d=true∧c3t 8 e=true∧∀ b:Bool,(b=true↔d=e)→Q (.bl (!b)) H
theorem op_eqD(hu:X.A.units+64<cLine):OpR X (compareOp .Eq) (rEqD X.K):=by
 intro pins s σ H x y v u Q I rx ry h
 obtain⟨d,e,hd,he,k1,k2,q⟩:=h
 obtain⟨as,r1⟩:=a6q I 8 d x v hd rx k1
 obtain⟨bs,r2⟩:=a6q I 8 e y u he ry k2
 exact eq_dataH r1 r2 (a6h k1) (a6h k2) hu ⟨.bl _,H,I,rfl,q _ (PySem.W.kqd_eqv 8 d e 8 k1 k2)⟩
theorem op_neD(hu:X.A.units+64<cLine):OpR X (compareOp .NotEq) (rNeD X.K):=by
 intro pins s σ H x y v u Q I rx ry h
 obtain⟨d,e,hd,he,k1,k2,q⟩:=h
 obtain⟨as,r1⟩:=a6q I 8 d x v hd rx k1
 obtain⟨bs,r2⟩:=a6q I 8 e y u he ry k2
 exact ne_dataH r1 r2 (a6h k1) (a6h k2) hu ⟨.bl _,H,I,rfl,q _ (PySem.W.kqd_eqv 8 d e 8 k1 k2)⟩
end
def ShV(H:Hp)(v:V)(q:Rat):Prop:=∃ a,v=.ref a∧H a=some (.tup [.int q.num,.int (q.den:Int)])
theorem ShV.same{H H':Hp}{v:V}{q:Rat}(h:ShV H v q)(e:Same H H'):ShV H' v q:=by
 obtain⟨a,rfl,h⟩:=h
 exact⟨a,rfl,e _ _ h⟩
theorem Same.new{H:Hp}{p:Addr}{o:HO}(h:H p=none):Same H (upd H p o):=fun b u e=>by
 rw[a0j (a0l e h)];exact e
theorem SqT.same{K:c2f}{H H':Hp}{a:Addr}{xs:List V}(e:Same H H')(h:SqT K H a xs):SqT K H' a xs:=by
 rcases h with (h | ⟨o,h⟩) | h
 · exact .inl (.inl (e _ _ h))
 · exact .inl (.inr ⟨o,e _ _ h⟩)
 · exact .inr h
end Cv
namespace Cv
open PySem PySem.Spec PyProof.Rows L2
structure a0s(K:c2f)(mg:Str→Option Value)(x:Str)(st:Stmt)(ps:List Str):Prop where
 ex:∃ (f:Addr) (fd:FuncData),Fun K x x st f fd∧mg x=some (.ref f)∧a7p K fd ps []
structure a1e(P:Program)(w:World)(K:c2f)(mg:Str→Option Value)(base:Heap)(CX:CXT)(k:Nat)(x:Str)(ps:List Str)(sp:Sp):Prop where
 ex:∃ (f:Addr) (fd:FuncData),FnOk P w K mg base CX k f fd ps sp∧mg x=some (.ref f)∧c2s K (.ref f)=true∧a7p K fd ps []∧
   ∃ (oc:Value) (od:Option Addr) (osl:Array (Option Value)),K.lookup f=some ⟨oc,od,.func fd,osl⟩
structure Blt(mg:Str→Option Value):Prop where
 len:mg "len" = none
 abs:mg "abs" = none
 range:mg "range" = none
 max:mg "max" = none
 min:mg "min" = none
 any:mg "any" = none
 all:mg "all" = none
 sum:mg "sum" = none
 isinstance:mg "isinstance" = none
 int:mg "int" = none
 bool:mg "bool" = none
 tuple:mg "tuple" = none
 list:mg "list" = none
 str:mg "str" = none
 ValueError:mg "ValueError" = none
 zip:mg "zip" = none
 reversed:mg "reversed" = none
 enumerate:mg "enumerate" = none
 sorted:mg "sorted" = none
 dict:mg "dict" = none
section
variable {P:Program} {w:World} {K:c2f} {mg:Str→Option Value} {base:Heap}
theorem a0s.mk'{x:Str}{st:Stmt}{ps:List Str}{f:Addr}{oc:Value}{od an:Option Addr}{osl:Array (Option Value)}{kV doc pm cdv ct:Value}(hm:mg x=some (.ref f))(l:K.lookup f=some ⟨oc,od,.func (c2z x x (a0y st) (a0p st) (a0e st) .none kV doc pm an cdv ct),osl⟩)(c:c2y K cdv x=true)(k:c2s K (.ref f)=true)(h:∀ (kV doc pm:Value) (an:Option Addr) (cdv ct:Value) (us:List Value),us.length=ps.length→bindArgs (c2z x x (a0y st) (a0p st) (a0e st) .none kV doc pm an cdv ct) ⟨us,[]⟩=pure (ps.zip us)):a0s K mg x st ps:=by
 have F:=fun_mk (st:=st) l c k
 exact⟨_,_,F,hm,F.binds h⟩
theorem def_ok{x:Str}{st:Stmt}{N ps:List Str}{k:Nat}{sp:Sp}(F:a0s K mg x st ps)(S:a1a N ps (a0e st))(len:∀ vs H Q E,sp vs H Q E→vs.length=ps.length)(hbody:∀ (f:Addr) (cdv:Value) (A:Around) (outer:List Env) (s:Shared) (H:Hp) (vs:List V) (Q:VK) (E:XK),Room k (A.deeper (envOfC x (a0e st) s.heap.objs.size f cdv))→sp vs H Q E→
     ∃ t,PSs (cxOf CX0 P w K mg base N x (a0e st) f cdv A outer s H E).nox (a0p st) t∧t { nx:=fun _ H'=>Q .non H',rt:=Q } (a6s N vs) H):a1e P w K mg base CX0 (k+1) x ps sp:=by
 obtain⟨f,fd,F,hm,hb⟩:=F.ex
 exact⟨f,fd,F.ok S len fun cdv A outer s H vs Q E hr h=>hbody f cdv A outer s H vs Q E hr h,hm,F.kp,hb,let ⟨oc,od,_,_,_,_,_,_,osl,_,l,_⟩:=F.ex;⟨oc,od,osl,l⟩⟩
end
section
variable {X:Cx} {CX:CXT} {k j:Nat} {ps:List Str} {sp:Sp} {E:XK} {x:Str} {p pos:Pos} {e:Expr} {es:List Expr} {t:TA}
def tFn(sp:Sp)(E:XK)(t:TA):TE:=fun σ H Q=>t σ H fun vs H1=>sp vs H1 Q E
theorem pe_fn(D:a1e X.prog X.w X.K X.mg X.base CX k x ps sp)(hr:Room j X.A)(hx:a3k CX X E)(ha:PA X (e::es) t)(hk:k≤j:=by decide)(hg:Gl X x:=by rfl)(hdb:(x == ("__debug__" : Str))=false:=by decide)(he:starEach (e::es) X.env=(false,eval e X.env)::starEach es X.env:=by rfl)(hpl:(backTo pos (starEach es X.env)).any (·.1)=false:=by rfl) :
   PE X (.Call (.Name x p) (e::es) [] pos) (tFn sp E t):=by
 obtain⟨f,fd,F,hm,kp,hb,_⟩:=D.ex
 intro pins s σ H Q I h
 have q:=pe_call (X:=X) (p:=p) (pos:=pos) F (hr.mono hk) hg hm kp hb .nil hx ha hdb he hpl
 refine q pins s σ H Q I ?_
 unfold tCall
 have e:(fun (vs:List V) (H1:Hp)=>sp (vs++[]) H1 Q E)=fun vs H1=>sp vs H1 Q E:=by
   funext vs H1
   rw[c5d]
 rw[e]
 exact h
end
end Cv
namespace Cv
open PySem PySem.Spec PyProof.Rows L2
section
variable {X:Cx}
def c2d(i j:Int):Prop:=CMul i j∨CMulB i j
theorem a1g:OpR X (binaryOp .Mult) (rI c2d fun i j=>.int (i*j)):=opI fun i j _ _ _ _ _ hc q=>by
 rcases hc with hc | ⟨n,m,h1,h2,h3⟩
 · exact mul_int q hc.ok
 · exact mul_int q (IntMulOk.of_le (PySem.intBits_le_iff.mpr h1.lt) (PySem.intBits_le_iff.mpr h2.lt) (by omega))
end
theorem mulL{i j:Int}(h1:-(2^64)<i)(h2:i<2^64):c2d i j:=.inl (.inl ⟨h1,h2⟩)
theorem mulR{i j:Int}(h1:-(2^64)<j)(h2:j<2^64):c2d i j:=.inl (.inr ⟨h1,h2⟩)
theorem mulB{n m:Nat}{i j:Int}(h1:Sz n i)(h2:Sz m j)(h:n+m≤100000000:=by decide):c2d i j:=.inr ⟨n,m,h1,h2,h⟩
def spGcd:Sp:=fun vs H Q _=>∃ a b:Int,vs=[.int a,.int b]∧Q (.int (c3s a b)) H
def b8l:Sp:=fun vs H Q _=>∃ t b:Int,vs=[.int t,.int b]∧b≠0∧Sz 9000 b∧∀ v H',Same H H'→ShV H' v (c2i t b)→Q v H'
def spCell(K:c2f):Sp:=fun vs H Q _=>∃ (a:Addr) (ns:List Int) (k:Int),vs=[.ref a,.int k]∧SqL K H a (ns.map V.int)∧0≤k∧∀ z,Q (.int z) H
def b5b:Sp:=fun vs H Q _=>∃ c p:Int,vs=[.int c,.int p]∧∀ (l:Addr) (xs:List Int) (H':Hp),Same H H'→H' l=some (.lst (xs.map V.int))→xs.length=24→(∀ x∈xs,0≤x)→Q (.ref l) H'
def spPart:Sp:=fun vs H Q _=>∃ a b:Int,vs=[.int a,.int b]∧0≤a∧0≤b∧Q (.int (c3s a b)) H
def b5d:Sp:=fun vs H Q _=>∃ t b:Int,vs=[.int t,.int b]∧0<b∧Sz 9000 b∧∀ v H',Same H H'→ShV H' v (c2i t b)→Q v H'
def spLaw(K:c2f):Sp:=fun vs H Q _=>∃ (a:Addr) (ns:List Int),vs=[.ref a]∧SqL K H a (ns.map V.int)∧ns.length≤63∧∀ H',Q (.bl true) H'
theorem b1f{c:Prop}[Decidable c]{A B:Prop}(h1:c→A)(h2:¬ c→B):if decide c=true then A else B:=by
 by_cases h:c
 · rw[if_pos (decide_eq_true h)];exact h1 h
 · rw[if_neg (by simp[h])];exact h2 h
theorem ifT{b:Bool}{A B:Prop}(h:b=true)(k:A):if b=true then A else B:=by rw[if_pos h];exact k
theorem ifF{b:Bool}{A B:Prop}(h:b=false)(k:B):if b=true then A else B:=by rw[if_neg (by rw[h];decide)];exact k
theorem ifB{b:Bool}{A B:Prop}(h1:b=true→A)(h2:b=false→B):if b=true then A else B:=by
 cases b
 · exact ifF rfl (h2 rfl)
 · exact ifT rfl (h1 rfl)
end Cv
namespace Cv
open PySem PySem.Spec PyProof.Rows L2
theorem a1e.law{P:Program}{w:World}{K:c2f}{mg:Str→Option Value}{base:Heap}{CX:CXT}{k:Nat}{x:Str}{ps:List Str}{sp:Sp}{f:Addr}{fd:FuncData}{oc:Value}{od:Option Addr}{osl:Array (Option Value)}(D:a1e P w K mg base CX k x ps sp)(l:K.lookup f=some ⟨oc,od,.func fd,osl⟩)(hm:mg x=some (.ref f)):FnOk P w K mg base CX k f fd ps sp:=by
 obtain⟨f',fd',FO,hm',_,_,oc',od',osl',l'⟩:=D.ex
 have e:=hm.symm.trans hm'
 cases e
 have e2:=l.symm.trans l'
 have e3:Data.func fd=Data.func fd':=congrArg (fun (o:Obj)=>o.data) (c2u.inj e2)
 cases e3
 exact FO
theorem walk{l:PySem.W.OpenLaw}{k:Nat}{CX:CXT}{sp:c2f→Sp}{q:Program}{loose:List Str}{XP:(Str→Option Value)→Heap→Prop}{YP:World→Heap→Prop}{d:DefRec}{K:Params→c2f}{x:Str}(hn:l.most=some 63)(hdf:d.params.defaults=[])(hr:Room k callerA)(hY:∀ (w:World) (h:Heap),YP w h→(K w.params).In h)(F:∀ (w:World) (mg:Str→Option Value) (fa:Addr) (h:Heap),(K w.params).In h→h.Ns mainGlobals mg→mg d.name=some (.ref fa)→
     ∃ fd:FuncData,(∀ (s:Shared) (u:Value),BindsTo s fd ⟨[u],[]⟩ [(x,u)])∧∀ (P:Program) (base:Heap),(K w.params).In base→base.Ns mainGlobals mg→FnOk P w (K w.params) mg base CX k fa fd [x] (sp (K w.params)))(hsp:∀ (K:c2f) (H:Hp) (a:Addr) (ns:List Int),ns.length≤63→Only H→SqL K H a (ns.map V.int)→sp K [.ref a] H (fun v _=>v=.bl true) fun _ _ _=>False)(hCX:∀ (H:Hp) (s:Shared) (e:Value) (s':Shared),CX [] H s (fun _ _ _=>False) e s'→False) :
   PySem.W.WalkO q loose XP YP l.row.toRowW d [] (fun f vs=>PySem.call f vs):=
 L2.walk_of (n:=63) (k:=k) (x:=x) (CX:=fun _=>CX) (sp:=fun w=>sp (K w.params)) hn (by decide) hdf hr hY
   (fun w mg fa h a b c=>let ⟨fd,h1,h2⟩:=F w mg fa h a b c;⟨fd,h1,fun base=>h2 l.prog base⟩) (fun w H a ns=>hsp (K w.params) H a ns) fun _ H s e s'=>hCX H s e s'
end Cv
namespace Cv
open PySem PySem.Spec PyProof.Rows L2
theorem pl{j:Int}(h:0<j:=by decide):0<j:=h
theorem at_map(xs:List Int)(k:Nat)(h:k<xs.length):atI (xs.map V.int) (k:Int)=some (V.int (xs.getD k 0)):=by
 refine b4r ?_
 rw[c2p,c2e h]
 simp[c4b,c2e h]
theorem c1r(xs:List Int)(k:Int)(h0:0≤k)(h:k<(xs.length:Int)):atI (xs.map V.int) k=some (V.int (xs.getD k.toNat 0)):=by
 have e:k=((k.toNat:Nat):Int):=by omega
 have q:=at_map xs k.toNat (by omega)
 rw[← e] at q
 exact q
theorem cut_one(xs:List Int)(h:1≤xs.length):cutV (xs.map V.int) (some 1) none=(xs.drop 1).map V.int:=by
 unfold cutV
 have e:HT.sIx (xs.map V.int).length 0 (some 1)=1:=by
   have:=HT.b3t (xs.map V.int).length 0 1
   rw[c2h] at this
   rw[c2h]
   exact this.trans (by omega)
 rw[e,HT.b0y,← List.map_drop]
 refine c4x ?_
 rw[c2h,c3k,c2h]
 omega
theorem c1s{α:Type}(xs:List α)(i:Int)(h0:0≤i)(h1:i<(xs.length:Int)):∃ v,atI xs i=some v∧v∈xs:=by
 have e:i=((i.toNat:Nat):Int):=by omega
 have hl:i.toNat<xs.length:=by omega
 refine⟨xs[i.toNat],?_,c4c hl⟩
 have q:=b4r (xs:=xs) (j:=i.toNat) (v:=xs[i.toNat]) (c2e hl)
 rw[← e] at q
 exact q
theorem p30:(10:Int)^(30:Int).toNat=1000000000000000000000000000000:=by decide
theorem pos30:(0:Int)<(10:Int)^(30:Int).toNat:=by rw[p30];decide
theorem a5q{n:Nat}{x:Int}{b:Nat}(h1:x.natAbs≤b)(h2:b<2^n):Sz n x:=⟨Nat.lt_of_le_of_lt h1 h2⟩
theorem gcd_abs(t b:Int):c3s (if t<0 then -t else t) b=c3s t b:=by
 split
 · rw[Int.neg_gcd]
 · rfl
theorem emod_gcd(a b:Int)(hb:0<b):c3s b (a % b)=c3s a b:=by
 have:=b6b a b
 rw[Int.fmod_eq_emod_of_nonneg a (by omega)] at this
 exact this
theorem b7l{a b:Int}(h:a≠b):(!decide (V.int a=V.int b))=true:=by simp[h]
theorem kit_ii(K:c2f):c3m K (.type "int") (.type "int")=some true:=rfl
theorem kit_ib(K:c2f):c3m K (.type "int") (.type "bool")=some false:=rfl
theorem kit_tt(K:c2f):c3m K (.type "tuple") (.type "tuple")=some true:=rfl
theorem kit_bb(K:c2f):c3m K (.type "bool") (.type "bool")=some true:=rfl
theorem kit_ll(K:c2f):c3m K (.type "list") (.type "list")=some true:=rfl
end Cv
namespace Cv
open PySem PySem.Spec PyProof.Rows L2
structure TrX(h B:Heap)(e:Addr)(cls fl:Value):Prop where
 ex:∃ (oe:Obj) (vs:Array Value) (T:Addr) (oT:Obj) (ts:Array Value),(h.get? e=some oe∧oe.cls=cls∧oe.data=.fields vs∧oe.dict=none)∧(vs[2]?=some .none∧vs[1]?=some (.ref T))∧(B.get? T=none∧T≠e)∧h.get? T=some oT∧oT.data=.fields ts∧ts[3]?=some fl
structure FlyX(B:Heap)(l:List Env)(e:Addr)(cls fl:Value)(h:Heap):Prop where
 stays:B.StaysIn h
 new:B.get? e=none
 frames:h.FunFrames B l
 tr:TrX h B e cls fl
theorem mf_dict(f:Array Value→Array Value)(o:Obj):(Obj.mapFields f o).dict=o.dict:=by
 unfold Obj.mapFields
 split<;>rfl
theorem FlyX.there{B h:Heap}{l:List Env}{e:Addr}{cls fl:Value}(x:FlyX B l e cls fl h):∃ o vs,h.get? e=some o∧o.cls=cls∧o.data=.fields vs∧vs[2]?=some .none∧o.dict=none:=by
 obtain⟨o,vs,_,_,_,⟨a,b,c,f⟩,⟨d,_⟩,_⟩:=x.tr.ex
 exact⟨o,vs,a,b,c,d,f⟩
section
variable {M:Model} {A:Around} {E:Value→Shared→Prop} {s:Shared} {B:Heap} {env:Env} {outer:List Env} {L e:Addr}
theorem entX{oe:Obj}{vs:Array Value}{hd:Value}{b:Bool}{Q:Unit→Shared→Prop}(hfr:A.frames=some (env::outer))(hf:env.frame=some L)(st:B.StaysIn s.heap)(ne:B.get? e=none)(ff:s.heap.FunFrames B (env::outer))(he:s.heap.get? e=some oe)(dt:oe.data=.fields vs)(dn:oe.dict=none)(v2:vs[2]?=some .none)(k:∀ h',FlyX B (env::outer) e oe.cls (rawInt L) h'→s.heap.UpToSlots h'→Q () { s with heap:=h' }) :
   wpAny M A (frameOf env >>= fun a=>entryPlaceOf L b >>= fun pl=>EntryCells.newEntry hd a .none (rawInt L) .none pl >>= fun t=>setField (.ref e) 1 t) Q E s:=by
 have v2s:2<vs.size:=(c7f.mp v2).1
 have nfr:e∉(env::outer).filterMap (·.frame):=by
   intro hm
   obtain⟨_,o,ho,q⟩:=ff.mem hm
   cases he.symm.trans ho
   exact q vs dt
 refine wpAny_bind (wpAny_frameOf_fun hfr ff hf fun h1 so=>?_)
 refine wpAny_bind (wpAny_entryPlaceOf fun pl ip=>?_)
 unfold EntryCells.newEntry newFields
 refine wpAny_bind (wpAny_newObj_type ?_ (ip.sizeOk5 _ _ _ _ _))
 have e1:h1.get? e=some oe:=(so.2.1 e nfr).trans he
 have st1:B.StaysIn h1:=fun c o q=>(so.2.1 c fun hm=>by rw[(ff.mem hm).1] at q;cases q).trans (st c o q)
 have t3:(([hd,Value.ref L,Value.none,rawInt L,Value.none]++(if pl.isEmpty then c2n 6 Value.none else pl)).toArray)[3]?=some (rawInt L):=by
   rw[List.getElem?_toArray];rfl
 have tT:h1.objs.size≠e:=Nat.ne_of_gt (Heap.lt_size e1)
 generalize hts:([hd,Value.ref L,Value.none,rawInt L,Value.none]++(if pl.isEmpty then c2n 6 Value.none else pl)).toArray=ts at t3 ⊢
 have e2:=Heap.get?_push_of_some (h:=h1) { cls:=.type "traceback",dict:=none,data:=.fields ts } e1
 refine wpAny_setField e2 dt (by omega) (k _ ?_ ?_)
 all_goals
   have d3:=Obj.data_mapFields dt (·.setIfInBounds 1 (Value.ref h1.objs.size))
   have e3:=Heap.get?_update_self (Obj.mapFields (·.setIfInBounds 1 (Value.ref h1.objs.size))) e2 (Obj.isFreed_of_fields d3)
   have up:∀ c o,c≠e→h1.get? c=some o→((h1.push { cls:=.type "traceback",dict:=none,data:=.fields ts }).update e (Obj.mapFields (·.setIfInBounds 1 (Value.ref h1.objs.size)))).get? c=some o:=fun c o q z=>by
     rw[Heap.get?_update_other _ _ (Ne.symm q)];exact Heap.get?_push_of_some _ z
   have nr:∀ c o,s.heap.get? c=some o→(∀ us,o.data≠.fields us)→c≠e:=fun c o z nf q=>by
     subst q;cases he.symm.trans z;exact nf vs dt
 · refine⟨fun c o z=>up c o (fun q=>by rw[q,ne] at z;cases z) (st1 c o z),ne,ff.of_keeps fun c o z nf=>?_,⟨_,_,h1.objs.size,_,_,⟨e3,Obj.cls_mapFields _ _,d3,(mf_dict _ _).trans dn⟩,⟨by rw[Array.getElem?_setIfInBounds_ne (by decide)];exact v2,by simp[show 1<vs.size by omega]⟩,⟨st1.fresh,tT⟩,(Heap.get?_update_other _ _ (Ne.symm tT)).trans (Heap.get?_push_size h1 rfl),rfl,t3⟩⟩
   obtain⟨sl,q⟩:=so.2.2 c o z
   exact⟨_,up c _ (nr c o z nf) q,rfl⟩
 · intro c o z nf
   obtain⟨sl,q⟩:=so.2.2 c o z
   exact⟨sl,up c _ (nr c o z nf) q⟩
theorem offX{l:List Env}{cls fl:Value}{Q:Unit→Shared→Prop}(x:FlyX B l e cls fl s.heap)(k:∀ h',FlyX B l e cls .none h'→s.heap.UpToSlots h'→Q () { s with heap:=h' }):wpAny M A (setFlight (.ref e) none) Q E s:=by
 obtain⟨oe,vs,T,oT,ts,⟨a1,a2,a3,a4⟩,⟨b1,b2⟩,⟨c1,c2⟩,d1,d2,d3⟩:=x.tr.ex
 have t3:3<ts.size:=(c7f.mp d3).1
 unfold setFlight
 refine wpAny_bind (wpAny_field a1 a3 b2 ?_)
 rw[if_pos (by simp:(Value.ref T != Value.none)=true)]
 refine wpAny_setField d1 d2 t3 (k _ ?_ ?_)
 all_goals
   have ot:∀ c,c≠T→(s.heap.update T (Obj.mapFields (·.setIfInBounds 3 ((none:Option Addr).elim Value.none fun f=>rawInt f)))).get? c=s.heap.get? c:=fun c q=>Heap.get?_update_other _ _ (Ne.symm q)
   have nr:∀ c o,s.heap.get? c=some o→(∀ us,o.data≠.fields us)→c≠T:=fun c o z nf q=>by
     subst q;cases d1.symm.trans z;exact nf ts d2
 · exact⟨fun c o z=>(ot c fun q=>by rw[q,c1] at z;cases z).trans (x.stays c o z),x.new,x.frames.of_keeps fun c o z nf=>⟨o,(ot c (nr c o z nf)).trans z,rfl⟩,
     ⟨oe,vs,T,_,_,⟨(ot e (Ne.symm c2)).trans a1,a2,a3,a4⟩,⟨b1,b2⟩,⟨c1,c2⟩,Heap.get?_update_self _ d1 (Obj.isFreed_of_fields (Obj.data_mapFields d2 _)),Obj.data_mapFields d2 _,by simp[t3]⟩⟩
 · exact fun c o z nf=>⟨o.slots,(ot c (nr c o z nf)).trans z⟩
theorem noteX{cls:Value}{Q:Unit→Shared→Prop}(hfr:A.frames=some (env::outer))(hf:env.frame=some L)(x:FlyX B (env::outer) e cls .none s.heap)(k:∀ h',FlyX B (env::outer) e cls (rawInt L) h'→s.heap.UpToSlots h'→Q () { s with heap:=h' }):wpAny M A (noteFrame (.ref e) env) Q E s:=by
 obtain⟨oe,vs,T,oT,ts,⟨a1,a2,a3,a4⟩,⟨b1,b2⟩,⟨c1,c2⟩,d1,d2,d3⟩:=x.tr.ex
 subst a2
 have t3:3<ts.size:=(c7f.mp d3).1
 unfold noteFrame
 simp only[hf]
 refine wpAny_bind (wpAny_field a1 a3 b2 ?_)
 rw[if_pos (by simp:(Value.ref T != Value.none)=true)]
 refine wpAny_bind (wpAny_field d1 d2 d3 ?_)
 rw[if_neg (by simp[rawInt]:¬ ((Value.none == rawInt L)=true))]
 refine wpAny_bind (wpAny_setField d1 d2 t3 ?_)
 have ot:∀ c,c≠T→(s.heap.update T (Obj.mapFields (·.setIfInBounds 3 Value.none))).get? c=s.heap.get? c:=fun c q=>Heap.get?_update_other _ _ (Ne.symm q)
 have nr:∀ c o,s.heap.get? c=some o→(∀ us,o.data≠.fields us)→c≠T:=fun c o z nf q=>by
   subst q;cases d1.symm.trans z;exact nf ts d2
 refine entX hfr hf (fun c o z=>(ot c fun q=>by rw[q,c1] at z;cases z).trans (x.stays c o z)) x.new (x.frames.of_keeps fun c o z nf=>⟨o,(ot c (nr c o z nf)).trans z,rfl⟩) ((ot e (Ne.symm c2)).trans a1) a3 a4 b1 fun h' f u=>k h' f ?_
 exact fun c o z nf=>u c o ((ot c (nr c o z nf)).trans z) nf
theorem FlyX.tail{cls fl:Value}{h:Heap}(x:FlyX B (env::outer) e cls fl h):FlyX B outer e cls fl h:=by
 obtain⟨a,b,⟨_,_,c⟩,d⟩:=x
 exact⟨a,b,c,d⟩
theorem leaveX{cls:Value}{Q:Unit→Shared→Prop}(hfr:A.frames=some (env::outer))(hf:env.frame=some L)(x:FlyX B (env::outer) e cls .none s.heap)(k:∀ h',FlyX B outer e cls .none h'→s.heap.UpToSlots h'→Q () { s with heap:=h' }):wpAny M A (leaving env (.ref e)) Q E s:=by
 unfold leaving
 exact wpAny_bind (noteX hfr hf x fun h1 f1 u1=>offX f1 fun h2 f2 u2=>k h2 f2.tail (u1.trans u2))
theorem madeX{h:Heap}{cls:Value}{args:List Value}{Q:Unit→Shared→Prop}(hfr:A.frames=some (env::outer))(hf:env.frame=some L)(st:B.StaysIn h)(ff:h.FunFrames B (env::outer))(hx:Heap.MadeExcOf h s.heap e cls args)(k:∀ h',FlyX B outer e cls .none h'→s.heap.UpToSlots h'→Q () { s with heap:=h' }):wpAny M A (leaving env (.ref e)) Q E s:=by
 obtain⟨t,he,_,_⟩:=hx.there
 have nb:B.get? e=none:=by
   cases q:B.get? e with
   | none=>rfl
   | some o=>have:=st e o q;rw[hx.new] at this;cases this
 unfold leaving noteFrame
 simp only[hf]
 refine wpAny_bind (wpAny_bind (wpAny_field he rfl (x:=.none) rfl ?_))
 rw[if_neg (by decide)]
 refine entX hfr hf (fun c o z=>hx.keeps c o (st c o z)) nb (ff.of_keeps fun c o z _=>⟨o,hx.keeps c o z,rfl⟩) he rfl rfl rfl fun h1 f1 u1=>?_
 exact offX f1 fun h2 f2 u2=>k h2 f2.tail (u1.trans u2)
end
end Cv
namespace Cv
open PySem PySem.Spec PyProof.Rows L2
structure UnB(fs:List Addr)(H H':Hp)(h B h':Heap):Prop where
 keep:∀ b o,h.get? b=some o→H b=none→b∉fs→B.get? b=some o
 slot:∀ b o,h.get? b=some o→H b=none→b∈fs→∃ sl,h'.get? b=some { o with slots:=sl }
 free:∀ b o,h.get? b=some o→H b=none→H' b=none
 there:∀ b o,h.get? b=some o→b∉fs→∃ o',B.get? b=some o'
 tups:∀ b xs,H b=some (.tup xs)→H' b=some (.tup xs)
 frzs:∀ b o u,H b=some (.frz o u)→H' b=some (.frz o u)
 tbls:∀ b ps,H b=some (.tbl ps)→∃ more,H' b=some (.tbl (ps++more))
theorem UnB.un{fs:List Addr}{H H':Hp}{h B h':Heap}(u:UnB fs H H' h B h')(hB:B.StaysIn h')(hf:∀ b∈fs,H b=none):Un fs [] H H' h h' where
 keep:=fun b o e n hb _=>hB b o (u.keep b o e n hb)
 slot:=fun b o e n hb _=>u.slot b o e n hb
 free:=fun b o e n _=>u.free b o e n
 there:=fun b o e _=>by
   by_cases hb:b∈fs
   · obtain⟨sl,q⟩:=u.slot b o e (hf b hb) hb
     exact⟨_,q⟩
   · obtain⟨o',q⟩:=u.there b o e hb
     exact⟨o',hB b o' q⟩
 tups:=u.tups
 frzs:=u.frzs
 tbls:=u.tbls
theorem UnB.on{fs:List Addr}{H H':Hp}{h B h' h'':Heap}(u:UnB fs H H' h B h')(hf:∀ b∈fs,∀ o,h.get? b=some o→∀ vs,o.data≠.fields vs)(up:h'.UpToSlots h''):UnB fs H H' h B h'' where
 keep:=u.keep
 slot:=fun b o e n hb=>by
   obtain⟨sl,q⟩:=u.slot b o e n hb
   obtain⟨sl',q'⟩:=up b _ q (hf b hb o e)
   exact⟨sl',q'⟩
 free:=u.free
 there:=u.there
 tups:=u.tups
 frzs:=u.frzs
 tbls:=u.tbls
def CXx(P:Program)(w:World):CXT:=fun outer H s E e s'=>∃ (x:Addr) (cls:Value) (H':Hp) (B:Heap),e=.ref x∧s'.os=s.os∧AllBare s'.gens∧UnB (frs outer) H H' s.heap B s'.heap∧
 HOk P w H' B∧FlyX B outer x cls .none s'.heap∧E cls none H'
theorem b9s{P:Program}{w:World}{X:Cx}:a3k (CXx P w) X E0:=fun _ _ _ _ _ _ _ ⟨_,_,_,_,_,_,_,_,_,_,h⟩=>h.elim
def c2a(X:Cx)(E:XK):Prop:=∀ (pins:List (Addr×Obj)) (σ:L2.St) (H:Hp) (s:Shared) (e:Addr) (h':Heap) (cls:Value) (vs:List Value),Inv X pins σ H s→Heap.MadeExcOf s.heap h' e cls vs→E cls none H→X.xe (.ref e) { s with heap:=h' }
section
variable {X:Cx} {pins:List (Addr×Obj)} {σ:L2.St} {H H':Hp} {s:Shared}
theorem fdata(I:Inv X pins σ H s):∀ b∈frs X.stack,∀ o,s.heap.get? b=some o→∀ vs,o.data≠.fields vs:=fun b hb o e vs=>by
 obtain⟨_,o',e',d⟩:=I.stack.mem hb
 rw[e] at e'
 cases e'
 exact d vs
theorem hok_hide(I:Inv X pins σ H s):HOk X.prog X.w H (c7t s.heap (frs X.stack)):=fun a o e=>
 (I.hok a o e).stay (fun b u hb q=>c7l _ q fun hm=>by
   have n:=I.stkFree b hm
   rcases hb with rfl | hb
   · rw[e] at n;cases n
   · rw[hb] at n;cases n) (fun _ q=>q) fun _ _ q=>q
theorem made_un(I:Inv X pins σ H s){e:Addr}{h':Heap}{cls:Value}{vs:List Value}(hx:Heap.MadeExcOf s.heap h' e cls vs):UnB (frs X.stack) H H s.heap (c7t s.heap (frs X.stack)) h' where
 keep:=fun b o q n hb=>c7l _ q hb
 slot:=fun b o q n hb=>⟨o.slots,hx.keeps b o q⟩
 free:=fun _ _ _ n=>n
 there:=fun b o q hb=>⟨o,c7l _ q hb⟩
 tups:=fun _ _ q=>q
 frzs:=fun _ _ _ q=>q
 tbls:=fun b ps q=>⟨#[],by rw[q];simp⟩
theorem out_un{B h':Heap}(I:Inv X pins σ H s)(hst:X.stack=X.env::X.outer)(hfr:X.env.frame=some X.env.locals)(hex:X.ex=[])(u:UnB (frs X.stack) H H' s.heap B h'):UnB X.fs X.H₀ H' X.s₀.heap B h':=by
 have hs:frs X.stack=X.env.locals::X.fs:=by
   rw[hst];unfold frs;rw[c7h,hfr];rfl
 have nx:∀ b,b∉X.ex:=fun b z=>by rw[hex] at z;cases z
 have ne:∀ b o,X.s₀.heap.get? b=some o→b≠X.env.locals:=fun b o e=>c3e (c3g (Heap.lt_size e) I.ok.above)
 have nin:∀ b o,X.s₀.heap.get? b=some o→b∉X.fs→b∉frs X.stack:=fun b o e hb z=>by
   rw[hs] at z
   rcases c2x.mp z with z | z
   · exact ne b o e z
   · exact hb z
 refine⟨fun b o e n hb=>?_,fun b o e n hb=>?_,fun b o e n=>?_,fun b o e hb=>?_,fun b xs q=>u.tups b xs (I.base.tups b xs q),fun b o xs q=>u.frzs b o xs (I.base.frzs b o xs q),fun b ps q=>?_⟩
 · exact u.keep b o (I.base.keep b o e n hb (nx b)) (I.base.free b o e n (nx b)) (nin b o e hb)
 · obtain⟨sl,q⟩:=I.base.slot b o e n hb (nx b)
   obtain⟨sl',q'⟩:=u.slot b _ q (I.base.free b o e n (nx b)) (by rw[hs];exact c3q _ hb)
   exact⟨sl',q'⟩
 · obtain⟨o',q⟩:=I.base.there b o e (nx b)
   exact u.free b o' q (I.base.free b o e n (nx b))
 · obtain⟨o',q⟩:=I.base.there b o e (nx b)
   exact u.there b o' q (nin b o e hb)
 · obtain⟨m1,e1⟩:=I.base.tbls b ps q
   obtain⟨m2,e2⟩:=u.tbls b _ e1
   exact⟨m1++m2,by rw[e2,Array.append_assoc]⟩
end
section
variable {P:Program} {w:World} {K:c2f} {mg:Str→Option Value} {base:Heap} {N:List Str} {qual:Str} {scope:Scope} {f:Addr} {cd:Value} {A:Around} {outer:List Env} {s:Shared} {H:Hp} {E:XK}
theorem b8f:c2a (cxOf (CXx P w) P w K mg base N qual scope f cd A outer s H E) E:=by
 intro pins σ H1 s1 e h' cls vs I hx hE
 have hfr:(cxOf (CXx P w) P w K mg base N qual scope f cd A outer s H E).A.frames=some (cxOf (CXx P w) P w K mg base N qual scope f cd A outer s H E).stack:=I.ok.frames
 have st:(c7t s1.heap (frs (cxOf (CXx P w) P w K mg base N qual scope f cd A outer s H E).stack)).StaysIn s1.heap:=fun b o q=>PySem.W.of_hideAll _ q
 have ff:s1.heap.FunFrames (c7t s1.heap (frs (cxOf (CXx P w) P w K mg base N qual scope f cd A outer s H E).stack)) (cxOf (CXx P w) P w K mg base N qual scope f cd A outer s H E).stack:=
   PySem.W.funFrames_hide I.stack fun env he b hb=>List.mem_filterMap.mpr ⟨env,he,hb⟩
 refine madeX hfr rfl st ff hx fun h'' x1 x4=>?_
 have u1:=made_un I hx
 have u2:UnB (frs (cxOf (CXx P w) P w K mg base N qual scope f cd A outer s H E).stack) H1 H1 s1.heap _ h'':=u1.on (fdata I) x4
 exact⟨e,cls,H1,_,rfl,I.os,I.bare,out_un I rfl rfl rfl u2,hok_hide I,x1,hE⟩
theorem b2k:a3k (CXx P w) (cxOf (CXx P w) P w K mg base N qual scope f cd A outer s H E) E:=by
 rintro pins σ H1 s1 e s' I ⟨x,cls,H',B,rfl,hos,hb,u,hok,hfl,hE⟩
 have hfr:(cxOf (CXx P w) P w K mg base N qual scope f cd A outer s H E).A.frames=some (cxOf (CXx P w) P w K mg base N qual scope f cd A outer s H E).stack:=I.ok.frames
 refine leaveX hfr rfl hfl fun h'' x1 x2=>?_
 have u2:UnB (frs (cxOf (CXx P w) P w K mg base N qual scope f cd A outer s H E).stack) H1 H' s1.heap B h'':=u.on (fdata I) x2
 exact⟨x,cls,H',B,rfl,hos.trans I.os,hb,out_un I rfl rfl rfl u2,hok,x1,hE⟩
end
section
variable {P:Program} {w:World} {K:c2f} {mg:Str→Option Value} {base:Heap}
theorem def_okX{x:Str}{st:Stmt}{N ps:List Str}{k:Nat}{sp:Sp}(F:a0s K mg x st ps)(S:a1a N ps (a0e st))(len:∀ vs H Q E,sp vs H Q E→vs.length=ps.length)(hbody:∀ (f:Addr) (cdv:Value) (A:Around) (outer:List Env) (s:Shared) (H:Hp) (vs:List V) (Q:VK) (E:XK),Room k (A.deeper (envOfC x (a0e st) s.heap.objs.size f cdv))→sp vs H Q E→
     ∃ t,PSs (cxOf (CXx P w) P w K mg base N x (a0e st) f cdv A outer s H E) (a0p st) t∧t { nx:=fun _ H'=>Q .non H',rt:=Q } (a6s N vs) H):a1e P w K mg base (CXx P w) (k+1) x ps sp:=by
 obtain⟨f,fd,F,hm,hb⟩:=F.ex
 obtain⟨oc,od,kV,doc,pm,an,cdv,ct,osl,rfl,lk,hcd⟩:=F.ex
 exact⟨f,_,fn_of lk hcd S len fun A outer s H vs Q E hr h=>hbody f cdv A outer s H vs Q E hr h,hm,F.kp,hb,oc,od,osl,lk⟩
end
abbrev mroV:List Value:=[.type "ValueError",.type "Exception",.type "BaseException",.type "object"]
structure XCls(K:c2f)(mg:Str→Option Value)(x:Str)(C:Addr):Prop where
 bound:mg x=some (.ref C)
 obj:∃ nm q N bs bm hdct sn sub ab col dd k0 k1 k2 k3 k5,K.lookup C=some (excClassObj nm q C N bs bm hdct sn sub ab col dd k0 k1 k2 k3 k5 "ValueError.__new__")∧
   PySem.W.nsOkIn K N=true∧c2l K N "__init__" = some none∧PySem.W.tailIn K mroV bm=true
theorem XCls.own{K:c2f}{mg:Str→Option Value}{x:Str}{C:Addr}{h:Heap}(c:XCls K mg x C)(X:K.In h):OwnCls x C mroV "ValueError.__new__" mg h:=by
 obtain⟨nm,q,N,bs,bm,hdct,sn,sub,ab,col,dd,k0,k1,k2,k3,k5,l,h1,h2,h3⟩:=c.obj
 exact⟨c.bound,bm,N,nm,q,bs,hdct,sn,sub,ab,col,dd,k0,k1,k2,k3,k5,_,X _ _ l,.of_isNs (PySem.W.isNs_of_in X h1),PySem.W.nsMap_none_of_in X h1 h2,PySem.W.tail_of_in X h3⟩
section
variable {X:Cx} {x:Str} {C:Addr} {np cpos pos:Pos} {E:XK} {e₀:Expr} {ta:TA}
def tRaise(E:XK)(C:Addr)(ta:TA):TS:=fun _ σ H=>ta σ H fun vs H1=>vs.length≤sizeLine∧E (.ref C) none H1
theorem ps_raise(th:c2a X E)(c:XCls X.K X.mg x C)(ha:PA X [e₀] ta)(hc:X.calm=true:=by rfl)(hg:Gl X x:=by rfl)(he:starEach [e₀] X.env=[(false,eval e₀ X.env)]:=by rfl)(hd:(x == ("__debug__" : Str))=false:=by decide):PS X (.Raise (some (.Call (.Name x np) [e₀] [] cpos)) none pos) (tRaise E C ta):=by
 intro pins s σ H D I h
 have O:OwnCls x C mroV "ValueError.__new__" X.mg s.heap:=c.own I.kIn
 obtain⟨tl,N,nm,q,bs,hdct,sn,sub,ab,col,dd,k0,k1,k2,k3,k5,mN,hC,hN,hni,T⟩:=O.obj
 obtain⟨tl',N',nm',q',bs',hdct',sn',sub',ab',col',dd',k0',k1',k2',k3',k5',mN',hC',hN',hni',T'⟩:=(c.own I.mod.kin).obj
 have FB:=PySem.F.excBase_ValueError
 refine wpAny_Raise_call_subT (C:=C) (nm:=nm') (q:=q') (N:=N') (bs:=bs') (bm:=tl') (hdct:=hdct') (sn:=sn') (sub:=sub') (ab:=ab') (col:=col') (dd:=dd') (k0:=k0') (k1:=k1') (k2:=k2') (k3:=k3') (k5:=k5')
   FB (mN:=mN') (T'.hasType FB.hasBase) (I.ok.hd hc) (by rw[he];rfl) hni' (a8w I hg c.bound ⟨rfl,?_⟩ hd)
 have h2:=ha cpos pins s σ H _ I h
 rw[he] at h2 ⊢
 exact Calls.evalArgs_plain (wpAny_mono h2 (fun us s2 ⟨vs,H2,I2,r,hz,hE⟩=>⟨rfl,(by rw[← r.length];exact hz),I2.bk _ _ hC',hN'.keeps I2.bk,T'.keeps I2.bk,fun h' e hm=>th pins σ H2 s2 e h' _ _ I2 hm hE⟩) fun _ _ y=>y)
end
theorem obj_some{P:Program}{w:World}{H:Hp}{h:Heap}{a:Addr}{o:HO}(x:a5f P w H h a o):∃ ob,h.get? a=some ob:=by
 induction o with
 | lst xs=>obtain⟨_,_,_,_,e⟩:=x;exact⟨_,e⟩
 | tup xs=>obtain⟨_,_,_,_,e,_⟩:=x;exact⟨_,e⟩
 | dK kvs=>obtain⟨_,_,_,_,_,_,_,e,_⟩:=x;exact⟨_,e⟩
 | dT kvs=>obtain⟨_,_,_,_,_,_,_,e,_⟩:=x;exact⟨_,e⟩
 | set S n=>obtain⟨_,_,_,_,e,_⟩:=x;exact⟨_,e⟩
 | ins C dx fs=>obtain⟨_,_,_,e,_⟩:=x;exact⟨_,e⟩
 | own y=>exact x
 | xd fs=>obtain⟨_,⟨_,_,_,e,_⟩,_⟩:=x;exact⟨_,e⟩
 | rng lo hi=>obtain⟨_,_,_,e⟩:=x;exact⟨_,e⟩
 | frz ob u _=>exact⟨_,x.1⟩
 | tbl ps=>exact⟨_,x⟩
 | met f y=>exact⟨_,x⟩
 | ext p=>exact x.2.1
abbrev tryX(X:Cx)(xe:Value→Shared→Prop)(pn:List (Addr×Obj)):Cx:={ X with xe:=xe,pn:=pn }
abbrev b0a(X:Cx)(x:Addr):Cx:={ X with A:=X.A.mark (some (.ref x)),calm:=false,xe:=fun _ _=>False }
section
variable {X:Cx} {pins pins':List (Addr×Obj)} {σ:L2.St} {H H':Hp} {s:Shared}
theorem toTry(I:Inv X pins σ H s)(xe:Value→Shared→Prop):Inv (tryX X xe (X.pn++pins)) pins σ H s:=
 ⟨⟨I.ok.mod,I.ok.kind,I.ok.glob,I.ok.blt,I.ok.above,I.ok.inj,I.ok.has,I.ok.cab,I.ok.hd,I.ok.frames,I.ok.stk,I.ok.exf,I.ok.bs,I.ok.bsz,I.ok.noex,I.ok.exfs,I.ok.funs,I.ok.frf⟩,
   I.os,I.bare,I.base,I.loc,I.cell,I.free,I.freeC,fun p hp=>I.pin p ((c3n.mp hp).elim id fun z=>c2j _ z),I.hok,I.len⟩
theorem b6x{xe:Value→Shared→Prop}(I:Inv (tryX X xe (X.pn++pins)) pins' σ H s):Inv X pins σ H s:=
 ⟨⟨I.ok.mod,I.ok.kind,I.ok.glob,I.ok.blt,I.ok.above,I.ok.inj,I.ok.has,I.ok.cab,I.ok.hd,I.ok.frames,I.ok.stk,I.ok.exf,I.ok.bs,I.ok.bsz,I.ok.noex,I.ok.exfs,I.ok.funs,I.ok.frf⟩,
   I.os,I.bare,I.base,I.loc,I.cell,I.free,I.freeC,fun p hp=>I.pin p (c7d _ hp),I.hok,I.len⟩
theorem b8e(I:Inv X pins σ H s)(x:Addr):Inv (b0a X x) pins σ H s:=
 ⟨⟨I.ok.mod,I.ok.kind,I.ok.glob,I.ok.blt,I.ok.above,I.ok.inj,I.ok.has,I.ok.cab,fun z=>absurd z c3d,I.ok.frames,I.ok.stk,I.ok.exf,I.ok.bs,I.ok.bsz,I.ok.noex,I.ok.exfs,I.ok.funs,I.ok.frf⟩,
   I.os,I.bare,I.base,I.loc,I.cell,I.free,I.freeC,I.pin,I.hok,I.len⟩
theorem ofSuite{x:Addr}(hd:X.calm=true→X.A.handled=none)(I:Inv (b0a X x) pins σ H s):Inv X pins σ H s:=
 ⟨⟨I.ok.mod,I.ok.kind,I.ok.glob,I.ok.blt,I.ok.above,I.ok.inj,I.ok.has,I.ok.cab,hd,I.ok.frames,I.ok.stk,I.ok.exf,I.ok.bs,I.ok.bsz,I.ok.noex,I.ok.exfs,I.ok.funs,I.ok.frf⟩,
   I.os,I.bare,I.base,I.loc,I.cell,I.free,I.freeC,I.pin,I.hok,I.len⟩
theorem b7c{h':Heap}{m':Str→Option Value}{tk:Nat}(I:Inv X pins σ H s)(hn:h'.Ns X.env.locals m')(hs:Heap.SameBut X.env.locals s.heap h'):Inv X pins (c2n X.N.length none) H { s with heap:=h',toks:=tk }:=by
 have old:∀ b o,X.s₀.heap.get? b=some o→b≠X.env.locals:=fun b o e=>c3e (c3g (Heap.lt_size e) I.ok.above)
 refine⟨I.ok,I.os,I.bare,⟨fun b o e n hb hx=>(hs.2 b (old b o e)).trans (I.base.keep b o e n hb hx),fun b o e n hb hx=>?_,I.base.free,fun b o e hx=>?_,I.base.tups,I.base.frzs,I.base.tbls⟩,
   ⟨m',hn,fun i y v _ e2 _=>?_⟩,fun y c e=>?_,I.free,I.freeC,fun p hp=>?_,fun b o e=>?_,c2r⟩
 · obtain⟨sl,q⟩:=I.base.slot b o e n hb hx
   exact⟨sl,(hs.2 b (old b o e)).trans q⟩
 · obtain⟨o',q⟩:=I.base.there b o e hx
   exact⟨o',(hs.2 b (old b o e)).trans q⟩
 · rw[c4v] at e2
   split at e2<;>cases e2
 · obtain⟨v,z⟩:=I.cell y c e
   exact⟨v,z.sameBut hs (I.cne y c e)⟩
 · obtain⟨e,n,ne,nf,d⟩:=I.pin p hp
   exact⟨(hs.2 p.1 ne).trans e,n,ne,nf,d⟩
 · refine (I.hok b o e).stay (fun c u hc q=>(hs.2 c fun z=>?_).trans q) (fun _ q=>q) fun _ _ q=>q
   have fr:=I.free
   rcases hc with hc | hc
   · rw[← z,hc,e] at fr;cases fr
   · rw[← z,hc] at fr;cases fr
end
def ExcO(x:Addr)(cls:Value):HO:=.ext fun h=>∃ o vs,h.get? x=some o∧o.cls=cls∧o.data=.fields vs∧vs[2]?=some .none∧o.dict=none
def tTry(K:c2f)(n:Nat)(SC:Addr)(tb:XK→TS)(ts:Addr→TS):TS:=fun D σ H=>∃ Ex:XK,tb Ex D σ H∧∀ cls x H' (σ':L2.St),Ex cls none H'→H' x=none→σ'.length=σ.length→
 c7v K cls (.ref SC)=some true∧ts x { nx:=fun _ _=>False,rt:=D.rt } (σ'.set n (some (.ref x))) (upd H' x (ExcO x cls))
section
variable {X:Cx}
theorem ps_try1{n:Nat}{nm c:Str}{SC:Addr}{body:List Stmt}{b0:Stmt}{suite:List Stmt}{np hpos pos:Pos}{tb:XK→TS}{ts:Addr→TS}(cb:X.mg c=some (.ref SC))(hN:X.N.Nodup)(hb:∀ xe pn Ex,a3k (CXx X.prog X.w) (tryX X xe pn) Ex→PSs (tryX X xe pn) body (tb Ex))(hs:∀ x,PSs (b0a X x) (b0::suite) (ts x))(hi:X.N[n]?=some nm:=by rfl)(hx:X.env.scope.names.lookup nm=some .local:=by rfl)(hg:Gl X c:=by rfl)(hst:X.stack=X.env::X.outer:=by rfl)(hfr:X.env.frame=some X.env.locals:=by rfl)(hd:(c == ("__debug__" : Str))=false:=by decide) :
   PS X (.Try body [.ExceptHandler (some (.Name c np)) (some nm) (b0::suite) hpos] [] [] pos) (tTry X.K n SC tb ts):=by
 intro pins s σ H D I hread
 obtain⟨Ex,hbd,hcat⟩:=hread
 refine wpAny_Try_except ?_
 have hp:a3k (CXx X.prog X.w) (tryX X (fun e s₁=>wpAny (model X.prog X.w) X.A (noteFrame e X.env) (fun _ s₂=>wpAny (model X.prog X.w) X.A (setFlight e none) (fun _ s₃=>
     wpAny (model X.prog X.w) X.A (handleBy e X.env [.ExceptHandler (some (.Name c np)) (some nm) (b0::suite) hpos]) (SP X pins D) X.xe s₃) X.xe s₂) X.xe s₁) (X.pn++pins)) Ex:=by
   rintro pins' σ1 H1 s1 e s' J ⟨x,cls,H',B,rfl,hos,hba,u,hok,hfl,hE⟩
   show wpAny (model X.prog X.w) X.A (noteFrame (.ref x) X.env) _ _ s'
   have hfl':FlyX B (X.env::X.outer) x cls .none s'.heap:=by rw[← hst];exact hfl
   have hfr':X.A.frames=some (X.env::X.outer):=by rw[← hst];exact J.ok.frames
   have hBx:B.get? x=none:=hfl.new
   have hHx:H' x=none:=by
     cases q:H' x with
     | none=>rfl
     | some o=>
       obtain⟨ob,z⟩:=obj_some (hok x o q)
       rw[hBx] at z;cases z
   have hnew:∀ o,s1.heap.get? x=some o→False:=fun o e=>by
     by_cases hm:x∈frs X.stack
     · obtain⟨_,o',e',d⟩:=J.stack.mem hm
       obtain⟨sl,q⟩:=u.slot x o' e' (J.stkFree x hm) hm
       obtain⟨oe,vs,he,_,hde,_⟩:=hfl.there
       rw[q] at he
       cases he
       exact d vs hde
     · obtain⟨o',q⟩:=u.there x o e hm
       rw[hBx] at q;cases q
   have un6:∀ h6,B.StaysIn h6→s'.heap.UpToSlots h6→Un (frs X.stack) [] H1 H' s1.heap h6:=fun h6 hB up=>(u.on (fdata J) up).un hB J.stkFree
   have back:∀ h6,B.StaysIn h6→s'.heap.UpToSlots h6→Inv X pins σ1 H' { s' with heap:=h6 }:=fun h6 hB up=>
     b6x (J.call' (s':={ s' with heap:=h6 }) (ch:=[]) hos (un6 h6 hB up) (hok.kept hB) hba fun b z=>nomatch z)
   refine noteX hfr' hfr hfl' fun h4 held up4=>?_
   refine offX held fun h5 fl5 up5=>?_
   have up45:=up4.trans up5
   have I5:=back h5 fl5.stays up45
   have cat:=hcat cls x H' σ1 hE hHx (J.len.trans I.len.symm)
   refine wpAny_handleBy_cons (codeAny_handlers_test ?_) (by intro q;cases q)
   refine a8w (X:=b0a X x) (b8e I5 x) hg cb ?_ hd
   obtain⟨oe,_,he,hcl,_⟩:=fl5.there
   have LT:PySem.W.Looks (model X.prog X.w) h5 (typeOf (.ref x)) cls:=by
     subst hcl
     exact (PySem.W.Looks.ld he).andThen .now
   refine (PySem.W.exm_one (M:=model X.prog X.w) I5.kIn LT cat.1).here ?_
   refine codeAny_handlers_suite_as ?_
   refine offX fl5 fun h6 fl6 up6=>?_
   have up456:=up45.trans up6
   have hok6:HOk X.prog X.w H' h6:=hok.kept fl6.stays
   obtain⟨oe6,vs6,he6,hcl6,hd6,hn6⟩:=fl6.there
   have I6:Inv X pins σ1 (upd H' x (ExcO x cls)) { s' with heap:=h6 }:=by
     have u6:=un6 h6 fl6.stays up456
     refine b6x (J.call' (s':={ s' with heap:=h6 }) (ch:=[]) hos ⟨u6.keep,u6.slot,fun b o e nn hx'=>?_,u6.there,fun b xs q=>?_,fun b o v q=>?_,fun b ps q=>?_⟩ (fun b o q=>?_) hba fun b z=>nomatch z)
     · rw[a0j (fun z=>by rw[z] at e;exact hnew o e)];exact u6.free b o e nn hx'
     · rw[a0j (a0l (u6.tups b xs q) hHx)];exact u6.tups b xs q
     · rw[a0j (a0l (u6.frzs b o v q) hHx)];exact u6.frzs b o v q
     · obtain⟨more,z⟩:=u6.tbls b ps q
       exact⟨more,by rw[a0j (a0l z hHx)];exact z⟩
     · by_cases hbx:b=x
       · subst hbx
         rw[a0d] at q
         cases q
         exact⟨⟨oe6,vs6,he6,hcl6,hd6,hn6⟩,⟨oe6,he6⟩,fun h1 h2 ⟨o1,v1,e1,c1⟩ k=>⟨o1,v1,k o1 e1,c1⟩⟩
       · rw[a0j hbx] at q
         exact (hok6 b o q).stay (fun _ _ _ z=>z) (fun c' z=>by rw[a0j (a0l z hHx)];exact z) fun c' ys z=>by rw[a0j (a0l z hHx)];exact z
   refine a5i (X:=b0a X x) (b8e I6 x) hN hi (.inl hx) (v:=.ref x) rfl (fun s7 I7=>?_) (.inr hx)
   refine wpAny_mono (hs x pins s7 _ _ _ I7 cat.2) (fun f s8 h8=>?_) fun _ _ hf=>hf.elim
   have hcls:(X.env.scope.kind == .class || (X.env.scope.kind == .module && X.env.locals != X.env.globals))=false:=by rw[I.ok.kind];rfl
   cases f with
   | ret v=>
     obtain⟨v',σ8,H8,J8,rv,q8⟩:=h8
     obtain⟨m,hn,_⟩:=J8.loc
     refine wpAny_nameGoes hx hn hcls fun h' m' hn' hsb=>?_
     exact⟨v',_,H8,b7c (ofSuite I.ok.hd J8) hn' hsb,rv,q8⟩
   | next=>obtain⟨_,_,_,q8⟩:=h8;exact q8.elim
   | brk=>obtain⟨_,_,_,q8⟩:=h8;exact q8.elim
   | cont=>obtain⟨_,_,_,q8⟩:=h8;exact q8.elim
 refine wpAny_mono (hb _ _ Ex hp pins s σ H D (toTry I _) hbd) (fun f s1 h1=>?_) fun _ _ h=>h
 cases f with
 | next=>obtain⟨σ',H',J,d⟩:=h1;exact wpAny_execs_nil ⟨σ',H',b6x J,d⟩
 | brk=>obtain⟨σ',H',J,d⟩:=h1;exact⟨σ',H',b6x J,d⟩
 | cont=>obtain⟨σ',H',J,d⟩:=h1;exact⟨σ',H',b6x J,d⟩
 | ret v=>obtain⟨v',σ',H',J,r,d⟩:=h1;exact⟨v',σ',H',b6x J,r,d⟩
end
end Cv
namespace Cv
open PySem PySem.Spec PyProof.Rows L2
structure XNot(K:c2f)(C:Addr):Prop where
 hg:c3l K (.ref C) "__getattribute__" = some (some (.builtin "BaseException.__getattribute__"))
 hk:c3l K (.ref C) "__getattr__" = some none
 hd:(c7m K C).isSome=true
 ha:c3l K (.ref C) "__class__" = some (some (.builtin "object.__class__"))
 hn:PySem.W.specialIn K (.builtin "object.__class__") "__get__" = some (some (.builtin "getset_descriptor.__get__"))
 ht:PySem.W.takesIn K (.builtin "object.__class__")=some true
 hm:PySem.W.mroIn K C (.type "object")=some true
 hb:PySem.W.mroIn K C (.type "BaseException")=some true
theorem exc_cls{K:c2f}{x C:Addr}{prog:Program}{w:World}{A:Around}{E:Value→Shared→Prop}{s:Shared}{o:Obj}{Q:Option Value→Shared→Prop}(n:XNot K C)(KX:K.In s.heap)(I:PySem.W.InstAt s.heap x o C none)(hf:PySem.W.findObj K C none "__class__" = some (.bind (.builtin "getset_descriptor.__get__") (.builtin "object.__class__")))(h:Q (some (.ref C)) { s with toks:=s.toks+1 }):wpAny (model prog w) A (getAttr? (.ref x) "__class__") Q E s:=by
 obtain⟨hh,g,d,t,os⟩:=s
 have L0:=I.type (M:=model prog w)
 have L1:=PySem.W.looks_findIn (M:=model prog w) KX n.hg
 have L2:=PySem.W.looks_findIn (M:=model prog w) KX n.hk
 have L3:=PySem.W.looks_find (M:=model prog w) KX I hf
 have L4:=PySem.W.looks_mroIn (M:=model prog w) KX n.hb
 have hx2:(Value.builtin "BaseException.__getattribute__" == Value.builtin "object.__getattribute__")=false:=by decide +kernel
 have hx1:(onTheHeap (Value.ref C) && Value.builtin "BaseException.__getattribute__" == Value.builtin "object.__getattribute__")=false:=by rw[hx2];rfl
 have hb:=F.excAttr_ValueError.ga.bind (.ref x)
 unfold getAttr? getAttrBy? getAttrBy
 refine wpAny_bind (wpAny_mkText (wpAny_bind (wpAny_attempt (wpAny_holding (wpAny_bind (L0.at (wpAny_bind (L1.at ?_))))))))
 dsimp only
 rw[hx1,if_neg c3d]
 unfold getAttrByItsOwn hookBefore
 refine wpAny_bind (L2.at ?_)
 refine wpAny_bind (wpAny_attempt (wpAny_holding ?_))
 unfold callGetattribute boundAndCalled
 rw[Bool.false_and,if_neg c3d,hb]
 refine wpAny_bind (wpAny_pure ?_)
 refine wpAny_call (codeAny_call_builtin F.excAttr_ValueError.ga.plain F.entry_bexc_ga ?_)
 have hk:builtinKind "BaseException.__getattribute__" = some .slot:=by decide +kernel
 have hsp:splitId "BaseException.__getattribute__" = some ("BaseException","__getattribute__"):=by decide +kernel
 have hz:=F.args_bexc_ga (.ref x) (.str "__class__" t)
 simp only[checkBuiltinCall,hk,hsp]
 refine wpAny_bind ?_
 unfold isInstance
 refine wpAny_bind (L0.at (L4.at ?_))
 repeat wp_step
 refine wpAny_loadPart I.at_ (wpAny_pure ?_)
 rw[I.cls]
 refine wpAny_bind (L3.at ?_)
 unfold Builtin.ObjectAttr.bindTo
 dsimp only
 refine wpAny_bind (wpAny_holding (wpAny_call (PySem.W.class_get (s:={ heap:=hh,gens:=g,drawn:=d,toks:=t+1,os:=os }) (ox:=o) (od:=none) KX I n.hm ?_)))
 refine wpAny_pure ?_
 exact PySem.W.handed_on rfl (wpAny_pure h)
def XAt(x C:Addr)(h:Heap):Prop:=∃ o vs,h.get? x=some o∧o.cls=.ref C∧o.data=.fields vs∧vs[2]?=some .none∧o.dict=none
theorem XAt.inst{x C:Addr}{h:Heap}(p:XAt x C h):∃ o,PySem.W.InstAt h x o C none:=by
 obtain⟨o,vs,a,b,c,_,d⟩:=p
 exact⟨o,a,b,by unfold PySem.W.notCls;rw[c],by rw[d];exact True.intro⟩
theorem b1q{K:c2f}{C:Addr}(h:(c7m K C).isSome=true):∃ c d cd sl,K.lookup C=some ⟨c,d,.cls cd,sl⟩:=by
 obtain⟨cd,hc⟩:=Option.isSome_iff_exists.mp h
 unfold c7m at hc
 split at hc
 · exact⟨_,_,_,_,by assumption⟩
 · cases hc
theorem kitx_exc{K:c2f}{x C:Addr}(n:XNot K C):PySem.W.KitX K (.ref x) (.ref C) (XAt x C) where
 ty:=fun _ _ _ p=>by obtain⟨o,I⟩:=p.inst;exact I.type
 it:=fun _ _ KX _=>by
   obtain⟨c,d,cd,sl,hk⟩:=b1q n.hd
   intro A' Q' E' s' kk q
   unfold isType loadHead
   exact wpAny_bind (wpAny_loadPart (kk _ _ (KX _ _ hk)) (wpAny_pure q))
 ne:=fun h tp dd its m sl KX e=>by
   obtain⟨c,d,cd,sl',hk⟩:=b1q n.hd
   refine Bool.eq_false_iff.mpr fun q=>?_
   cases Value.ref.inj (beq_iff_eq.mp q)
   cases (KX _ _ hk).symm.trans e
 ca:=fun {_ _ _ _ _ s} KX p q=>by
   obtain⟨o,I⟩:=p.inst
   obtain⟨c,d,cd,sl',hk⟩:=b1q n.hd
   have hf:PySem.W.findObj K C none "__class__" = some (.bind (.builtin "getset_descriptor.__get__") (.builtin "object.__class__")):=by
     have hc:c7m K C=some cd:=by unfold c7m;rw[hk]
     unfold PySem.W.findObj
     rw[hc,Option.bind_some,n.ha,Option.bind_some]
     simp[n.hn,n.ht]
   exact exc_cls n KX I hf q
section
variable {X:Cx}
def clsOf:V→Option Value
 | .ref a=>some (.ref a)
 | .ty n=>some (.type n)
 | _=>none
theorem c1m{y:V}{c v:Value}(e:clsOf y=some c)(r:RelV y v):v=c:=by
 cases y with
 | ref a=>cases e;exact r
 | ty n=>cases e;exact r
 | _=>cases e
theorem call_isx:a5g X (.builtin "isinstance") (fun xs H Q=>∃ x C y c b,xs=[.ref x,y]∧H x=some (ExcO x (.ref C))∧clsOf y=some c∧XNot X.K C∧c3m X.K (.ref C) c=some b∧Q (.bl b) H):=by
 intro pins s σ H xs us Q I r h
 obtain⟨x,C,y,c,b,rfl,hx,ry,n,e,q⟩:=h
 obtain⟨u,v,rfl,ru,rv⟩:=b0r r
 cases ru
 cases c1m ry rv
 have hO:XAt x C s.heap:=(I.hok x _ hx).1
 exact PySem.W.kia_one (kitx_exc n) I.kIn hO e (fun z=>nomatch z) fun tk=>⟨.bl b,H,I.tok tk,rfl,q⟩
end
end Cv
namespace Cv
open PySem PySem.Spec PyProof.Rows L2
theorem kit_self(K:c2f)(a:Addr):c3m K (.ref a) (.ref a)=some true:=by
 unfold c3m
 rw[if_pos (beq_self_eq_true _)]
end Cv
namespace Cv
open PySem PySem.Spec PyProof.Rows L2
abbrev a0h(X:Cx)(scope:Scope)(cl:List (Str×Addr))(Nc:List Str)(C:Addr)(s0:Shared)(H0:Hp)(fp:List Addr):Cx where
 prog:=X.prog
 w:=X.w
 K:=X.K
 mg:=X.mg
 base:=X.base
 A:=X.A
 N:=Nc
 s₀:=s0
 H₀:=H0
 env:=compEnvC scope cl C X.env
 outer:=X.stack
 stack:=X.stack
 ex:=fp
 fn:=fun _=>false
 calm:=X.calm
 pn:=[]
 xe:=fun _ _=>False
def capd(σ:L2.St)(ix:List Nat):L2.St:=ix.map fun j=>(σ[j]?).getD none
end Cv
namespace Cv
open PySem PySem.Spec PyProof.Rows L2
theorem a7f{env:Env}:∀ (names:List (Str×NameKind)) (acc:List (Str×Addr)),(∀ y∈names,y.2=.free→∃ c,env.cells.lookup y.1=some c)→
   ∃ cl,(forIn names acc fun (x:Str×NameKind) (r:List (Str×Addr))=>if (x.2 == NameKind.free)=true then (do let c ← cellOf env x.1;pure (ForInStep.yield ((x.1,c)::r))) else pure (ForInStep.yield r):Sem (List (Str×Addr)))=pure cl∧
     ((∀ y c,acc.lookup y=some c→env.cells.lookup y=some c)→∀ y c,cl.lookup y=some c→env.cells.lookup y=some c)∧
     (∀ y,(∃ c,acc.lookup y=some c)→∃ c,cl.lookup y=some c)∧∀ y∈names,y.2=.free→∃ c,cl.lookup y.1=some c
 | [],acc,_=>⟨acc,by simp,fun h=>h,fun _ h=>h,fun _ h=>nomatch h⟩
 | (n,k)::r,acc,h=>by
   rw[List.forIn_cons]
   by_cases hk:k=.free
   · subst hk
     obtain⟨c,hc⟩:=h (n,.free) (.head _) rfl
     obtain⟨cl,e,h1,h2,h3⟩:=a7f (env:=env) r ((n,c)::acc) fun y hy=>h y (.tail _ hy)
     refine⟨cl,?_,fun ha=>h1 fun y d hd=>?_,fun y hy=>h2 y ?_,fun y hy hf=>?_⟩
     · have ec:cellOf env n=pure c:=by
         unfold cellOf
         have hc':env.cells.lookup n=some c:=hc
         rw[hc']
       simp only[ec]
       exact e
     · rw[c4o] at hd
       by_cases hy:y == n
       · rw[hy] at hd
         cases hd
         rw[eq_of_beq hy];exact hc
       · rw[Bool.not_eq_true] at hy
         rw[hy] at hd
         exact ha y d hd
     · rw[c4o]
       by_cases hyn:y == n
       · rw[hyn];exact⟨_,rfl⟩
       · rw[Bool.not_eq_true] at hyn
         rw[hyn];exact hy
     · rcases c2x.mp hy with rfl | hy
       · exact h2 n ⟨c,by rw[c4o];simp⟩
       · exact h3 y hy hf
   · obtain⟨cl,e,h1,h2,h3⟩:=a7f (env:=env) r acc fun y hy=>h y (.tail _ hy)
     refine⟨cl,?_,h1,h2,fun y hy hf=>?_⟩
     · have hk':(k == NameKind.free)=false:=by
         cases k<;>first | rfl | exact absurd rfl hk
       simp only[hk']
       exact e
     · rcases c2x.mp hy with rfl | hy
       · exact absurd hf hk
       · exact h3 y hy hf
theorem a5o{scope:Scope}{env:Env}(h:∀ y∈scope.names,y.2=.free→∃ c,env.cells.lookup y.1=some c) :
   ∃ cl,closureFor scope env=pure cl∧(∀ y c,cl.lookup y=some c→env.cells.lookup y=some c)∧∀ y∈scope.names,y.2=.free→∃ c,cl.lookup y.1=some c:=by
 obtain⟨cl,e,h1,_,h3⟩:=a7f (env:=env) scope.names [] h
 refine⟨cl,?_,h1 (fun _ _ z=>nomatch z),h3⟩
 unfold closureFor
 have:=congrArg (fun (m:Sem (List (Str×Addr)))=>m >>= fun r=>pure r) e
 first
   | exact e
   | simpa using e
   | (simp only[bind_pure] at this ⊢;exact this)
theorem a1j{env:Env}:∀ {names:List (Str×NameKind)} {y:Str} {k:NameKind},(∀ z∈names,z.2≠.cell)→
   (names.map fun (n,k)=>if (k == NameKind.free && env.scope.kind == .function && env.kindOf n == some .cell) then (n,NameKind.cell) else (n,k)).lookup y=some k→(k=.cell∨k=.free)→(y,NameKind.free)∈names
 | [],_,_,_,h,_=>by simp at h
 | (n,q)::r,y,k,hc,h,hk=>by
   rw[c4u] at h
   by_cases hy:y == n
   · have e:y=n:=eq_of_beq hy
     subst e
     by_cases ht:(q == NameKind.free && env.scope.kind == .function && env.kindOf y == some .cell)=true
     · have:q=.free:=by
         simp only[c4k] at ht
         exact eq_of_beq ht.1.1
       rw[this];exact .head _
     · simp only[ht] at h
       rw[c4o] at h
       simp at h
       subst h
       rcases hk with rfl | rfl
       · exact absurd rfl (hc _ (.head _))
       · exact .head _
   · rw[Bool.not_eq_true] at hy
     refine .tail _ (a1j (env:=env) (fun z hz=>hc z (.tail _ hz)) ?_ hk)
     by_cases ht:(q == NameKind.free && env.scope.kind == .function && env.kindOf n == some .cell)=true
     · simp only[ht] at h
       rw[c4o] at h
       have h':=h
       (simp[hy] at h';simpa using h')
     · simp only[ht] at h
       rw[c4o] at h
       have h':=h
       (simp[hy] at h';simpa using h')
section
variable {prog:Program} {w:World} {A:Around} {R:Result→Shared→Prop} {s:Shared}
theorem a9w{elt target iter:Expr}{scope:Scope}{pos:Pos}{it acc:Value}{env:Env}(I:Nat→Shared→Prop)(turn:∀ n s,I n s→wpAny (model prog w) A (pyNext it) (fun r s₁=>match r with
     | none=>R (.ok .next) s₁
     | some v=>wpAny (model prog w) A (letOwnedTupleGo target it v) (fun _ s₁'=>wpAny (model prog w) A (assign target env v) (fun _ s₂=>wpAny (model prog w) A (eval elt env) (fun x s₃=>
         wpAny (model prog w) A (call (.builtin "list.append") [acc,x]) (fun _ s₄=>∃ m,m<n∧I m s₄) (notedBy (model prog w) A env fun e s'=>R (.error e) s') s₃)
         (notedBy (model prog w) A env fun e s'=>R (.error e) s') s₂) (notedBy (model prog w) A env fun e s'=>R (.error e) s') s₁') (notedBy (model prog w) A env fun e s'=>R (.error e) s') s₁) (notedBy (model prog w) A env fun e s'=>R (.error e) s') s)(n:Nat)(h:I n s) :
   codeAny (model prog w) A (.compLoop (.ListComp elt [⟨target,iter,[],0⟩] scope pos) 0 it acc env) R s:=by
 refine codeAny_loop rfl I (fun n s hI=>?_) n h
 show wpAny _ _ ((compTurn (.ListComp elt [⟨target,iter,[],0⟩] scope pos) 0 it acc env).onRaise (fun x=>do noteFrame x env;theTreesLotGoes x)) _ _ s
 refine wpAny_noted ?_
 rw[compTurn_list1]
 refine wpAny_bind (wpAny_standAt (wpAny_bind (wpAny_mono (turn n s hI) (fun r s₁ h₁=>?_) fun _ _ h'=>h')))
 cases r with
 | none=>exact wpAny_pure h₁
 | some v=>
   refine wpAny_bind (wpAny_mono h₁ (fun _ s₁' h₁'=>?_) fun _ _ h'=>h')
   exact wpAny_bind (wpAny_mono h₁' (fun _ s₂ h₂=>wpAny_bind (wpAny_bind (wpAny_mono h₂ (fun x s₃ h₃=>wpAny_bind (wpAny_mono h₃
     (fun _ s₄ h₄=>wpAny_pure (wpAny_pure ⟨rfl,h₄⟩)) fun _ _ h'=>h')) fun _ _ h'=>h'))) fun _ _ h'=>h')
end
def a5p(k:Nat)(J:It)(H1:Hp)(g:TG)(te:TE)(cs:L2.St)(Q:VK):Prop:=∀ D,H1 D=none→∃ W:Nat→Nat→List V→Hp→Prop,(∃ m,W 0 m [] (upd H1 D (.lst [])))∧
 ∀ i m ys H2,W i m ys H2→(J.stop i H2∧Q (.ref D) H2)∨(J.go i H2∧∀ x H',J.yld i H2 x H'→∀ own:L2.St,own.length=k→g x (own++cs) H' fun σ2 H4=>(∃ own':L2.St,own'.length=k∧σ2=own'++cs)∧
   te σ2 H4 fun v H3=>H3 D=some (.lst ys)∧ys.length<sizeLine∧∃ m',m' < m∧W (i+1) m' (ys++[v]) (upd H3 D (.lst (ys++[v]))))
def a8g(k:Nat)(wi:TI)(g:TG)(te:TE)(ix:List Nat):TE:=fun σ H Q=>wi σ H fun J H1=>a5p k J H1 g te (capd σ ix) Q
section
variable {X:Cx}
theorem b2v{tg elt iter:Expr}{os:List Str}{pos ipos:Pos}{scope:Scope}{wi:TI}{g:TG}{te:TE}{caps:List (Nat×Str)}{pins:List (Addr×Obj)}{s:Shared}{σ:L2.St}{H:Hp}{Q:VK}{use:Option (Value→Sem Unit)}{R:Value→Shared→Prop}(hi:PI X tg iter wi)(hg:∀ cl C s0 H0 fp,PG (a0h X scope cl (os++caps.map (·.2)) C s0 H0 fp) tg g)(he:∀ cl C s0 H0 fp,PE (a0h X scope cl (os++caps.map (·.2)) C s0 H0 fp) elt te)(hfree:∀ y∈scope.names,y.2=.free→X.env.kindOf y.1=some .cell)(hcap:∀ p∈caps,X.N[p.1]?=some p.2∧X.env.kindOf p.2=some .cell∧((relabel scope X.env).names.lookup p.2=some .cell∨(relabel scope X.env).names.lookup p.2=some .free))(hkind:scope.kind=.function)(hcell:∀ y∈scope.names,y.2≠.cell)(hnames:∀ y∈scope.names,y.2=.local→scope.names.lookup y.1=some .local)(hc:X.calm=true)(hfs:∀ v,foldedSetIterable iter X.env v=pure v)(hfin:∀ D C H5 s6 m6,Inv X pins σ H5 s6→s6.heap.Ns C m6→FpOk X pins H5 C→Q (.ref D) H5→compPost (model X.prog X.w) X.A X.xe use R (.ref D) C (.ok .next) s6)(I:Inv X pins σ H s)(h:a8g os.length wi g te (caps.map (·.1)) σ H Q) :
   wpAny (model X.prog X.w) X.A (comprehension (.ListComp elt [⟨tg,iter,[],0⟩] scope pos) scope X.env ipos (newList []) false (eval iter X.env) use) R X.xe s:=by
 obtain⟨cl,hclos,hcl,hin⟩:=a5o (scope:=scope) (env:=X.env) fun y hy hf=>I.ok.has y.1 (.inl (hfree y hy hf))
 have hhas:∀ y,((relabel scope X.env).names.lookup y=some .cell∨(relabel scope X.env).names.lookup y=some .free)→∃ c,cl.lookup y=some c:=fun y hy=>by
   rcases hy with hy | hy
   · exact hin (y,.free) (a1j (env:=X.env) hcell hy (.inl rfl)) rfl
   · exact hin (y,.free) (a1j (env:=X.env) hcell hy (.inr rfl)) rfl
 refine wpAny_comprehension_free (use:=use) rfl hfs hclos hkind hnames ?_
 refine thn (hi pins s σ H _ I h) fun v s1 h1=>thn h1 fun itv s2 h2=>?_
 obtain⟨it,fp,tn,J,H1,rfl,I2,T,st2,f2,rd⟩:=h2
 refine wpAny_newObj_type ?_ (by show 0≤sizeLine;decide)
 have hD:H1 s2.heap.objs.size=none:=I2.hok.fresh (c2o _)
 obtain⟨W,⟨m0,w0⟩,turn⟩:=rd s2.heap.objs.size hD
 generalize eD:s2.heap.objs.size=D at hD w0 turn
 have I3:Inv X pins σ (upd H1 D (.lst [])) { s2 with heap:=s2.heap.push { cls:=.type "list",data:=.seq ([]:List Value).toArray } }:=by
   subst eD
   exact I2.laid (t':=s2.toks) (fun b u e=>Heap.get?_push_of_some _ e) (c2o _) ⟨c4d _,[],0,.nil,Heap.get?_push_size _ rfl⟩
 generalize e3:({ s2 with heap:=s2.heap.push { cls:=.type "list",data:=.seq ([]:List Value).toArray } }:Shared)=s3 at I3
 have hs3:s3.heap.objs.size=D+1:=by rw[← e3,← eD];simp
 have k23:∀ b o,s2.heap.get? b=some o→s3.heap.get? b=some o:=fun b o e=>by rw[← e3];exact Heap.get?_push_of_some _ e
 refine wpAny_newFunctionEnv hcell (by intro y hy;simp at hy) (fun h4 hn4 hs4=>?_) hkind
 have k34:∀ b o,s3.heap.get? b=some o→h4.get? b=some o:=fun b o e=>(hs4.2 b (c3e (Heap.lt_size e))).trans (Heap.get?_push_of_some _ e)
 generalize eC:s3.heap.objs.size=C at hn4 hs4
 have hfpC:∀ b∈fp,b≠C:=fun b hb z=>by
   obtain⟨o,e,_⟩:=T.obj 0 _ st2 b hb
   have h1:=Heap.lt_size e
   rw[z,← eC,hs3,eD] at h1
   exact absurd h1 (Nat.not_lt.mpr (c6j D))
 have hfps:∀ b∈fp,b∉frs X.stack:=fun b hb z=>by
   rcases c2x.mp (I2.stkSub b z) with q | q
   · exact (f2 b hb).2.1 q
   · exact (f2 b hb).2.2.1 q
 have hfpD:∀ b∈fp,b≠D:=fun b hb z=>by
   obtain⟨o,e,_⟩:=T.obj 0 _ st2 b hb
   have h1:=Heap.lt_size e
   rw[z,eD] at h1
   exact c4n _ h1
 have okc:(a0h X scope cl (os++caps.map (·.2)) C s3 (upd H1 D (.lst [])) fp).Ok:=by
   refine⟨I3.ok.mod,hkind,I3.ok.glob,I3.ok.blt,c5t eC,fun y z c h1 h2=>I3.ok.inj y z c (hcl y c h1) (hcl z c h2),fun y hy=>hhas y hy,fun y c hf=>absurd hf c3d,I3.ok.hd,I3.ok.frames,.inl rfl,
     fun b hb=>⟨hfpC b hb,fun y c e=>(f2 b hb).2.2.2.2.1 y c (hcl y c e)⟩,I3.bs,c4g I3.ok.bsz I3.sz,fun b o e hb=>?_,fun b hb=>hfps b hb,I3.stack,I3.stkFree⟩
   rcases (f2 b hb).2.2.2.1 with z | z
   · exact I3.ok.noex b o e z
   · exact c4n _ (c3g (Heap.lt_size (I3.ok.bs b o e).1) z)
 have capS:(capd σ (caps.map (·.1))).length=caps.length:=by unfold capd;rw[c2h,c2h]
 have Ic:Inv (a0h X scope cl (os++caps.map (·.2)) C s3 (upd H1 D (.lst [])) fp) [] (c2n os.length none++capd σ (caps.map (·.1))) (upd H1 D (.lst [])) { s3 with heap:=h4,toks:=s3.toks+([]:List (Str×Value)).length }:=by
   refine⟨okc,rfl,I3.bare,Un.kept k34,⟨_,hn4,fun i y v e1 e2 e3'=>?_⟩,fun y c e=>?_,I3.hok.fresh (c5t eC),fun y c e=>I3.freeC y c (hcl y c e),fun p hp=>absurd hp (by simp),I3.hok.kept k34,?_⟩
   · by_cases hik:i<os.length
     · rw[c2v (by rw[c2r];exact hik),c4v] at e2
       split at e2<;>cases e2
     · have e1':(caps.map (·.2))[i - os.length]?=some y:=by
         have z:(os++caps.map (·.2))[i]?=some y:=e1
         rw[c2w (by omega)] at z
         exact z
       have e2':(capd σ (caps.map (·.1)))[i - os.length]?=some (some v):=by
         rw[c2w (by rw[c2r];omega),c2r] at e2
         exact e2
       generalize i - os.length=i at e1' e2'
       rw[c2p] at e1'
       unfold capd at e2'
       rw[c2p,c2p] at e2'
       cases q:caps[i]? with
       | none=>rw[q] at e1';cases e1'
       | some p=>
         rw[q] at e1' e2'
         have ey:p.2=y:=c2u.inj e1'
         have ev:(σ[p.1]?).getD none=some v:=c2u.inj e2'
         have es:σ[p.1]?=some (some v):=by
           cases z:σ[p.1]? with
           | none=>rw[z] at ev;cases ev
           | some w'=>rw[z] at ev;exact congrArg some ev
         obtain⟨hN,hk,hv⟩:=hcap p (c2m q)
         obtain⟨m,_,hl⟩:=I3.loc
         obtain⟨u,r,lk⟩:=hl p.1 p.2 v hN es (.inr (.inl hk))
         rw[ey] at hk hv lk
         refine⟨u,r,.inr ⟨hv,?_⟩⟩
         obtain⟨c,hc'⟩:=hhas y hv
         rcases lk with⟨z,_⟩ | ⟨_,c2,z,ic⟩
         · rw[hk] at z;cases z
         · have ec:=(hcl y c hc').symm.trans z
           cases ec
           obtain⟨o,ho,hd⟩:=ic
           exact⟨c,hc',o,k34 _ _ ho,hd⟩
   · obtain⟨v,o,ho,hd⟩:=I3.cell y c (hcl y c e)
     exact⟨v,o,k34 _ _ ho,hd⟩
   · show (c2n os.length (none:Option V)++capd σ (caps.map fun p=>p.1)).length=(os++caps.map fun p=>p.2).length
     rw[c2k,c2k,c2r,capS,c2h]
 have fpc:∀ H',(∀ b∈fp,H' b=none)→∀ b∈fp,FpOk (a0h X scope cl (os++caps.map (·.2)) C s3 (upd H1 D (.lst [])) fp) [] H' b:=fun H' hn b hb=>
   ⟨hn b hb,hfpC b hb,hfps b hb,.inl hb,fun y c e=>(f2 b hb).2.2.2.2.1 y c (hcl y c e),fun p hp=>absurd hp (by simp)⟩
 have st4:tn 0 h4:=T.keep _ _ _ (T.keep _ _ _ st2 fun b _ o e=>k23 b o e) fun b _ o e=>k34 b o e
 have fp0:∀ b∈fp,(upd H1 D (.lst [])) b=none:=fun b hb=>by rw[a0j (hfpD b hb)];exact (f2 b hb).1
 have loop:codeAny (model X.prog X.w) X.A (.compLoop (.ListComp elt [⟨tg,iter,[],0⟩] scope pos) 0 (.ref it) (.ref D) (compEnvC scope cl C X.env)) (compPost (model X.prog X.w) X.A X.xe use R (.ref D) C)
     { s3 with heap:=h4,toks:=s3.toks+([]:List (Str×Value)).length }:=by
   refine a9w (fun n s'=>∃ i ys own H',own.length=os.length∧Inv (a0h X scope cl (os++caps.map (·.2)) C s3 (upd H1 D (.lst [])) fp) [] (own++capd σ (caps.map (·.1))) H' s'∧tn i s'.heap∧(∀ b∈fp,H' b=none)∧W i n ys H') ?_ m0 ⟨0,[],c2n os.length none,_,c2r,Ic,st4,fp0,w0⟩
   rintro n s5 ⟨i,ys,own,H5,ho5,I5,st5,fr5,w5⟩
   rcases turn i n ys H5 w5 with⟨stop,qn⟩ | ⟨go,step⟩
   · refine thn (T.done (a0h X scope cl (os++caps.map (·.2)) C s3 (upd H1 D (.lst [])) fp) rfl rfl rfl hc i [] s5 _ H5 _ I5 (fpc H5 fr5) st5 stop) fun r s6 ⟨hr,I6⟩=>?_
     subst hr
     obtain⟨m6,hn6,_⟩:=I6.loc
     have hs':Heap.SameBut C s6.heap s6.heap:=⟨rfl,fun _ _=>rfl⟩
     generalize eh':s6.heap=h' at hs'
     have hs':Heap.SameBut C s6.heap h':=by rw[eh'];exact hs'
     have neC:∀ b o,s3.heap.get? b=some o→b≠C:=fun b o e=>c3e (eC ▸ Heap.lt_size e)
     have ns:∀ b o,s2.heap.get? b=some o→b≠D:=fun b o e=>c3e (eD ▸ Heap.lt_size e)
     have B:=I6.base
     have uu:Un (frs X.stack) fp H1 H5 s2.heap h':=by
       refine⟨fun b o e nn hb hf=>?_,fun b o e nn hb hf=>?_,fun b o e nn hf=>?_,fun b o e hf=>?_,fun b xs e=>?_,fun b o u' e=>?_,fun b ps e=>?_⟩
       · exact (hs'.2 b (neC b o (k23 b o e))).trans (B.keep b o (k23 b o e) (by show (upd H1 D _) b=none;rw[a0j (ns b o e)];exact nn) hb hf)
       · obtain⟨sl,z⟩:=B.slot b o (k23 b o e) (by show (upd H1 D _) b=none;rw[a0j (ns b o e)];exact nn) hb hf
         exact⟨sl,(hs'.2 b (neC b o (k23 b o e))).trans z⟩
       · exact B.free b o (k23 b o e) (by show (upd H1 D _) b=none;rw[a0j (ns b o e)];exact nn) hf
       · obtain⟨o',z⟩:=B.there b o (k23 b o e) hf
         exact⟨o',(hs'.2 b (neC b o (k23 b o e))).trans z⟩
       · exact B.tups b xs (by show (upd H1 D _) b=_;rw[a0j (a0l e hD)];exact e)
       · exact B.frzs b o u' (by show (upd H1 D _) b=_;rw[a0j (a0l e hD)];exact e)
       · exact B.tbls b ps (by show (upd H1 D _) b=_;rw[a0j (a0l e hD)];exact e)
     have hok':HOk X.prog X.w H5 h':=fun b o e=>by
       refine (I6.hok b o e).stay (fun c' u' hc' z=>(hs'.2 c' fun zz=>?_).trans z) (fun _ z=>z) fun _ _ z=>z
       have fr:H5 C=none:=I6.free
       rcases hc' with hc' | hc'
       · rw[← zz,hc',e] at fr;cases fr
       · rw[← zz,hc'] at fr;cases fr
     have ho6:s6.os=s2.os:=I6.os.trans (by show s3.os=s2.os;rw[← e3])
     subst eh'
     have hC2:s2.heap.objs.size≤C:=by rw[← eC,hs3,eD];exact c6j D
     exact hfin D C H5 s6 m6 (I2.call' (s':=s6) (ch:=fp) ho6 uu hok' I6.bare (fun b hb=>⟨(f2 b hb).2.2.2.1,(f2 b hb).2.1,(f2 b hb).2.2.2.2.1,(f2 b hb).2.2.2.2.2⟩)) hn6 (I2.fpOk hC2 I6.free) qn
   · refine thn (T.item (a0h X scope cl (os++caps.map (·.2)) C s3 (upd H1 D (.lst [])) fp) rfl rfl rfl hc i [] s5 _ H5 _ I5 (fpc H5 fr5) st5 go) fun r s6 ⟨u,hr,h6⟩=>?_
     subst hr
     refine (thn h6 fun _ s7 ⟨y,H7,I7,r7,y7,st7,fr7⟩=>?_)
     have I7':=I7.pinned (fpc H7 fr7) (T.obj _ _ st7)
     refine wpAny_mono (hg cl C s3 _ fp _ s7 _ H7 y u _ I7' r7 (step y H7 y7 own ho5)) (fun _ s8 ⟨σ8,H8,I8,⟨own',ho8,e8⟩,q8⟩=>?_) fun _ _ z=>z.elim
     subst e8
     refine wpAny_mono (he cl C s3 _ fp _ s8 _ H8 _ I8 q8) (fun xv s9 ⟨v9,H9,I9,r9,d9,l9,m9,lt9,w9⟩=>?_) fun _ _ z=>z.elim
     refine wpAny_mono (a2q (X:=(a0h X scope cl (os++caps.map (·.2)) C s3 (upd H1 D (.lst [])) fp)) _ s9 _ H9 (.ref D) [v9] (.ref D) [xv] (fun _ H10=>H10=upd H9 D (.lst (ys++[v9]))) I9 rfl (.cons r9 .nil) ⟨D,ys,v9,rfl,rfl,d9,l9,rfl⟩) (fun _ s10 ⟨_,H10,I10,_,e10⟩=>?_) fun _ _ z=>z.elim
     subst e10
     refine⟨m9,lt9,i+1,ys++[v9],own',_,ho8,I10.unpinned,T.keep _ _ _ st7 fun b hb o e=>(I10.pin (b,o) (c2j _ (c2j _ (a1f hb e)))).1,fun b hb=>?_,w9⟩
     obtain⟨o,e,_⟩:=T.obj _ _ st7 b hb
     exact (I10.pin (b,o) (c2j _ (c2j _ (a1f hb e)))).2.1
 exact codeAny_compStart_list loop (T.self _ 0 _ _ _ st4 loop)
theorem pe_compG{tg elt iter:Expr}{os:List Str}{pos:Pos}{scope:Scope}{wi:TI}{g:TG}{te:TE}{caps:List (Nat×Str)}(hi:PI X tg iter wi)(hg:∀ cl C s0 H0 fp,PG (a0h X scope cl (os++caps.map (·.2)) C s0 H0 fp) tg g)(he:∀ cl C s0 H0 fp,PE (a0h X scope cl (os++caps.map (·.2)) C s0 H0 fp) elt te)(hfree:∀ y∈scope.names,y.2=.free→X.env.kindOf y.1=some .cell)(hcap:∀ p∈caps,X.N[p.1]?=some p.2∧X.env.kindOf p.2=some .cell∧((relabel scope X.env).names.lookup p.2=some .cell∨(relabel scope X.env).names.lookup p.2=some .free))(hkind:scope.kind=.function)(hcell:∀ y∈scope.names,y.2≠.cell)(hnames:∀ y∈scope.names,y.2=.local→scope.names.lookup y.1=some .local)(hc:X.calm=true)(hfs:∀ v,foldedSetIterable iter X.env v=pure v) :
   PE X (.ListComp elt [⟨tg,iter,[],0⟩] scope pos) (a8g os.length wi g te (caps.map (·.1))):=by
 intro pins s σ H Q I h
 rw[eval_ListComp]
 refine b2v (Q:=Q) (use:=none) (R:=EP X pins σ Q) hi hg he hfree hcap hkind hcell hnames hc hfs (fun D C H5 s6 m6 I6 n6 f6 q6=>?_) I h
 refine⟨m6,n6,fun h' hs'=>⟨.ref D,H5,?_,rfl,q6⟩⟩
 exact I6.turned (t':=s6.toks) (fun b o hb e=>(hs'.2 b hb).trans e) f6.1 f6.2.1 f6.2.2.2.1 f6.2.2.2.2.1 f6.2.2.2.2.2
theorem ps_compG{tg elt iter:Expr}{os:List Str}{i:Nat}{y:Str}{py pos spos:Pos}{scope:Scope}{wi:TI}{g:TG}{te:TE}{caps:List (Nat×Str)}(hN:X.N.Nodup)(hy:X.N[i]?=some y)(hl:X.env.kindOf y=some .local)(hi:PI X tg iter wi)(hg:∀ cl C s0 H0 fp,PG (a0h X scope cl (os++caps.map (·.2)) C s0 H0 fp) tg g)(he:∀ cl C s0 H0 fp,PE (a0h X scope cl (os++caps.map (·.2)) C s0 H0 fp) elt te)(hfree:∀ y∈scope.names,y.2=.free→X.env.kindOf y.1=some .cell)(hcap:∀ p∈caps,X.N[p.1]?=some p.2∧X.env.kindOf p.2=some .cell∧((relabel scope X.env).names.lookup p.2=some .cell∨(relabel scope X.env).names.lookup p.2=some .free))(hkind:scope.kind=.function)(hcell:∀ y∈scope.names,y.2≠.cell)(hnames:∀ y∈scope.names,y.2=.local→scope.names.lookup y.1=some .local)(hc:X.calm=true)(hfs:∀ v,foldedSetIterable iter X.env v=pure v)(hsw:swapsWith (.ListComp elt [⟨tg,iter,[],0⟩] scope pos) (some (.Name y py)) spos.line X.env=pure true) :
   PS X (.Assign [.Name y py] (.ListComp elt [⟨tg,iter,[],0⟩] scope pos) spos) (tAsg (a8g os.length wi g te (caps.map (·.1))) (a3l i)):=by
 intro pins s σ H D I h
 rw[exec_Assign_Name_used _ _ _ _ hsw]
 refine wpAny_bind (wpAny_standAt (wpAny_bind ?_))
 show wpAny _ X.A (do let _ ← comprehension (.ListComp elt [⟨tg,iter,[],0⟩] scope pos) scope X.env _ (newList []) false (eval iter X.env) (some (assign (.Name y py) X.env))) _ _ s
 refine wpAny_bind (wpAny_mono (b2v (Q:=fun x H1=>a3l i x σ H1 D.nx) (use:=some (assign (.Name y py) X.env)) (R:=fun _ s'=>SP X pins D .next s') hi hg he hfree hcap hkind hcell hnames hc hfs (fun D' C H5 s6 m6 I6 n6 f6 q6=>?_) I h) (fun _ s' hq=>wpAny_pure (wpAny_pure hq)) fun _ _ e=>e)
 show wpAny _ X.A (assign (.Name y py) X.env (.ref D')) _ _ s6
 obtain⟨oC,es,ep,hoC,rC⟩:=n6
 have dC:∀ v,oC.data≠.cell v:=fun v z=>by
   first
     | (rw[rC.2.1] at z;cases z)
     | (obtain⟨_,hd,_⟩:=rC;rw[hd] at z;cases z)
     | (obtain⟨hd,_⟩:=rC;rw[hd] at z;cases z)
 have Ip:Inv X (pins++[(C,oC)]) σ H5 s6:=I6.pins_of fun p hp=>(c3n.mp hp).elim (fun z=>I6.pin p (c2j _ z)) fun z=>by
   have e:p=(C,oC):=by simpa using z
   subst e
   exact⟨hoC,f6.1,f6.2.1,f6.2.2.1,dC⟩
 refine wpAny_assign_Name (a5i Ip hN hy (.inl hl) (v:=.ref D') rfl (fun s7 I7=>?_) (.inr hl))
 have h7:=(I7.pin (C,oC) (c2j _ (c2j _ (by simp)))).1
 refine⟨m6,⟨oC,es,ep,h7,rC⟩,fun h' hs'=>⟨_,H5,?_,q6⟩⟩
 have I8:=I7.unpinned
 exact I8.turned (t':=s7.toks) (fun b o hb e=>(hs'.2 b hb).trans e) f6.1 f6.2.1 f6.2.2.2.1 f6.2.2.2.2.1 f6.2.2.2.2.2
end
end Cv
namespace Cv
open PySem PySem.Spec PyProof.Rows L2
def a3v(N:List Str)(sc scope:Scope)(caps:List (Nat×Str)):Bool:=
 decide (scope.kind=.function) && scope.names.all (fun y=>decide (y.2≠.cell) && (!decide (y.2=.free) || decide (sc.names.lookup y.1=some .cell)) && (!decide (y.2=.local) || decide (scope.names.lookup y.1=some .local))) &&
   caps.all fun p=>decide (N[p.1]?=some p.2) && decide (sc.names.lookup p.2=some .cell) && decide (scope.names.lookup p.2=some .free)
theorem a2x{env:Env}:∀ {names:List (Str×NameKind)} {y:Str},names.lookup y=some .free→
   (names.map fun (n,k)=>if (k == NameKind.free && env.scope.kind == .function && env.kindOf n == some .cell) then (n,NameKind.cell) else (n,k)).lookup y=some .cell∨
   (names.map fun (n,k)=>if (k == NameKind.free && env.scope.kind == .function && env.kindOf n == some .cell) then (n,NameKind.cell) else (n,k)).lookup y=some .free
 | [],_,h=>by simp at h
 | (n,q)::r,y,h=>by
   rw[c4o] at h
   rw[c4u]
   by_cases hy:y == n
   · rw[hy] at h
     cases h
     by_cases ht:(NameKind.free == NameKind.free && env.scope.kind == .function && env.kindOf n == some .cell)=true
     · left;simp only[ht];rw[c4o];simp[eq_of_beq hy]
     · right;simp only[ht];rw[c4o];simp[eq_of_beq hy]
   · rw[Bool.not_eq_true] at hy
     rw[hy] at h
     have ih:=a2x (env:=env) h
     by_cases ht:(q == NameKind.free && env.scope.kind == .function && env.kindOf n == some .cell)=true
     · simp only[ht];rw[c4o];simpa [hy] using ih
     · simp only[ht];rw[c4o];simpa [hy] using ih
section
variable {X:Cx}
theorem pe_compS{tg elt iter:Expr}{os:List Str}{pos:Pos}{scope:Scope}{wi:TI}{g:TG}{te:TE}{caps:List (Nat×Str)}(N:List Str)(sc:Scope)(hi:PI X tg iter wi)(hg:∀ cl C s0 H0 fp,PG (a0h X scope cl (os++caps.map (·.2)) C s0 H0 fp) tg g)(he:∀ cl C s0 H0 fp,PE (a0h X scope cl (os++caps.map (·.2)) C s0 H0 fp) elt te)(ok:a3v N sc scope caps=true)(hN:X.N=N:=by rfl)(hsc:X.env.scope=sc:=by rfl)(hc:X.calm=true:=by rfl)(hfs:∀ v,foldedSetIterable iter X.env v=pure v:=by intro _;rfl) :
   PE X (.ListComp elt [⟨tg,iter,[],0⟩] scope pos) (a8g os.length wi g te (caps.map (·.1))):=by
 subst hN hsc
 unfold a3v at ok
 simp only[c4k,c6g,decide_eq_true_eq,c7s,c6z,decide_eq_false_iff_not] at ok
 obtain⟨⟨h1,h2⟩,h3⟩:=ok
 refine pe_compG hi hg he (fun y hy hf=>?_) (fun p hp=>?_) h1 (fun y hy=>(h2 y hy).1.1) (fun y hy hl=>?_) hc hfs
 · rcases (h2 y hy).1.2 with z | z
   · exact absurd hf z
   · exact z
 · obtain⟨⟨a,b⟩,c⟩:=h3 p hp
   exact⟨a,b,a2x c⟩
 · rcases (h2 y hy).2 with z | z
   · exact absurd hl z
   · exact z
theorem ps_compS{tg elt iter:Expr}{os:List Str}{i:Nat}{y:Str}{py pos spos:Pos}{scope:Scope}{wi:TI}{g:TG}{te:TE}{caps:List (Nat×Str)}(N:List Str)(sc:Scope)(hNd:X.N.Nodup)(hy:X.N[i]?=some y)(hl:X.env.kindOf y=some .local)(hi:PI X tg iter wi)(hg:∀ cl C s0 H0 fp,PG (a0h X scope cl (os++caps.map (·.2)) C s0 H0 fp) tg g)(he:∀ cl C s0 H0 fp,PE (a0h X scope cl (os++caps.map (·.2)) C s0 H0 fp) elt te)(ok:a3v N sc scope caps=true)(hN:X.N=N:=by rfl)(hsc:X.env.scope=sc:=by rfl)(hc:X.calm=true:=by rfl)(hfs:∀ v,foldedSetIterable iter X.env v=pure v:=by intro _;rfl)(hsw:swapsWith (.ListComp elt [⟨tg,iter,[],0⟩] scope pos) (some (.Name y py)) spos.line X.env=pure true:=by rfl) :
   PS X (.Assign [.Name y py] (.ListComp elt [⟨tg,iter,[],0⟩] scope pos) spos) (tAsg (a8g os.length wi g te (caps.map (·.1))) (a3l i)):=by
 subst hN hsc
 unfold a3v at ok
 simp only[c4k,c6g,decide_eq_true_eq,c7s,c6z,decide_eq_false_iff_not] at ok
 obtain⟨⟨h1,h2⟩,h3⟩:=ok
 refine ps_compG hNd hy hl hi hg he (fun y hy hf=>?_) (fun p hp=>?_) h1 (fun y hy=>(h2 y hy).1.1) (fun y hy hl=>?_) hc hfs hsw
 · rcases (h2 y hy).1.2 with z | z
   · exact absurd hf z
   · exact z
 · obtain⟨⟨a,b⟩,c⟩:=h3 p hp
   exact⟨a,b,a2x c⟩
 · rcases (h2 y hy).2 with z | z
   · exact absurd hl z
   · exact z
end
def Tup(H H':Hp):Prop:=∀ b xs,H b=some (.tup xs)→H' b=some (.tup xs)
theorem _root_.L2.Same.tup{H H':Hp}(h:Same H H'):Tup H H':=fun b xs e=>h b _ e
theorem Tup.trans{H H1 H2:Hp}(a:Tup H H1)(b:Tup H1 H2):Tup H H2:=fun c xs e=>b c xs (a c xs e)
theorem Tup.lst{H:Hp}{D:Addr}{ys:List V}{o:HO}(h:H D=some (.lst ys)):Tup H (upd H D o):=fun b xs e=>by
 rw[a0j (fun z=>by rw[z,h] at e;cases e)];exact e
theorem ShV.tup{H H':Hp}{v:V}{q:Rat}(h:ShV H v q)(e:Tup H H'):ShV H' v q:=by
 obtain⟨a,rfl,h⟩:=h
 exact⟨a,rfl,e _ _ h⟩
def b3f(J:It)(H1:Hp)(n:Nat)(f:Nat→V):Prop:=∀ H2,Same H1 H2→∀ i,(i<n→J.go i H2∧∀ x H',J.yld i H2 x H'→H'=H2∧x=f i)∧(i=n→J.stop i H2)
def a9n(K:c2f)(J:It)(H1:Hp)(n:Nat)(f g:Nat→V):Prop:=∀ H2,Same H1 H2→∀ i,(i<n→J.go i H2∧∀ x H',J.yld i H2 x H'→Same H2 H'∧∃ a,x=.ref a∧SqT K H' a [f i,g i])∧(i=n→J.stop i H2)
theorem a3t(lo:Int)(n:Nat)(H1:Hp):b3f (Itr lo n) H1 n fun i=>.int (lo+i):=fun H2 _ i=>
 ⟨fun hi=>⟨hi,fun x H' y=>⟨y.1,y.2⟩⟩,fun e=>by subst e;exact c2o _⟩
theorem a4j{K:c2f}{a:Addr}{xs:List V}{H1:Hp}(h:SqL K H1 a xs):b3f (Itl K a) H1 xs.length fun i=>(xs[i]?).getD .non:=fun H2 s i=>
 ⟨fun hi=>⟨⟨xs,xs[i],s.seq h,by simp[hi]⟩,fun x H' y=>⟨y.1,by show x=(xs[i]?).getD .non;rw[y.2 xs (s.seq h)];rfl⟩⟩,fun e=>by subst e;exact⟨xs,s.seq h,c2o _⟩⟩
theorem a0v{n:Nat}(h:n≤100000):n<sizeLine:=Nat.lt_of_le_of_lt h (by rw[sizeLine_eq];decide)
section
variable {K:c2f} {J:It} {H1:Hp} {te:TE} {cs:L2.St} {Q:VK} {n:Nat}
theorem b2w{f:Nat→V}(hJ:b3f J H1 n f)(hn:n≤100000)(R:Nat→V→Hp→Prop)(hR:∀ i v H H',Tup H H'→R i v H→R i v H')(he:∀ i H2 (k:VK),i<n→Same H1 H2→(∀ v H3,Same H2 H3→R i v H3→k v H3)→te (some (f i)::cs) H2 k)(hq:∀ D ys H2,H1 D=none→Same H1 H2→H2 D=some (.lst ys)→ys.length=n→(∀ i v,ys[i]?=some v→R i v H2)→Q (.ref D) H2) :
   a5p 1 J H1 (a3l 0) te cs Q:=by
 intro D hD
 refine⟨fun i m ys H2=>m=n - i∧i≤n∧ys.length=i∧Same H1 H2∧H2 D=some (.lst ys)∧∀ j v,ys[j]?=some v→R j v H2,⟨n,by simp,c4d _,rfl,Same.new hD,a0d,fun j v e=>by simp at e⟩,?_⟩
 rintro i m ys H2 ⟨rfl,hi,hl,s2,d2,r2⟩
 by_cases hlt:i<n
 · refine .inr ⟨((hJ H2 s2 i).1 hlt).1,fun x H' y own ho=>?_⟩
   obtain⟨rfl,rfl⟩:=((hJ H2 s2 i).1 hlt).2 x H' y
   cases own with
   | nil=>cases ho
   | cons o1 r=>
     cases r with
     | cons _ _=>cases ho
     | nil=>
       refine⟨⟨[some (f i)],rfl,rfl⟩,he i _ _ hlt s2 fun v H3 s3 r3=>⟨s3 _ _ d2,a0v (by omega),n - (i+1),by omega,rfl,hlt,by rw[c2k,hl];rfl,fun b o e=>?_,a0d,fun j w e=>?_⟩⟩
       · rw[a0j (a0l e hD)];exact s3 _ _ (s2 _ _ e)
       · have t3:Tup H3 (upd H3 D (.lst (ys++[v]))):=Tup.lst (s3 _ _ d2)
         by_cases hj:j<ys.length
         · rw[c2v hj] at e
           exact hR _ _ _ _ (s3.tup.trans t3) (r2 j w e)
         · rw[c2w (by omega)] at e
           have hj0:j - ys.length=0:=by
             cases q:j - ys.length with
             | zero=>rfl
             | succ k=>rw[q] at e;simp at e
           rw[hj0] at e
           have e':v=w:=by simpa using e
           have hji:j=i:=by omega
           rw[← e',hji]
           exact hR _ _ _ _ t3 r3
 · have e:i=n:=by omega
   subst e
   exact .inl ⟨(hJ H2 s2 i).2 rfl,hq D ys H2 hD s2 d2 hl r2⟩
theorem comp2{f g:Nat→V}(hJ:a9n K J H1 n f g)(hn:n≤100000)(R:Nat→V→Hp→Prop)(hR:∀ i v H H',Tup H H'→R i v H→R i v H')(he:∀ i H2 (k:VK),i<n→Same H1 H2→(∀ v H3,Same H2 H3→R i v H3→k v H3)→te (some (f i)::some (g i)::cs) H2 k)(hq:∀ D ys H2,H1 D=none→Same H1 H2→H2 D=some (.lst ys)→ys.length=n→(∀ i v,ys[i]?=some v→R i v H2)→Q (.ref D) H2) :
   a5p 2 J H1 (gTup K 2 (a5s (a3l 0) (a5s (a3l 1) gNil))) te cs Q:=by
 intro D hD
 refine⟨fun i m ys H2=>m=n - i∧i≤n∧ys.length=i∧Same H1 H2∧H2 D=some (.lst ys)∧∀ j v,ys[j]?=some v→R j v H2,⟨n,by simp,c4d _,rfl,Same.new hD,a0d,fun j v e=>by simp at e⟩,?_⟩
 rintro i m ys H2 ⟨rfl,hi,hl,s2,d2,r2⟩
 by_cases hlt:i<n
 · refine .inr ⟨((hJ H2 s2 i).1 hlt).1,fun x H' y own ho=>?_⟩
   obtain⟨s2',a,rfl,ht⟩:=((hJ H2 s2 i).1 hlt).2 x H' y
   cases own with
   | nil=>cases ho
   | cons o1 r=>
     cases r with
     | nil=>cases ho
     | cons o2 r=>
       cases r with
       | cons _ _=>cases ho
       | nil=>
         refine⟨a,_,rfl,ht,rfl,_,_,rfl,_,_,rfl,rfl,⟨[some (f i),some (g i)],rfl,rfl⟩,he i _ _ hlt (s2.trans s2') fun v H3 s3 r3=>⟨s3 _ _ (s2' _ _ d2),a0v (by omega),n - (i+1),by omega,rfl,hlt,by rw[c2k,hl];rfl,fun b o e=>?_,a0d,fun j w e=>?_⟩⟩
         · rw[a0j (a0l e hD)];exact s3 _ _ (s2' _ _ (s2 _ _ e))
         · have t3:Tup H3 (upd H3 D (.lst (ys++[v]))):=Tup.lst (s3 _ _ (s2' _ _ d2))
           by_cases hj:j<ys.length
           · rw[c2v hj] at e
             exact hR _ _ _ _ ((s2'.trans s3).tup.trans t3) (r2 j w e)
           · rw[c2w (by omega)] at e
             have hj0:j - ys.length=0:=by
               cases q:j - ys.length with
               | zero=>rfl
               | succ k=>rw[q] at e;simp at e
             rw[hj0] at e
             have e':v=w:=by simpa using e
             have hji:j=i:=by omega
             rw[← e',hji]
             exact hR _ _ _ _ t3 r3
 · have e:i=n:=by omega
   subst e
   exact .inl ⟨(hJ H2 s2 i).2 rfl,hq D ys H2 hD s2 d2 hl r2⟩
end
section
variable {X:Cx}
theorem a0r(K:c2f)(h:X.K=K:=by rfl):IxR X (rIxL K):=by subst h;exact ix_list
theorem a1d(K:c2f)(h:X.K=K:=by rfl):IxR X (rIxT K):=by subst h;exact ix_tup
theorem a7t(K:c2f)(h:X.K=K:=by rfl):SlR X (rSlL K):=by subst h;exact sl_list
theorem b3p(K:c2f)(h:X.K=K:=by rfl):SlR X (rSlT K):=by subst h;exact sl_tup
theorem a6y(K:c2f)(hu:X.A.units+64<cLine)(h:X.K=K:=by rfl):OpR X (compareOp .Eq) (rEqD K):=by subst h;exact op_eqD hu
theorem op_neDK(K:c2f)(hu:X.A.units+64<cLine)(h:X.K=K:=by rfl):OpR X (compareOp .NotEq) (rNeD K):=by subst h;exact op_neD hu
theorem a2y(K:c2f)(h:X.K=K:=by rfl):a5g X (.builtin "len") (fun xs H Q=>∃ p ys,xs=[.ref p]∧(SqL K H p ys∨SqT K H p ys)∧Q (.int ys.length) H):=by subst h;exact b3a
theorem a6m(K:c2f)(h:X.K=K:=by rfl):OpR X (binaryOp .Add) (rCatT K):=by subst h;exact op_catT
theorem pg_tupK(K:c2f){es:List Expr}{k:Nat}{t:TGs}{n:Nat}{pos:Pos}(hc:X.calm=true)(h:PGs X es t)(hK:X.K=K:=by rfl)(hn:(assignEach es X.env).length=n:=by rfl)(hst:(assignEach es X.env).findIdx? (·.1)=none:=by rfl):PG X (.Tuple es k pos) (gTup K n t):=by subst hK;exact pg_tup hc h hn hst
end
end Cv
namespace Cv
open PySem PySem.Spec PyProof.Rows L2
section
variable {X:Cx}
def tBack(K:c2f)(te:TE)(ts:TO):TE:=fun σ H Q=>te σ H fun x H1=>ts σ H1 fun o H2=>o=some (-1)∧∃ (a:Addr) (xs:List V),x=.ref a∧SqL K H2 a xs∧∀ l,H2 l=none→Q (.ref l) (upd H2 l (.lst xs.reverse))
theorem b4a(K:c2f){e:Expr}{st:Expr}{te:TE}{ts:TO}{p2 pos:Pos}(he:PE X e te)(hs:PO X (some st) ts)(hK:X.K=K:=by rfl):PE X (.Subscript e (.Slice none none (some st) p2) pos) (tBack K te ts):=by
 subst hK
 intro pins s σ H Q I h
 refine Subscript_ (thn (he pins s σ H _ I h) fun v s1 ⟨x,H1,I1,r1,q1⟩=>?_)
 refine wpAny_Slice ?_
 rw[evalPart_none]
 refine wpAny_pure ?_
 refine wpAny_pure ?_
 refine thn (hs pins s1 σ H1 _ I1 q1) fun vs s3 ⟨o,H3,I3,pu,q3⟩=>?_
 obtain⟨rfl,a,xs,rfl,hq,q⟩:=q3
 cases r1
 have I4:Inv X pins σ H3 { s3 with heap:=s3.heap.push { cls:=.type "slice",data:=.fields #[.none,.none,vs] } }:=I3.kept (t':=s3.toks) fun b ob q=>Heap.get?_push_of_some _ q
 obtain⟨its,r,ht,hz⟩:=I4.list hq
 have hlen:=r.length
 have hg:wpAny (model X.prog X.w) X.A (getItem (.ref a) (.ref s3.heap.objs.size)) (EP X pins σ Q) X.xe { s3 with heap:=s3.heap.push { cls:=.type "slice",data:=.fields #[.none,.none,vs] } }:=by
   refine wpAny_getItem_list_slice ht.isList (Heap.IsSliceOf.new ..) .none .none pu (by decide) ?_ (by rw[c3b]<;>omega)
   rw[PySem.W.krv_pick]
   refine⟨.ref _,_,I4.laid (t':=s3.toks) (o:=.lst xs.reverse) (fun b ob q=>Heap.get?_push_of_some _ q) (c2o _) ?_,rfl,q _ (I4.hok.fresh (c2o _))⟩
   exact⟨by rw[c4y];exact hz,_,0,r.reverse,Heap.get?_push_size _ rfl⟩
 show wpAny (model X.prog X.w) X.A (subscriptTail e (.Slice none none (some st) p2) (.ref a) (.ref s3.heap.objs.size)) (EP X pins σ Q) X.xe { s3 with heap:=s3.heap.push { cls:=.type "slice",data:=.fields #[.none,.none,vs] } }
 exact tail_any (ops:=[.ref a,.ref s3.heap.objs.size]) ht.isList.typeIs slot_list_getitem.lookup hg (by with_unfolding_all rfl)
end
end Cv
namespace Cv
open PySem PySem.Spec PyProof.Rows L2
section
variable {X:Cx} {pins:List (Addr×Obj)} {σ:L2.St} {H:Hp} {s:Shared} {h':Heap}
theorem b1w{t':Nat}{ch:List Addr}{a:Addr}{o:HO}(I:Inv X pins σ H s)(hf:∀ b∈ch,FpOk X pins H b)(k:∀ b o,b∉ch→s.heap.get? b=some o→h'.get? b=some o)(ha:s.heap.objs.size≤a)(new:a5f X.prog X.w (upd H a o) h' a o):Inv X pins σ (upd H a o) { s with heap:=h',toks:=t' }:=by
 have hna:H a=none:=I.hok.fresh ha
 have nit:∀ b u,H b=some u→b∉ch:=fun b u e z=>by rw[(hf b z).1] at e;cases e
 have up:∀ b u,H b=some u→upd H a o b=some u:=fun b u e=>by rw[a0j (a0l e hna)];exact e
 refine I.step (g':=s.gens) (d':=s.drawn) (ch:=ch) (fun b hb=>⟨(hf b hb).2.2.2.1,(hf b hb).2.1,(hf b hb).2.2.2.2.1,(hf b hb).2.2.2.2.2⟩) (fun b o _ _ hc e _=>k b o hc e) (fun b o _ _ hc e _=>⟨o.slots,k b o hc e⟩) (fun b o _ e n=>?_)
   (fun b o hc e=>⟨o,k b o hc e⟩) (fun _ _ e=>up _ _ e) (fun _ _ _ e=>up _ _ e) (fun b ps e=>⟨#[],by rw[up _ _ e];simp⟩) (fun m hm=>?_) (fun b u e=>?_) I.bare
 · rw[a0j (fun z=>by rw[z] at e;exact absurd (Heap.lt_size e) (Nat.not_lt.mpr ha))];exact n
 · obtain⟨o,es,ep,ho,r⟩:=hm
   exact⟨o,es,ep,k _ o (fun z=>(hf _ z).2.1 rfl) ho,r⟩
 · by_cases hb:b=a
   · subst hb
     rw[a0d] at e
     cases e
     exact new
   · rw[a0j hb] at e
     refine (I.hok b u e).stay (fun c v hc q=>k c v ?_ q) (fun _ q=>up _ _ q) fun _ _ q=>up _ _ q
     rcases hc with z | z
     · rw[z];exact nit b u e
     · exact nit c _ z
theorem b8a{t':Nat}{ch:List Addr}(I:Inv X pins σ H s)(hf:∀ b∈ch,FpOk X pins H b)(k:∀ b o,b∉ch→s.heap.get? b=some o→h'.get? b=some o):Inv X pins σ H { s with heap:=h',toks:=t' }:=by
 have nit:∀ b u,H b=some u→b∉ch:=fun b u e z=>by rw[(hf b z).1] at e;cases e
 refine I.step (g':=s.gens) (d':=s.drawn) (ch:=ch) (fun b hb=>⟨(hf b hb).2.2.2.1,(hf b hb).2.1,(hf b hb).2.2.2.2.1,(hf b hb).2.2.2.2.2⟩) (fun b o _ _ hc e _=>k b o hc e) (fun b o _ _ hc e _=>⟨o.slots,k b o hc e⟩) (fun _ _ _ _ n=>n)
   (fun b o hc e=>⟨o,k b o hc e⟩) (fun _ _ e=>e) (fun _ _ _ e=>e) (fun b ps e=>⟨#[],by rw[e];simp⟩) (fun m hm=>?_) (fun b u e=>?_) I.bare
 · obtain⟨o,es,ep,ho,r⟩:=hm
   exact⟨o,es,ep,k _ o (fun z=>(hf _ z).2.1 rfl) ho,r⟩
 · refine (I.hok b u e).stay (fun c v hc q=>k c v ?_ q) (fun _ q=>q) fun _ _ q=>q
   rcases hc with z | z
   · rw[z];exact nit b u e
   · exact nit c _ z
end
def Itz(K:c2f)(l1 l2:Addr):It:=
 ⟨fun i H=>∃ xs ys x y,SqL K H l1 xs∧SqL K H l2 ys∧xs[i]?=some x∧ys[i]?=some y,
  fun i H v H'=>∃ T a b,v=.ref T∧H T=none∧H'=upd H T (.tup [a,b])∧(∀ xs,SqL K H l1 xs→xs[i]?=some a)∧∀ ys,SqL K H l2 ys→ys[i]?=some b,
  fun i H=>∃ xs ys,SqL K H l1 xs∧SqL K H l2 ys∧(xs[i]?=none∨ys[i]?=none)⟩
theorem turn_zip{P:Program}{w:World}{K:c2f}{elts:List Expr}{k0:Nat}{pos:Pos}{z TI TO i1 i2 l1 l2:Addr}(D:ZipApart z TI TO i1 i2 l1 l2):Turn P w K (.Tuple elts k0 pos) (Itz K l1 l2) [z,TI,TO,i1,i2] z
   (fun i h=>IsZip h z TI TO .none∧IsPair h TI (.ref i1) (.ref i2)∧(∃ a b,IsPair h TO a b)∧h.IsListIter i1 l1 i∧h.IsListIter i2 l2 i) where
 mem:=by simp
 obj:=fun i h st b hb=>by
   obtain⟨hz,hTI,⟨a,b',hTO⟩,⟨o1,e1,c1,d1⟩,⟨o2,e2,c2,d2⟩⟩:=st
   simp only[c2x,c3u,or_false] at hb
   rcases hb with rfl | rfl | rfl | rfl | rfl
   · exact⟨_,hz,fun v q=>by have q':Data.fields _=Data.cell v:=q;cases q'⟩
   · exact⟨_,hTI,fun v q=>by have q':Data.seq _ _=Data.cell v:=q;cases q'⟩
   · exact⟨_,hTO,fun v q=>by have q':Data.seq _ _=Data.cell v:=q;cases q'⟩
   · exact⟨_,e1,fun v q=>by rw[d1] at q;cases q⟩
   · exact⟨_,e2,fun v q=>by rw[d2] at q;cases q⟩
 keep:=fun i h h' st k=>by
   obtain⟨hz,hTI,⟨a,b,hTO⟩,h1,h2⟩:=st
   exact⟨k z (by simp) _ hz,k TI (by simp) _ hTI,⟨a,b,k TO (by simp) _ hTO⟩,h1.at fun o e=>k i1 (by simp) o e,h2.at fun o e=>k i2 (by simp) o e⟩
 item:=by
   intro X hP hw hK hc i pins s σ H E I hf st hg
   subst hP hw hK
   obtain⟨xs,ys,x,y,hq1,hq2,hx,hy⟩:=hg
   obtain⟨hz,hTI,⟨a,b,hTO⟩,h1,h2⟩:=st
   obtain⟨its1,rv1,p1,hz1⟩:=I.list hq1
   obtain⟨its2,rv2,p2,hz2⟩:=I.list hq2
   obtain⟨u1,hu1,ru1⟩:=rv1.get hx
   obtain⟨u2,hu2,ru2⟩:=rv2.get hy
   refine wpAny_pyNext_zip_item D hz hTI hTO h1 h2 p1.isList p2.isList (x:=u1) (y:=u2) (by simpa using hu1) (by simpa using hu2) fun h' a1 a2 a3 a4 a5 a6 a7=>?_
   refine⟨_,rfl,wpAny_letOwnedTupleGo_zip a1 fun h'' b1 b2=>?_⟩
   have hT:H s.heap.objs.size=none:=I.hok.fresh (c2o _)
   have neT:∀ {c o},s.heap.get? c=some o→c≠s.heap.objs.size:=fun e=>c3e (Heap.lt_size e)
   have kk:∀ b o,b∉[z,TI,TO,i1,i2]→s.heap.get? b=some o→h''.get? b=some o:=fun b o hb e=>by
     simp only[c2x,c3u,or_false,not_or] at hb
     exact b2.extBut b o hb.1 (a7 b o hb.1 hb.2.2.1 hb.2.2.2.1 hb.2.2.2.2 e)
   have tT:h''.get? s.heap.objs.size=some { cls:=.type "tuple",data:=.seq #[u1,u2] }:=b2.extBut _ _ (Ne.symm (neT hz)) a5
   have I1:=b1w (t':=s.toks) (a:=s.heap.objs.size) (o:=.tup [x,y]) (h':=h'') I hf kk (c2o _) ⟨by show 2≤sizeLine;decide,[u1,u2],.cons ru1 (.cons ru2 .nil),⟨_,tT,rfl,_,rfl⟩⟩
   refine⟨.ref s.heap.objs.size,_,I1,rfl,⟨s.heap.objs.size,x,y,rfl,hT,rfl,fun xs' hx'=>by rw[I.list_inj hx' hq1];exact hx,fun ys' hy'=>by rw[I.list_inj hy' hq2];exact hy⟩,?_,fun c hc=>?_⟩
   · exact⟨b1,b2.extBut _ _ D.TIz (a7 _ _ D.TIz D.TITO D.TIi1 D.TIi2 hTI),⟨_,_,b2.extBut _ _ D.TOz a2⟩,a3.extBut b2.extBut D.i1z,a4.extBut b2.extBut D.i2z⟩
   · have e0:=(hf c hc).1
     rw[a0j ?_]
     · exact e0
     · intro q
       obtain⟨o1,e1,_⟩:=h1
       obtain⟨o2,e2,_⟩:=h2
       simp only[c2x,c3u,or_false] at hc
       rcases hc with rfl | rfl | rfl | rfl | rfl
       · exact neT hz q
       · exact neT hTI q
       · exact neT hTO q
       · exact neT e1 q
       · exact neT e2 q
 done:=by
   intro X hP hw hK hc i pins s σ H E I hf st hg
   subst hP hw hK
   obtain⟨xs,ys,hq1,hq2,hend⟩:=hg
   obtain⟨hz,hTI,⟨a,b,hTO⟩,h1,h2⟩:=st
   obtain⟨its1,rv1,p1,hz1⟩:=I.list hq1
   obtain⟨its2,rv2,p2,hz2⟩:=I.list hq2
   refine wpAny_pyNext_zip_end (I.ok.hd hc) D hz hTI hTO h1 h2 p1.isList p2.isList (hend.imp (fun e=>by simpa using rv1.none_of e) fun e=>by simpa using rv2.none_of e) fun h' kk=>⟨rfl,b8a (t':=s.toks) I hf fun b o hb e=>?_⟩
   simp only[c2x,c3u,or_false,not_or] at hb
   exact kk b o hb.1 hb.2.2.1 hb.2.2.2.1 hb.2.2.2.2 e
 self:=fun _ _ _ _ _ st h=>wpAny_pyIter_zip st.1 h
section
variable {X:Cx}
def iZip(K:c2f)(ta:TA):TI:=fun σ H R=>ta σ H fun vs H1=>∃ l1 l2,vs=[.ref l1,.ref l2]∧(∃ xs,SqL K H1 l1 xs)∧(∃ ys,SqL K H1 l2 ys)∧R (Itz K l1 l2) H1
theorem pi_zip{a b:Expr}{ta:TA}{p pos ppos:Pos}{elts:List Expr}{k0:Nat}(hg:Gl X "zip")(hm:X.mg "zip" = none)(ha:PA X [a,b] ta)(he:starEach [a,b] X.env=(false,eval a X.env)::starEach [b] X.env:=by rfl)(hpl:(backTo pos (starEach [b] X.env)).any (·.1)=false:=by rfl):PI X (.Tuple elts k0 ppos) (.Call (.Name "zip" p) [a,b] [] pos) (iZip X.K ta):=by
 intro pins s σ H R I h
 refine wpAny_Call_Name_kw (a8x I hg hm boot_zip ?_ (by decide) (by decide))
 refine c5g (thn (ha pos pins s σ H _ I h) fun us s1 ⟨vs,H1,I1,r1,q1⟩=>?_) he hpl
 obtain⟨l1,l2,rfl,⟨xs,hq1⟩,⟨ys,hq2⟩,q⟩:=q1
 obtain⟨u1,u2,rfl,e1,e2⟩:=b0r r1
 cases e1;cases e2
 obtain⟨its1,rv1,p1,hz1⟩:=I1.list hq1
 obtain⟨its2,rv2,p2,hz2⟩:=I1.list hq2
 have a1:l1<s1.heap.objs.size:=by obtain⟨_,e,_⟩:=p1.isList;exact Heap.lt_size e
 have a2:l2<s1.heap.objs.size:=by obtain⟨_,e,_⟩:=p2.isList;exact Heap.lt_size e
 refine call_zip_2 p1.isList p2.isList fun h' hz hTI hTO hi1 hi2 _ hk=>?_
 refine wpAny_pyIter_zip hz ?_
 refine⟨_,[s1.heap.objs.size+4,s1.heap.objs.size+2,s1.heap.objs.size+3,s1.heap.objs.size,s1.heap.objs.size+1],_,_,H1,rfl,I1.kept (t':=s1.toks) hk,turn_zip (zipApart_new a1 a2),⟨hz,hTI,⟨_,_,hTO⟩,hi1,hi2⟩,fun c hc=>?_,q⟩
 have hge:s1.heap.objs.size≤c:=by
   simp only[c2x,c3u,or_false] at hc
   rcases hc with rfl | rfl | rfl | rfl | rfl<;>omega
 exact I1.fpOk hge (I1.hok.fresh hge)
theorem b2h{K:c2f}{l1 l2:Addr}{xs ys:List V}{H1:Hp}(h1:SqL K H1 l1 xs)(h2:SqL K H1 l2 ys):a9n K (Itz K l1 l2) H1 (min xs.length ys.length) (fun i=>(xs[i]?).getD .non) (fun i=>(ys[i]?).getD .non):=fun H2 s i=>by
 refine⟨fun hi=>⟨⟨xs,ys,xs[i]'(by omega (config:={})),ys[i]'(by omega (config:={})),s.seq h1,s.seq h2,by simp[show i<xs.length by omega],by simp[show i<ys.length by omega]⟩,fun x H' y=>?_⟩,fun e=>⟨xs,ys,s.seq h1,s.seq h2,?_⟩⟩
 · obtain⟨T,a,b,rfl,hT,rfl,e1,e2⟩:=y
   refine⟨Same.new hT,T,rfl,?_⟩
   show SqT K _ T [(xs[i]?).getD .non,(ys[i]?).getD .non]
   rw[e1 xs (s.seq h1),e2 ys (s.seq h2)]
   exact SqT.of a0d
 · rcases Nat.le_total xs.length ys.length with h | h
   · exact .inl (c3c (by omega))
   · exact .inr (c3c (by omega))
theorem c1w(bs:List Bool):(c4a bs.length).any (fun i=>(bs[i]?).getD false)=bs.any id:=by
 rw[c7r,List.any_eq_true,List.any_eq_true]
 constructor
 · rintro⟨i,hi,h⟩
   have hi':=c4t.mp hi
   exact⟨bs[i],c4c hi',by simpa [hi'] using h⟩
 · rintro⟨b,hb,h⟩
   obtain⟨i,hi,rfl⟩:=c3a hb
   exact⟨i,c4t.mpr hi,by simpa [hi] using h⟩
theorem b8y{bs:List Bool}{us:List Value}(r:Vals (bs.map V.bl) us):us=bs.map Value.bool:=by
 induction bs generalizing us with
 | nil=>cases r;rfl
 | cons b r' ih=>
   cases r with
   | cons p q=>rw[c4u,← ih q];cases p;rfl
end
end Cv
namespace Cv
open PySem PySem.Spec PyProof.Rows L2
section
set_option autoImplicit true
@[irreducible] def PEi(X:Cx)(e:Expr)(t:TE):Prop:=PE X e t
@[irreducible] def PAi(X:Cx)(e:List Expr)(t:TA):Prop:=PA X e t
@[irreducible] def PTi(X:Cx)(e:Expr)(t:TT):Prop:=PT X e t
@[irreducible] def PWi(X:Cx)(e:Expr)(t:TT):Prop:=PW X e t
@[irreducible] def PSi(X:Cx)(e:Stmt)(t:TS):Prop:=PS X e t
@[irreducible] def PSsi(X:Cx)(e:List Stmt)(t:TS):Prop:=PSs X e t
@[irreducible] def PGi(X:Cx)(e:Expr)(t:TG):Prop:=PG X e t
@[irreducible] def PGsi(X:Cx)(e:List Expr)(t:TGs):Prop:=PGs X e t
@[irreducible] def PIi(X:Cx)(tg e:Expr)(t:TI):Prop:=PI X tg e t
@[irreducible] def POi(X:Cx)(e:Option Expr)(t:TO):Prop:=PO X e t
theorem pvI(i:Nat){x:Str}{pos:Pos}(hN:X.N[i]?=some x:=by rfl)(hv:Vis X.env.scope x:=by first | exact Or.inl rfl | exact Or.inr (Or.inl rfl) | exact Or.inr (Or.inr rfl))(hd:(x == ("__debug__" : Str))=false:=by decide)(hcd:(x == ("__classdict__" : Str))=false:=by decide):PEi X (.Name x pos) (tVar i):=by with_unfolding_all exact pv (i:=i) (hN:=hN) (hv:=hv) (hd:=hd) (hcd:=hcd)
theorem a0c{i j pos}:PEi X (.Constant (.int i) j pos) (tC (.int i)):=by with_unfolding_all exact pe_int
theorem b2i{b j pos}:PEi X (.Constant (.bool b) j pos) (tC (.bl b)):=by with_unfolding_all exact pe_bl
theorem b3z{j pos}:PEi X (.Constant .none j pos) (tC .non):=by with_unfolding_all exact pe_non
theorem pe_strI{x j pos}:PEi X (.Constant (.str x) j pos) (tC (.str x)):=by with_unfolding_all exact pe_str
theorem a3h{x:Str}{v:V}{u:Value}{pos:Pos}(hg:Gl X x)(hm:X.mg x=some u)(r:RelV v u)(hd:(x == ("__debug__" : Str))=false:=by decide):PEi X (.Name x pos) (tC v):=by with_unfolding_all exact pe_glob (hg:=hg) (hm:=hm) (r:=r) (hd:=hd)
theorem pe_bltnI{x:Str}{v:V}{u:Value}{pos:Pos}(hg:Gl X x)(hm:X.mg x=none)(hv:bootBuiltins x=some u)(r:RelV v u)(hn:x ≠ "__name__":=by decide)(hd:(x == ("__debug__" : Str))=false:=by decide):PEi X (.Name x pos) (tC v):=by with_unfolding_all exact pe_bltn (hg:=hg) (hm:=hm) (hv:=hv) (r:=r) (hn:=hn) (hd:=hd)
theorem a0g{op:Operator}{r:R2}(ho:OpR X (binaryOp op) r)(ha:PEi X a ta)(hb:PEi X b tb):PEi X (.BinOp a op b pos) (tOp r ta tb):=by with_unfolding_all exact pe_op (ho:=ho) (ha:=ha) (hb:=hb)
theorem b9j{op:UnaryOp}{r:V→Hp→VK→Prop}(ho:UnR X (unaryOp op) r)(ha:PEi X a ta):PEi X (.UnaryOp op a pos) (tUn r ta):=by with_unfolding_all exact pe_un (ho:=ho) (ha:=ha)
theorem a7x{op:CmpOp}{r:R2}(ho:OpR X (compareOp op) r)(ha:PEi X a ta)(hb:PEi X b tb)(hm:behindInMarks op b=false):PEi X (.Compare a [op] [b] pos) (tOp r ta tb):=by with_unfolding_all exact pe_cmpR (ho:=ho) (ha:=ha) (hb:=hb) (hm:=hm)
theorem b1b{rest:List Expr}(ha:PEi X a ta)(hb:PEi X (.BoolOp .And (b::rest) pos) tb):PEi X (.BoolOp .And (a::b::rest) pos) (tAndV ta tb):=by with_unfolding_all exact pe_and (ha:=ha) (hb:=hb)
theorem b9k{op}{t:TE}(h:PEi X a t):PEi X (.BoolOp op [a] pos) t:=by with_unfolding_all exact pe_one (h:=h)
theorem pe_notI(ha:PEi X a ta):PEi X (.UnaryOp .Not a pos) (tNotV ta):=by with_unfolding_all exact pe_not (ha:=ha)
theorem b9l{c:Expr}(hc:PTi X c tA)(ha:PEi X a ta)(hb:PEi X b tb):PEi X (.IfExp c a b pos) (tIf tA ta tb):=by with_unfolding_all exact pe_ifExp (hc:=hc) (ha:=ha) (hb:=hb)
theorem a1c(D:a1e X.prog X.w X.K X.mg X.base CX k x ps sp)(hr:Room j X.A)(hx:a3k CX X E)(ha:PAi X (e::es) t)(hk:k≤j:=by decide)(hg:Gl X x:=by rfl)(hdb:(x == ("__debug__" : Str))=false:=by decide)(he:starEach (e::es) X.env=(false,eval e X.env)::starEach es X.env:=by rfl)(hpl:(backTo pos (starEach es X.env)).any (·.1)=false:=by rfl):PEi X (.Call (.Name x p) (e::es) [] pos) (tFn sp E t):=by with_unfolding_all exact pe_fn (D:=D) (hr:=hr) (hx:=hx) (ha:=ha) (hk:=hk) (hg:=hg) (hdb:=hdb) (he:=he) (hpl:=hpl)
theorem a0w{id:String}(hc:a5g X (.builtin id) r)(hg:Gl X x)(hm:X.mg x=none)(hv:bootBuiltins x=some (.builtin id))(ha:PAi X (e::es) t)(hn:x ≠ "__name__":=by decide)(hdb:(x == ("__debug__" : Str))=false:=by decide)(he:starEach (e::es) X.env=(false,eval e X.env)::starEach es X.env:=by rfl)(hpl:(backTo pos (starEach es X.env)).any (·.1)=false:=by rfl):PEi X (.Call (.Name x p) (e::es) [] pos) (tCB r t):=by with_unfolding_all exact pe_callB (hc:=hc) (hg:=hg) (hm:=hm) (hv:=hv) (ha:=ha) (hn:=hn) (hdb:=hdb) (he:=he) (hpl:=hpl)
theorem a2s(hc:a5g X (.type T) r)(hg:Gl X x)(hm:X.mg x=none)(hv:bootBuiltins x=some (.type T))(ha:PAi X (e::es) t)(hn:x ≠ "__name__":=by decide)(hdb:(x == ("__debug__" : Str))=false:=by decide)(he:starEach (e::es) X.env=(false,eval e X.env)::starEach es X.env:=by rfl)(hpl:(backTo pos (starEach es X.env)).any (·.1)=false:=by rfl):PEi X (.Call (.Name x p) (e::es) [] pos) (tCB r t):=by with_unfolding_all exact b9r (hc:=hc) (hg:=hg) (hm:=hm) (hv:=hv) (ha:=ha) (hn:=hn) (hdb:=hdb) (he:=he) (hpl:=hpl)
theorem a5u{id:String}(pa:PlainAttrs T)(slot:Slot T name id)(hty:typeOf (.builtin id)=pure (.type "method_descriptor"))(hm:MtR X id r)(ho:PEi X o to)(ha:PAi X (e::es) t)(hbase:attributeBase o name X.env (eval o X.env)=eval o X.env:=by rfl)(hfew:((backTo cpos (starEach (e::es) X.env)).all (fun x=>!x.1) && (backToKw cpos (keywordEach [] X.env)).all (fun x=>x.1.isSome)
 && decide ((e::es).length+([]:List Keyword).length+(if ([]:List Keyword).isEmpty then 0 else 1)<30))=true:=by rfl)(hline:(apos.endLine == cpos.line)=true:=by rfl)(hs:starEach (e::es) X.env=(false,eval e X.env)::starEach es X.env:=by rfl)(hplain:(backTo cpos (starEach es X.env)).any (·.1)=false:=by rfl):PEi X (.Call (.Attribute o name apos) (e::es) [] cpos) (tBM X.K T r to t):=by with_unfolding_all exact pe_bm (pa:=pa) (slot:=slot) (hty:=hty) (hm:=hm) (ho:=ho) (ha:=ha) (hbase:=hbase) (hfew:=hfew) (hline:=hline) (hs:=hs) (hplain:=hplain)
theorem a0n{r:R2}(hr:IxR X r)(ha:PEi X a ta)(hb:PEi X b tb)(hs:c2b b):PEi X (.Subscript a b pos) (tOp r ta tb):=by with_unfolding_all exact pe_ix (hr:=hr) (ha:=ha) (hb:=hb) (hs:=hs)
theorem a3u{lo hi:Option Expr}{r:V→Option Int→Option Int→Hp→VK→Prop}(hr:SlR X r)(he:PEi X e te)(hl:POi X lo tl)(hu:POi X hi th):PEi X (.Subscript e (.Slice lo hi none p2) pos) (tSl r te tl th):=by with_unfolding_all exact pe_slice (hr:=hr) (he:=he) (hl:=hl) (hu:=hu)
theorem a0t{x1}(h:PAi X es t):PEi X (.Tuple es x1 pos) (tTup t):=by with_unfolding_all exact pe_tup (h:=h)
theorem a1m(h:PAi X es t):PEi X (.List es pos) (tLst t):=by with_unfolding_all exact pe_lst (h:=h)
theorem a3j{tg elt iter:Expr}{os:List Str}{pos:Pos}{scope:Scope}{wi:TI}{g:TG}{te:TE}{caps:List (Nat×Str)}(N:List Str)(sc:Scope)(hi:PIi X tg iter wi)(hg:∀ cl C s0 H0 fp,PGi (a0h X scope cl (os++caps.map (·.2)) C s0 H0 fp) tg g)(he:∀ cl C s0 H0 fp,PEi (a0h X scope cl (os++caps.map (·.2)) C s0 H0 fp) elt te)(ok:a3v N sc scope caps=true)(hN:X.N=N:=by rfl)(hsc:X.env.scope=sc:=by rfl)(hc:X.calm=true:=by rfl)(hfs:∀ v,foldedSetIterable iter X.env v=pure v:=by intro _;rfl):PEi X (.ListComp elt [⟨tg,iter,[],0⟩] scope pos) (a8g os.length wi g te (caps.map (·.1))):=by with_unfolding_all exact pe_compS (N:=N) (sc:=sc) (hi:=hi) (hg:=hg) (he:=he) (ok:=ok) (hN:=hN) (hsc:=hsc) (hc:=hc) (hfs:=hfs)
theorem b2j(K:c2f){e:Expr}{st:Expr}{te:TE}{ts:TO}{p2 pos:Pos}(he:PEi X e te)(hs:POi X (some st) ts)(hK:X.K=K:=by rfl):PEi X (.Subscript e (.Slice none none (some st) p2) pos) (tBack K te ts):=by with_unfolding_all exact b4a (K:=K) (he:=he) (hs:=hs) (hK:=hK)
theorem a0b   : PAi X [] tNil:=by with_unfolding_all exact pa_nil
theorem a0a(ha:PEi X e te)(hr:PAi X es t)(hs:starEach (e::es) X.env=(false,eval e X.env)::starEach es X.env:=by rfl):PAi X (e::es) (tCons te t):=by with_unfolding_all exact pa_cons (ha:=ha) (hr:=hr) (hs:=hs)
theorem a1k{op:CmpOp}{r:R2}(ho:OpR X (compareOp op) r)(ha:PEi X a ta)(hb:PEi X b tb)(hm:behindInMarks op b=false):PTi X (.Compare a [op] [b] pos) (tTest (tOp r ta tb)):=by with_unfolding_all exact pt_cmpR (ho:=ho) (ha:=ha) (hb:=hb) (hm:=hm)
theorem b9b(ha:PTi X a tA):PTi X (.UnaryOp .Not a pos) (tNot tA):=by with_unfolding_all exact pt_not (ha:=ha)
theorem b3w{e:Expr}{t:TE}(h:PEi X e t)(he:∀ whole,isTrue e X.env whole=(do let v ← whole;standAt e.pos;holding [v] (truthy v)):=by intro _;rfl):PTi X e (tB t):=by with_unfolding_all exact pt_val (h:=h) (he:=he)
theorem PW_ptI{X:Cx}{e:Expr}{t:TT}(h:PWi X e t):PTi X e t:=by with_unfolding_all exact L2.PW.pt (h:=h)
theorem b5n(ha:PTi X a tA):PWi X (.BoolOp .And [a] pos) tA:=by with_unfolding_all exact pw_and1 (ha:=ha)
theorem b9a{rest:List Expr}(ha:PTi X a tA)(hb:PWi X (.BoolOp .And (b::rest) pos) tB'):PWi X (.BoolOp .And (a::b::rest) pos) (tAnd tA tB'):=by with_unfolding_all exact pw_and (ha:=ha) (hb:=hb)
theorem a2m   : PSsi X [] tNext:=by with_unfolding_all exact pss_nil
theorem a0f{st:Stmt}{rest:List Stmt}(h1:PSi X st t)(h2:PSsi X rest u):PSsi X (st::rest) (tSeq t u):=by with_unfolding_all exact pss_cons (h1:=h1) (h2:=h2)
theorem a0i{st:Stmt}(h1:PSi X st t):PSsi X [st] t:=by with_unfolding_all exact pss_one (h1:=h1)
theorem a3g(he:PEi X e te)(hs:swapsWith e none pos.line X.env=pure false:=by rfl):PSi X (.Expr e pos) (tDrop te):=by with_unfolding_all exact ps_expr (he:=he) (hs:=hs)
theorem a0z(he:PEi X e te):PSi X (.Return (some e) pos) (tRet te):=by with_unfolding_all exact ps_ret (he:=he)
theorem a3i{c:Expr}{a b:List Stmt}{tc:TT}(hc:PTi X c tc)(ha:PSsi X a t)(hb:PSsi X b u):PSi X (.If c a b pos) (tIfS tc t u):=by with_unfolding_all exact ps_if (hc:=hc) (ha:=ha) (hb:=hb)
theorem b9d{st:Stmt}  : PSi X st tNever:=by with_unfolding_all exact ps_never
theorem a4g{tg e:Expr}{te:TE}{g:TG}(he:PEi X e te)(hg:PGi X tg g)(hs:swapsWithSole [tg] e pos.line X.env=pure false:=by rfl)(hw:swappedStores [tg] e X.env=pure none:=by rfl)(h1:(assignEach [tg] X.env).map (·.2)=[assign tg X.env]:=by rfl):PSi X (.Assign [tg] e pos) (tAsg te g):=by with_unfolding_all exact ps_asg (he:=he) (hg:=hg) (hs:=hs) (hw:=hw) (h1:=h1)
theorem a0x{i:Nat}{x:Str}{e:Expr}{te:TE}{pos':Pos}(hN:X.N.Nodup)(hi:X.N[i]?=some x)(hx:Loc X.env.scope x)(he:PEi X e te)(hs:swapsWith e (some (.Name x pos')) pos.line X.env=pure false:=by rfl)(hf:X.fn x=true∨X.env.scope.names.lookup x=some .local:=by first | exact .inl rfl | exact .inr rfl | assumption):PSi X (.Assign [.Name x pos'] e pos) (tAsg te (a3l i)):=by with_unfolding_all exact ps_set (hN:=hN) (hi:=hi) (hx:=hx) (he:=he) (hs:=hs) (hf:=hf)
theorem a6d{i j:Nat}{x y:Str}{a b:Expr}{ta:TA}{px py pt:Pos}{kt k2 pt2}(hc:X.calm=true)(hN:X.N.Nodup)(hi:X.N[i]?=some x)(hj:X.N[j]?=some y)(hij:i≠j)(hx:X.env.scope.names.lookup x=some .local)(hy:X.env.scope.names.lookup y=some .local)(ha:PAi X [a,b] ta)(hw:swappedStores [.Tuple [.Name x px,.Name y py] kt pt] (.Tuple [a,b] k2 pt2) X.env=pure (some [x,y]))(hs:swapsWithSole [.Tuple [.Name x px,.Name y py] kt pt] (.Tuple [a,b] k2 pt2) pos.line X.env=pure false:=by rfl):PSi X (.Assign [.Tuple [.Name x px,.Name y py] kt pt] (.Tuple [a,b] k2 pt2) pos) (tPar i j ta):=by with_unfolding_all exact ps_par (hc:=hc) (hN:=hN) (hi:=hi) (hj:=hj) (hij:=hij) (hx:=hx) (hy:=hy) (ha:=ha) (hw:=hw) (hs:=hs)
theorem a6k{c:Expr}{body:List Stmt}{tc:TT}{tb:TS}(hp:PassesOwn (model X.prog X.w) X.A X.env X.xe)(hc:PTi X c tc)(hb:PSsi X body tb):PSi X (.While c body [] pos) (b4v tc tb):=by with_unfolding_all exact ps_while (hp:=hp) (hc:=hc) (hb:=hb)
theorem a4v{iter:Expr}{body:List Stmt}{wi:TI}{g:TG}{tb:TS}{pos:Pos}(hp:PassesOwn (model X.prog X.w) X.A X.env X.xe)(hc:X.calm=true)(hi:PIi X tg iter wi)(hg:PGi X tg g)(hb:PSsi X body tb)(hs:∀ x,foldedSetIterable iter X.env x=pure x:=by intro _;rfl):PSi X (.For tg iter body [] pos) (tFor wi g tb):=by with_unfolding_all exact ps_for (hp:=hp) (hc:=hc) (hi:=hi) (hg:=hg) (hb:=hb) (hs:=hs)
theorem a6l{tg elt iter:Expr}{os:List Str}{i:Nat}{y:Str}{py pos spos:Pos}{scope:Scope}{wi:TI}{g:TG}{te:TE}{caps:List (Nat×Str)}(N:List Str)(sc:Scope)(hNd:X.N.Nodup)(hy:X.N[i]?=some y)(hl:X.env.kindOf y=some .local)(hi:PIi X tg iter wi)(hg:∀ cl C s0 H0 fp,PGi (a0h X scope cl (os++caps.map (·.2)) C s0 H0 fp) tg g)(he:∀ cl C s0 H0 fp,PEi (a0h X scope cl (os++caps.map (·.2)) C s0 H0 fp) elt te)(ok:a3v N sc scope caps=true)(hN:X.N=N:=by rfl)(hsc:X.env.scope=sc:=by rfl)(hc:X.calm=true:=by rfl)(hfs:∀ v,foldedSetIterable iter X.env v=pure v:=by intro _;rfl)(hsw:swapsWith (.ListComp elt [⟨tg,iter,[],0⟩] scope pos) (some (.Name y py)) spos.line X.env=pure true:=by rfl):PSi X (.Assign [.Name y py] (.ListComp elt [⟨tg,iter,[],0⟩] scope pos) spos) (tAsg (a8g os.length wi g te (caps.map (·.1))) (a3l i)):=by with_unfolding_all exact ps_compS (N:=N) (sc:=sc) (hNd:=hNd) (hy:=hy) (hl:=hl) (hi:=hi) (hg:=hg) (he:=he) (ok:=ok) (hN:=hN) (hsc:=hsc) (hc:=hc) (hfs:=hfs) (hsw:=hsw)
theorem b9c(th:c2a X E)(c:XCls X.K X.mg x C)(ha:PAi X [e₀] ta)(hc:X.calm=true:=by rfl)(hg:Gl X x:=by rfl)(he:starEach [e₀] X.env=[(false,eval e₀ X.env)]:=by rfl)(hd:(x == ("__debug__" : Str))=false:=by decide):PSi X (.Raise (some (.Call (.Name x np) [e₀] [] cpos)) none pos) (tRaise E C ta):=by with_unfolding_all exact ps_raise (th:=th) (c:=c) (ha:=ha) (hc:=hc) (hg:=hg) (he:=he) (hd:=hd)
theorem ps_try1I{n:Nat}{nm c:Str}{SC:Addr}{body:List Stmt}{b0:Stmt}{suite:List Stmt}{np hpos pos:Pos}{tb:XK→TS}{ts:Addr→TS}(cb:X.mg c=some (.ref SC))(hN:X.N.Nodup)(hb:∀ xe pn Ex,a3k (CXx X.prog X.w) (tryX X xe pn) Ex→PSsi (tryX X xe pn) body (tb Ex))(hs:∀ x,PSsi (b0a X x) (b0::suite) (ts x))(hi:X.N[n]?=some nm:=by rfl)(hx:X.env.scope.names.lookup nm=some .local:=by rfl)(hg:Gl X c:=by rfl)(hst:X.stack=X.env::X.outer:=by rfl)(hfr:X.env.frame=some X.env.locals:=by rfl)(hd:(c == ("__debug__" : Str))=false:=by decide):PSi X (.Try body [.ExceptHandler (some (.Name c np)) (some nm) (b0::suite) hpos] [] [] pos) (tTry X.K n SC tb ts):=by with_unfolding_all exact ps_try1 (cb:=cb) (hN:=hN) (hb:=hb) (hs:=hs) (hi:=hi) (hx:=hx) (hg:=hg) (hst:=hst) (hfr:=hfr) (hd:=hd)
theorem a0k{i:Nat}{x:Str}(hN:X.N.Nodup)(hi:X.N[i]?=some x)(hx:Loc X.env.scope x)(hf:X.fn x=true∨X.env.scope.names.lookup x=some .local:=by first | exact .inl rfl | exact .inr rfl | assumption):PGi X (.Name x pos) (a3l i):=by with_unfolding_all exact pg_name (hN:=hN) (hi:=hi) (hx:=hx) (hf:=hf)
theorem a1s   : PGsi X [] gNil:=by with_unfolding_all exact pgs_nil
theorem a0m{e:Expr}{es:List Expr}{t:TG}{u:TGs}(h1:PGi X e t)(h2:PGsi X es u)(hs:(assignEach (e::es) X.env).map (·.2)=assign e X.env::(assignEach es X.env).map (·.2):=by rfl):PGsi X (e::es) (a5s t u):=by with_unfolding_all exact pgs_cons (h1:=h1) (h2:=h2) (hs:=hs)
theorem a1t(K:c2f){es:List Expr}{k:Nat}{t:TGs}{n:Nat}{pos:Pos}(hc:X.calm=true)(h:PGsi X es t)(hK:X.K=K:=by rfl)(hn:(assignEach es X.env).length=n:=by rfl)(hst:(assignEach es X.env).findIdx? (·.1)=none:=by rfl):PGi X (.Tuple es k pos) (gTup K n t):=by with_unfolding_all exact pg_tupK (K:=K) (hc:=hc) (h:=h) (hK:=hK) (hn:=hn) (hst:=hst)
theorem pi_listI{l:Expr}{tl:TE}(hl:PEi X l tl):PIi X tg l (iList X.K tl):=by with_unfolding_all exact pi_list (hl:=hl)
theorem pi_tupI{l:Expr}{tl:TE}(hl:PEi X l tl):PIi X tg l (iTup X.K tl):=by with_unfolding_all exact pi_tup (hl:=hl)
theorem a3f{a:Expr}{ta:TA}{p pos:Pos}(hg:Gl X "range")(hm:X.mg "range" = none)(ha:PAi X [a] ta)(hs:starEach [a] X.env=[(false,eval a X.env)]:=by rfl):PIi X tg (.Call (.Name "range" p) [a] [] pos) (iRng1 ta):=by with_unfolding_all exact b9i (hg:=hg) (hm:=hm) (ha:=ha) (hs:=hs)
theorem b6q{a b:Expr}{ta:TA}{p pos:Pos}(hg:Gl X "range")(hm:X.mg "range" = none)(ha:PAi X [a,b] ta)(hs:starEach [a,b] X.env=[(false,eval a X.env),(false,eval b X.env)]:=by rfl)(hs2:starEach [b] X.env=[(false,eval b X.env)]:=by rfl):PIi X tg (.Call (.Name "range" p) [a,b] [] pos) (iRng2 ta):=by with_unfolding_all exact b9h (hg:=hg) (hm:=hm) (ha:=ha) (hs:=hs) (hs2:=hs2)
theorem b9g{a b:Expr}{ta:TA}{p pos ppos:Pos}{elts:List Expr}{k0:Nat}(hg:Gl X "zip")(hm:X.mg "zip" = none)(ha:PAi X [a,b] ta)(he:starEach [a,b] X.env=(false,eval a X.env)::starEach [b] X.env:=by rfl)(hpl:(backTo pos (starEach [b] X.env)).any (·.1)=false:=by rfl):PIi X (.Tuple elts k0 ppos) (.Call (.Name "zip" p) [a,b] [] pos) (iZip X.K ta):=by with_unfolding_all exact pi_zip (hg:=hg) (hm:=hm) (ha:=ha) (he:=he) (hpl:=hpl)
theorem a4p   : POi X none b8g:=by with_unfolding_all exact po_none
theorem a4c(h:PEi X e te):POi X (some e) (tPart te):=by with_unfolding_all exact po_some (h:=h)
theorem a1i{P:Program}{w:World}{K:c2f}{mg:Str→Option Value}{base:Heap}{x:Str}{st:Stmt}{N ps:List Str}{k:Nat}{sp:Sp}(F:a0s K mg x st ps)(S:a1a N ps (a0e st))(len:∀ vs H Q E,sp vs H Q E→vs.length=ps.length)(hbody:∀ (f:Addr) (cdv:Value) (A:Around) (outer:List Env) (s:Shared) (H:Hp) (vs:List V) (Q:VK) (E:XK),Room k (A.deeper (envOfC x (a0e st) s.heap.objs.size f cdv))→sp vs H Q E→
 ∃ t,PSsi (cxOf CX0 P w K mg base N x (a0e st) f cdv A outer s H E).nox (a0p st) t∧t { nx:=fun _ H'=>Q .non H',rt:=Q } (a6s N vs) H):a1e P w K mg base CX0 (k+1) x ps sp:=by with_unfolding_all exact def_ok (F:=F) (S:=S) (len:=len) (hbody:=hbody)
theorem b6g{P:Program}{w:World}{K:c2f}{mg:Str→Option Value}{base:Heap}{x:Str}{st:Stmt}{N ps:List Str}{k:Nat}{sp:Sp}(F:a0s K mg x st ps)(S:a1a N ps (a0e st))(len:∀ vs H Q E,sp vs H Q E→vs.length=ps.length)(hbody:∀ (f:Addr) (cdv:Value) (A:Around) (outer:List Env) (s:Shared) (H:Hp) (vs:List V) (Q:VK) (E:XK),Room k (A.deeper (envOfC x (a0e st) s.heap.objs.size f cdv))→sp vs H Q E→
 ∃ t,PSsi (cxOf (CXx P w) P w K mg base N x (a0e st) f cdv A outer s H E) (a0p st) t∧t { nx:=fun _ H'=>Q .non H',rt:=Q } (a6s N vs) H):a1e P w K mg base (CXx P w) (k+1) x ps sp:=by with_unfolding_all exact def_okX (F:=F) (S:=S) (len:=len) (hbody:=hbody)
end
end Cv
namespace Cv
open PySem PySem.Spec PyProof.Rows L2
theorem b4l:entryFor table "proto.unchain" = some Builtin.«proto.unchain»:=entryFor_of_fast (by kernel_rfl)
section
variable {prog:Program} {w:World} {A:Around} {E:Value→Shared→Prop} {s:Shared}
theorem raiseH{x e C:Addr}{oe:Obj}{es:Array Value}{α:Type}{Q:α→Shared→Prop}(hh:A.handled=some (.ref x))(hx:XAt x C s.heap)(he:s.heap.get? e=some oe)(de:oe.data=.fields es)(d2:2<es.size)(hne:x≠e)(k:E (.ref e) { s with heap:=s.heap.update e (Obj.mapFields (·.setIfInBounds 2 (.ref x))) }):wpAny (model prog w) A (raiseNew (.ref e):Sem α) Q E s:=by
 obtain⟨o,vs,a,b,c,d,_⟩:=hx
 unfold raiseNew
 refine wpAny_bind (wpAny_handled ?_)
 rw[hh]
 dsimp only
 have nb:(Value.ref x != Value.ref e)=true:=by
   rw[bne_iff_ne];intro q;cases q;exact hne rfl
 rw[if_pos nb]
 refine wpAny_bind (wpAny_holding (wpAny_runValue (codeAny_builtin b4l ?_)))
 unfold Builtin.«proto.unchain»
 dsimp only
 refine wpAny_bind (wpAny_field a c d ?_)
 rw[if_pos (by decide)]
 refine wpAny_pure ?_
 refine wpAny_bind (show wpAny _ _ (setField (.ref e) 2 (.ref x)) _ _ _ from wpAny_setField he de d2 ?_)
 exact wpAny_throw k
theorem nextEndH{x C it l:Addr}{i:Nat}{items:Array Value}{Q:Option Value→Shared→Prop}(hh:A.handled=some (.ref x))(hx:XAt x C s.heap)(hxi:x≠it)(hit:s.heap.IsListIter it l i)(hl:s.heap.IsList l items)(hn:items[i]?=none)(hQ:∀ h',Heap.ExtBut it s.heap h'→Q none { s with heap:=h' }):wpAny (model prog w) A (pyNext (.ref it)) Q E s:=by
 obtain⟨o,ho,hc,hd⟩:=id hit
 obtain⟨ol,hol,_,nl,hdl⟩:=hl
 unfold pyNext
 refine wpAny_bind (wpAny_attempt (wpAny_callSpecial?_slot (name:=Str.ofString "__next__") hit.typeIs slot_listiter_next (wpAny_call_entry slot_listiter_next hit.typeIs entry_listiter_next ?_ (args_listiter_next _))))
 refine (show wpAny _ _ (field (.ref it) 0 >>= _) _ _ s from wpAny_bind (wpAny_field ho hd (x:=.ref l) rfl ?_))
 refine (show wpAny _ _ (if (Value.ref l == Value.none)=true then _ else _) _ _ s from ?_)
 rw[if_neg (by simp:¬ ((Value.ref l == Value.none)=true))]
 refine (show wpAny _ _ (field (.ref it) 1 >>= _) _ _ s from wpAny_bind (wpAny_field ho hd (x:=.int i 0) rfl ?_))
 refine (show wpAny _ _ (seqItems? (.ref l) >>= _) _ _ s from wpAny_bind (wpAny_seqItems hol hdl ?_))
 simp only[c5a,hn]
 refine wpAny_bind (wpAny_rule (wpAny_bind (wpAny_setField ho hd (by simp) ?_)))
 refine (show wpAny _ _ (newExc (.type "StopIteration") [] >>= _) _ _ _ from wpAny_bind ?_)
 simp only[newExc,newTuple]
 refine wpAny_bind (wpAny_newObj_type ?_ (by size_fits))
 refine wpAny_bind (m:=firstArgMember _ _) (wpAny_of_eq (a:=Value.none) (by first | rfl | (simp only[firstArgMember];rfl)) ?_)
 refine wpAny_newObj_type ?_ (by size_fits)
 generalize hg:s.heap.update it (Obj.mapFields (·.setIfInBounds 0 Value.none))=h1
 have x1:Heap.ExtBut it s.heap h1:=by subst hg;exact (Heap.SameBut.update ..).extBut
 generalize hg2:h1.push { cls:=.type "tuple",dict:=none,data:=.seq [].toArray }=h2
 have x2:Heap.ExtBut it s.heap h2:=by subst hg2;exact x1.push _
 have x3:=x2.push { cls:=.type "StopIteration",dict:=none,data:=.fields (#[.ref h1.objs.size,.none,.none,.none,.bool false,.none]++ownMembersOf (.type "StopIteration") []) }
 obtain⟨ox,vx,a,b,c,d,dn⟩:=hx
 have lx:x<h2.objs.size:=Heap.lt_size (x2 x ox hxi a)
 refine raiseH (A:=A.in1) (x:=x) (C:=C) (e:=h2.objs.size) hh ⟨ox,vx,x3 x ox hxi a,b,c,d,dn⟩ (Heap.get?_push_size _ rfl) rfl (by simp[ownMembersOf]) (c3e lx) ?_
 refine wpAny_bind (wpAny_isInstance (T := "StopIteration") (b:=true) ⟨_,Heap.get?_update_self _ (Heap.get?_push_size _ rfl) rfl,rfl⟩ isSubtype_stop ?_)
 refine wpAny_pure (hQ _ fun q oq nq eq=>?_)
 rw[Heap.get?_update_other _ _ (Nat.ne_of_gt (Heap.lt_size (x2 q oq nq eq)))]
 exact x3 q oq nq eq
theorem walksH{x C:Addr}(hh:A.handled=some (.ref x))(I ax:Addr)(hne:ax≠I)(hx:x≠I)(items:Array Value) :
   Walks prog w A I [I,ax,x] [I] items.size (fun i v=>items[i]?=some v) (fun i h=>(h.IsListIter I ax i∧h.IsList ax items)∧XAt x C h) where
 sub:=fun b hb=>by simp at hb;simp[hb]
 frame:=fun _ _ _ st hk=>⟨⟨st.1.1.at fun o e=>hk I (by simp) o e,st.1.2.at fun o e=>hk ax (by simp) o e⟩,by
   obtain⟨o,vs,a,r⟩:=st.2
   exact⟨o,vs,hk x (by simp) o a,r⟩⟩
 item:=fun i s Q E hi st hQ=>by
   refine wpAny_pyNext_list_item st.1.1 st.1.2 (x:=items[i]) (by simp[hi]) fun h' t1 t2=>hQ _ h' s.toks (by simp[hi]) ⟨⟨t1,st.1.2.extBut t2.extBut hne⟩,?_⟩ fun b o hb e=>t2.extBut b o (fun h=>hb (by simp[h])) e
   obtain⟨o,vs,a,r⟩:=st.2
   exact⟨o,vs,t2.extBut x o hx a,r⟩
 done:=fun s Q E st hQ=>nextEndH hh st.2 hx st.1.1 st.1.2 (by simp) fun h' t=>hQ h' s.toks fun b o hb e=>t b o (fun h=>hb (by simp[h])) e
 self:=fun _ _ _ _ st hQ=>wpAny_pyIter_listiter st.1.1 hQ
end
section
variable {X:Cx}
theorem c1p{x:Addr}(hh:X.A.handled=some (.ref x)):a5g X (.builtin "any") (fun xs H Q=>∃ (p:Addr) (bs:List Bool) (C:Addr),xs=[.ref p]∧SqL X.K H p (bs.map V.bl)∧H x=some (ExcO x (.ref C))∧Q (.bl (bs.any id)) H):=by
 intro pins s σ H xs us Q I r h
 obtain⟨p,bs,C,rfl,hq,hx,q⟩:=h
 obtain⟨u,rfl,ru⟩:=a5h r
 cases ru
 obtain⟨its,rv,pl,hz⟩:=I.list hq
 have e:=b8y rv
 subst e
 have hO:XAt x C s.heap:=(I.hok x _ hx).1
 have a1:p<s.heap.objs.size:=by obtain⟨_,e,_⟩:=pl.isList;exact Heap.lt_size e
 have a2:x<s.heap.objs.size:=by obtain⟨_,_,e,_⟩:=hO;exact Heap.lt_size e
 refine call_any_walk (wpAny_pyIter_list pl.isList ⟨_,_,_,_,_,_,fun i=>(bs[i]?).getD false,rfl,walksH (C:=C) (A:=X.A.in1) hh _ p (c3e a1) (c3e a2) _,⟨⟨⟨_,Heap.get?_push_size _ rfl,rfl,rfl⟩,Heap.IsList.push pl.isList _⟩,?_⟩,fun i v s' Q' E' hv hQ=>?_,fun h' tk hk=>?_⟩)
 · obtain⟨o,vs,a,r⟩:=hO
   exact⟨o,vs,Heap.get?_push_of_some _ a,r⟩
 · have hv':(bs.map Value.bool)[i]?=some v:=by simpa using hv
   have hQ:Q' ((bs[i]?).getD false) s':=hQ
   rw[c2p] at hv'
   cases eb:bs[i]? with
   | none=>rw[eb] at hv';cases hv'
   | some b=>
     rw[eb] at hv' hQ
     cases hv'
     exact wpAny_truthy_bool hQ
 · have ea:(c4a (bs.map Value.bool).toArray.size).any (fun i=>(bs[i]?).getD false)=bs.any id:=by
     rw[← c1w bs];simp
   rw[ea]
   refine⟨.bl _,H,I.kept (h':=h') (t':=tk) (fun b o eb=>hk b o ?_ (Heap.get?_push_of_some _ eb)),rfl,q⟩
   intro hm
   have:b=s.heap.objs.size:=by simpa using hm
   rw[this] at eb
   exact absurd (Heap.lt_size eb) (c4n _)
end
end Cv
namespace Cv
open PySem PySem.Spec PyProof.Rows L2
theorem cutI{X:Cx}{body:List Stmt}{D:Ends}{σ:L2.St}{H:Hp}(rest:List Stmt){t2:TS}(h2:PSsi X rest t2)(h1:∀ R,PSsi X rest R→R=t2→∃ t,PSsi X body t∧t D σ H):∃ t,PSsi X body t∧t D σ H:=h1 t2 h2 rfl
theorem uln0{α:Type}{P:List α→Prop}(h:P []):∀ us:List α,us.length=0→P us
 | [],_=>h
theorem ulnS{α:Type}{n:Nat}{P:List α→Prop}(h:∀ a,∀ us:List α,us.length=n→P (a::us)):∀ us:List α,us.length=n+1→P us
 | [],e=>nomatch e
 | a::us,e=>h a us (Nat.succ.inj e)
@[elab_as_elim] theorem uln1{α:Type}{P:List α→Prop}(h:∀ a,P [a])(us:List α)(hl:us.length=1):P us:=(ulnS fun a=>uln0 (h a)) us hl
@[elab_as_elim] theorem uln2{α:Type}{P:List α→Prop}(h:∀ a b,P [a,b])(us:List α)(hl:us.length=2):P us:=(ulnS fun a=>ulnS fun b=>uln0 (h a b)) us hl
@[elab_as_elim] theorem uln3{α:Type}{P:List α→Prop}(h:∀ a b c,P [a,b,c])(us:List α)(hl:us.length=3):P us:=(ulnS fun a=>ulnS fun b=>ulnS fun c=>uln0 (h a b c)) us hl
@[elab_as_elim] theorem uln4{α:Type}{P:List α→Prop}(h:∀ a b c d,P [a,b,c,d])(us:List α)(hl:us.length=4):P us:=(ulnS fun a=>ulnS fun b=>ulnS fun c=>ulnS fun d=>uln0 (h a b c d)) us hl
end Cv
namespace Cv
open PySem PySem.Spec PyProof.Rows L2
section
variable {X:Cx}
def tTrL(t:TE):TT:=fun σ H Q=>t σ H fun x H1=>∃ (a:Addr) (xs:List V),x=.ref a∧H1 a=some (.lst xs)∧Q (!xs.isEmpty) H1
theorem pt_lst{e:Expr}{t:TE}(h:PE X e t)(he:∀ whole,isTrue e X.env whole=(do let v ← whole;standAt e.pos;holding [v] (truthy v)):=by intro _;rfl):PT X e (tTrL t):=by
 intro pins s σ H Q I hw
 refine isTrue_plain (thn (h pins s σ H _ I hw) fun v s1 ⟨x,H1,I1,r1,q1⟩=>?_) (he _)
 obtain⟨a,xs,rfl,hH,q⟩:=q1
 cases r1
 obtain⟨z,its,n,r,hl,e⟩:=I1.lstM hH
 have hz:sizeLine<2^63:=by rw[sizeLine_eq];decide
 refine wpAny_truthy_list (items:=its.toArray) ⟨_,e,rfl,n,rfl⟩ (by rw[c3b];omega) ?_
 have eb:its.toArray.isEmpty=xs.isEmpty:=by
   rw[List.isEmpty_toArray]
   cases its with
   | nil=>cases xs with
     | nil=>rfl
     | cons _ _=>simp at hl
   | cons _ _=>cases xs with
     | nil=>simp at hl
     | cons _ _=>rfl
 rw[eb]
 exact⟨H1,I1.tok _,q⟩
theorem pt_lstI{e:Expr}{t:TE}(h:PEi X e t)(he:∀ whole,isTrue e X.env whole=(do let v ← whole;standAt e.pos;holding [v] (truthy v)):=by intro _;rfl):PTi X e (tTrL t):=by with_unfolding_all exact pt_lst (h:=h) (he:=he)
end
section
variable {K:c2f} {J:It} {H1:Hp} {te:TE} {cs:L2.St} {Q:VK} {n:Nat}
theorem comp22{fa ga:Nat→Addr}{x y u v:Nat→V}(hJ:a9n K J H1 n (fun i=>.ref (fa i)) (fun i=>.ref (ga i)))(hf:∀ i,i<n→SqT K H1 (fa i) [x i,y i])(hg:∀ i,i<n→SqT K H1 (ga i) [u i,v i])(hn:n≤100000)(R:Nat→V→Hp→Prop)(hR:∀ i v H H',Tup H H'→R i v H→R i v H')(he:∀ i H2 (k:VK),i<n→Same H1 H2→(∀ v H3,Same H2 H3→R i v H3→k v H3)→te (some (x i)::some (y i)::some (u i)::some (v i)::cs) H2 k)(hq:∀ D ys H2,H1 D=none→Same H1 H2→H2 D=some (.lst ys)→ys.length=n→(∀ i v,ys[i]?=some v→R i v H2)→Q (.ref D) H2) :
   a5p 4 J H1 (gTup K 2 (a5s (gTup K 2 (a5s (a3l 0) (a5s (a3l 1) gNil))) (a5s (gTup K 2 (a5s (a3l 2) (a5s (a3l 3) gNil))) gNil))) te cs Q:=by
 intro D hD
 refine⟨fun i m ys H2=>m=n - i∧i≤n∧ys.length=i∧Same H1 H2∧H2 D=some (.lst ys)∧∀ j v,ys[j]?=some v→R j v H2,⟨n,by simp,c4d _,rfl,Same.new hD,a0d,fun j v e=>by simp at e⟩,?_⟩
 rintro i m ys H2 ⟨rfl,hi,hl,s2,d2,r2⟩
 by_cases hlt:i<n
 · refine .inr ⟨((hJ H2 s2 i).1 hlt).1,fun x' H' y' own ho=>?_⟩
   obtain⟨s2',a,rfl,ht⟩:=((hJ H2 s2 i).1 hlt).2 x' H' y'
   obtain⟨o1,o2,o3,o4,rfl⟩ : ∃ o1 o2 o3 o4,own=[o1,o2,o3,o4]:=by
     match own,ho with
     | [o1,o2,o3,o4],_=>exact⟨o1,o2,o3,o4,rfl⟩
   refine⟨a,_,rfl,ht,rfl,_,_,rfl,fa i,_,rfl,SqT.same (s2.trans s2') (hf i hlt),rfl,_,_,rfl,_,_,rfl,rfl,_,_,rfl,ga i,_,rfl,SqT.same (s2.trans s2') (hg i hlt),rfl,_,_,rfl,_,_,rfl,rfl,rfl,⟨[some (x i),some (y i),some (u i),some (v i)],rfl,rfl⟩,he i _ _ hlt (s2.trans s2') fun v H3 s3 r3=>⟨s3 _ _ (s2' _ _ d2),a0v (by omega),n - (i+1),by omega,rfl,hlt,by rw[c2k,hl];rfl,fun b o e=>?_,a0d,fun j w e=>?_⟩⟩
   · rw[a0j (a0l e hD)];exact s3 _ _ (s2' _ _ (s2 _ _ e))
   · have t3:Tup H3 (upd H3 D (.lst (ys++[v]))):=Tup.lst (s3 _ _ (s2' _ _ d2))
     by_cases hj:j<ys.length
     · rw[c2v hj] at e
       exact hR _ _ _ _ ((s2'.trans s3).tup.trans t3) (r2 j w e)
     · rw[c2w (by omega)] at e
       have hj0:j - ys.length=0:=by
         cases q:j - ys.length with
         | zero=>rfl
         | succ k=>rw[q] at e;simp at e
       rw[hj0] at e
       have e':v=w:=by simpa using e
       have hji:j=i:=by omega
       rw[← e',hji]
       exact hR _ _ _ _ t3 r3
 · have e:i=n:=by omega
   subst e
   exact .inl ⟨(hJ H2 s2 i).2 rfl,hq D ys H2 hD s2 d2 hl r2⟩
end
end Cv
namespace Cv
open PySem PySem.Spec PyProof.Rows L2
theorem b1m(elt t1 i1 t2 i2:Expr)(scope:Scope)(pos:Pos)(it acc:Value)(env:Env) :
 compTurn (.ListComp elt [⟨t1,i1,[],0⟩,⟨t2,i2,[],0⟩] scope pos) 0 it acc env=(standAt i1.pos >>= fun _=>pyNext it >>= fun r=>match r with
   | none=>pure (.done .next)
   | some v=>letOwnedTupleGo t1 it v >>= fun _=>assign t1 env v >>= fun _=>
     eval i2 env >>= fun x=>standAt i2.pos >>= fun _=>foldedSetIterable i2 env x >>= fun x=>holding [x] (pyIter x) >>= fun it2=>
       runOwn (.compStart (.ListComp elt [⟨t1,i1,[],0⟩,⟨t2,i2,[],0⟩] scope pos) 1 it2 acc env) env >>= fun _=>
       again (.compLoop (.ListComp elt [⟨t1,i1,[],0⟩,⟨t2,i2,[],0⟩] scope pos) 0 it acc env)):=by rfl
theorem b1l(elt t1 i1 t2 i2:Expr)(scope:Scope)(pos:Pos)(it acc:Value)(env:Env) :
 compTurn (.ListComp elt [⟨t1,i1,[],0⟩,⟨t2,i2,[],0⟩] scope pos) 1 it acc env=(standAt i2.pos >>= fun _=>pyNext it >>= fun r=>match r with
   | none=>pure (.done .next)
   | some v=>letOwnedTupleGo t2 it v >>= fun _=>assign t2 env v >>= fun _=>
     (eval elt env >>= fun x=>call (.builtin "list.append") [acc,x] >>= fun _=>pure ()) >>= fun _=>
       again (.compLoop (.ListComp elt [⟨t1,i1,[],0⟩,⟨t2,i2,[],0⟩] scope pos) 1 it acc env)):=by rfl
section
variable {prog:Program} {w:World} {A:Around} {R:Result→Shared→Prop} {s:Shared}
theorem a9v{elt t1 i1 t2 i2:Expr}{scope:Scope}{pos:Pos}{it acc:Value}{env:Env}(h0:codeAny (model prog w) A (.compLoop (.ListComp elt [⟨t1,i1,[],0⟩,⟨t2,i2,[],0⟩] scope pos) 1 it acc env) R s)(h:wpAny (model prog w) A (pyIter it) (fun it' s'=>codeAny (model prog w) A (.compLoop (.ListComp elt [⟨t1,i1,[],0⟩,⟨t2,i2,[],0⟩] scope pos) 1 it' acc env) R s')
     (notedBy (model prog w) A env fun x s'=>R (.error x) s') s) :
   codeAny (model prog w) A (.compStart (.ListComp elt [⟨t1,i1,[],0⟩,⟨t2,i2,[],0⟩] scope pos) 1 it acc env) R s:=by
 refine codeAny_of_tree ?_
 show wpAny _ _ ((compStart (.ListComp elt [⟨t1,i1,[],0⟩,⟨t2,i2,[],0⟩] scope pos) 1 it acc env).onRaise (fun x=>do noteFrame x env;standAt theWindowsPlace)) _ _ s
 refine wpAny_notedAt ?_
 unfold compStart
 show wpAny _ _ (ask >>= _) _ _ s
 refine wpAny_bind (wpAny_askSetting (wpAny_ite ?_))
 split
 · first
     | exact wpAny_bind (wpAny_pure (wpAny_pure (And.intro rfl h0)))
     | exact wpAny_pure (And.intro rfl h0)
 · first
     | exact wpAny_bind (wpAny_rule (wpAny_bind (wpAny_standAt (wpAny_bind (wpAny_mono h (fun it' s' h'=>wpAny_pure (And.intro rfl h')) fun _ _ x=>x)))))
     | (refine wpAny_bind (wpAny_rule ?_);show wpAny _ _ (standAt i2.pos >>= _) _ _ s;exact wpAny_bind (wpAny_standAt (wpAny_bind (wpAny_mono h (fun it' s' h'=>wpAny_pure (And.intro rfl h')) fun _ _ x=>x))))
theorem b1n{elt t1 i1 t2 i2:Expr}{scope:Scope}{pos:Pos}{it acc:Value}{env:Env}(I:Nat→Shared→Prop)(turn:∀ n s,I n s→wpAny (model prog w) A (pyNext it) (fun r s₁=>match r with
     | none=>R (.ok .next) s₁
     | some v=>wpAny (model prog w) A (letOwnedTupleGo t2 it v) (fun _ s₁'=>wpAny (model prog w) A (assign t2 env v) (fun _ s₂=>wpAny (model prog w) A (eval elt env) (fun x s₃=>
         wpAny (model prog w) A (call (.builtin "list.append") [acc,x]) (fun _ s₄=>∃ m,m<n∧I m s₄) (notedBy (model prog w) A env fun e s'=>R (.error e) s') s₃)
         (notedBy (model prog w) A env fun e s'=>R (.error e) s') s₂) (notedBy (model prog w) A env fun e s'=>R (.error e) s') s₁') (notedBy (model prog w) A env fun e s'=>R (.error e) s') s₁) (notedBy (model prog w) A env fun e s'=>R (.error e) s') s)(n:Nat)(h:I n s) :
   codeAny (model prog w) A (.compLoop (.ListComp elt [⟨t1,i1,[],0⟩,⟨t2,i2,[],0⟩] scope pos) 1 it acc env) R s:=by
 refine codeAny_loop rfl I (fun n s hI=>?_) n h
 show wpAny _ _ ((compTurn (.ListComp elt [⟨t1,i1,[],0⟩,⟨t2,i2,[],0⟩] scope pos) 1 it acc env).onRaise (fun x=>do noteFrame x env;theTreesLotGoes x)) _ _ s
 refine wpAny_noted ?_
 rw[b1l]
 refine wpAny_bind (wpAny_standAt (wpAny_bind (wpAny_mono (turn n s hI) (fun r s₁ h₁=>?_) fun _ _ h'=>h')))
 cases r with
 | none=>exact wpAny_pure h₁
 | some v=>
   refine wpAny_bind (wpAny_mono h₁ (fun _ s₁' h₁'=>?_) fun _ _ h'=>h')
   exact wpAny_bind (wpAny_mono h₁' (fun _ s₂ h₂=>wpAny_bind (wpAny_bind (wpAny_mono h₂ (fun x s₃ h₃=>wpAny_bind (wpAny_mono h₃
     (fun _ s₄ h₄=>wpAny_pure (wpAny_pure ⟨rfl,h₄⟩)) fun _ _ h'=>h')) fun _ _ h'=>h'))) fun _ _ h'=>h')
theorem b1o{elt t1 i1 t2 i2:Expr}{scope:Scope}{pos:Pos}{it acc:Value}{env:Env}(I:Nat→Shared→Prop)(hfs:∀ v,foldedSetIterable i2 env v=pure v)(turn:∀ n s,I n s→wpAny (model prog w) A (pyNext it) (fun r s₁=>match r with
     | none=>R (.ok .next) s₁
     | some v=>wpAny (model prog w) A (letOwnedTupleGo t1 it v) (fun _ s₁'=>wpAny (model prog w) A (assign t1 env v) (fun _ s₂=>wpAny (model prog w) A (eval i2 env) (fun x s₃=>
         wpAny (model prog w) A (pyIter x) (fun it2 s₄=>codeAny (model prog w) A (.compStart (.ListComp elt [⟨t1,i1,[],0⟩,⟨t2,i2,[],0⟩] scope pos) 1 it2 acc env) (fun r s'=>match r with | .ok _=>∃ m,m<n∧I m s' | .error e=>cameBackBy (model prog w) A env (notedBy (model prog w) A env fun e s'=>R (.error e) s') e s') s₄) (notedBy (model prog w) A env fun e s'=>R (.error e) s') s₃)
         (notedBy (model prog w) A env fun e s'=>R (.error e) s') s₂) (notedBy (model prog w) A env fun e s'=>R (.error e) s') s₁') (notedBy (model prog w) A env fun e s'=>R (.error e) s') s₁) (notedBy (model prog w) A env fun e s'=>R (.error e) s') s)(n:Nat)(h:I n s) :
   codeAny (model prog w) A (.compLoop (.ListComp elt [⟨t1,i1,[],0⟩,⟨t2,i2,[],0⟩] scope pos) 0 it acc env) R s:=by
 refine codeAny_loop rfl I (fun n s hI=>?_) n h
 show wpAny _ _ ((compTurn (.ListComp elt [⟨t1,i1,[],0⟩,⟨t2,i2,[],0⟩] scope pos) 0 it acc env).onRaise (fun x=>do noteFrame x env;theTreesLotGoes x)) _ _ s
 refine wpAny_noted ?_
 rw[b1m]
 refine wpAny_bind (wpAny_standAt (wpAny_bind (wpAny_mono (turn n s hI) (fun r s₁ h₁=>?_) fun _ _ h'=>h')))
 cases r with
 | none=>exact wpAny_pure h₁
 | some v=>
   refine wpAny_bind (wpAny_mono h₁ (fun _ s₁' h₁'=>?_) fun _ _ h'=>h')
   refine wpAny_bind (wpAny_mono h₁' (fun _ s₂ h₂=>?_) fun _ _ h'=>h')
   refine wpAny_bind (wpAny_mono h₂ (fun x s₃ h₃=>?_) fun _ _ h'=>h')
   refine wpAny_bind (wpAny_standAt (wpAny_bind (wpAny_of_eq (hfs x) (wpAny_bind (wpAny_holding (wpAny_mono h₃ (fun it2 s₄ h₄=>?_) fun _ _ h'=>h'))))))
   refine wpAny_bind (wpAny_runOwn (codeAny_mono h₄ fun r s' h'=>?_))
   cases r with
   | ok f=>exact wpAny_pure ⟨rfl,h'⟩
   | error e=>exact h'
end
def b3i(k:Nat)(J:It)(H1:Hp)(g:TG)(wi2:TI)(g2:TG)(te:TE)(cs:L2.St)(Q:VK):Prop:=∀ D,H1 D=none→∃ W:Nat→Nat→List V→Hp→Prop,(∃ m,W 0 m [] (upd H1 D (.lst [])))∧
 ∀ i m ys H2,W i m ys H2→(J.stop i H2∧Q (.ref D) H2)∨(J.go i H2∧∀ x H',J.yld i H2 x H'→∀ own:L2.St,own.length=k→g x (own++cs) H' fun σ2 H4=>∃ own1:L2.St,own1.length=k∧σ2=own1++cs∧
   wi2 σ2 H4 fun J2 H5=>∃ W2:Nat→Nat→List V→L2.St→Hp→Prop,(∃ m2,W2 0 m2 ys own1 H5)∧
     ∀ j m2 ys2 own2 H6,W2 j m2 ys2 own2 H6→(J2.stop j H6∧∃ m',m' < m∧W (i+1) m' ys2 H6)∨(J2.go j H6∧∀ x2 H7,J2.yld j H6 x2 H7→own2.length=k→g2 x2 (own2++cs) H7 fun σ2 H4=>∃ own3:L2.St,own3.length=k∧σ2=own3++cs∧
       te σ2 H4 fun v H3=>H3 D=some (.lst ys2)∧ys2.length<sizeLine∧∃ m',m' < m2∧W2 (j+1) m' (ys2++[v]) own3 (upd H3 D (.lst (ys2++[v])))))
def b4y(k:Nat)(wi:TI)(g:TG)(wi2:TI)(g2:TG)(te:TE)(ix:List Nat):TE:=fun σ H Q=>wi σ H fun J H1=>b3i k J H1 g wi2 g2 te (capd σ ix) Q
section
variable {X:Cx}
theorem b7p{tg elt iter tg2 iter2:Expr}{os:List Str}{pos ipos:Pos}{scope:Scope}{wi wi2:TI}{g g2:TG}{te:TE}{caps:List (Nat×Str)}{pins:List (Addr×Obj)}{s:Shared}{σ:L2.St}{H:Hp}{Q:VK}{use:Option (Value→Sem Unit)}{R:Value→Shared→Prop}(hi:PI X tg iter wi)(hg:∀ cl C s0 H0 fp,PG (a0h X scope cl (os++caps.map (·.2)) C s0 H0 fp) tg g)(hi2:∀ cl C s0 H0 fp,PI (a0h X scope cl (os++caps.map (·.2)) C s0 H0 fp) tg2 iter2 wi2)(hg2:∀ cl C s0 H0 fp,PG (a0h X scope cl (os++caps.map (·.2)) C s0 H0 fp) tg2 g2)(he:∀ cl C s0 H0 fp,PE (a0h X scope cl (os++caps.map (·.2)) C s0 H0 fp) elt te)(hfree:∀ y∈scope.names,y.2=.free→X.env.kindOf y.1=some .cell)(hcap:∀ p∈caps,X.N[p.1]?=some p.2∧X.env.kindOf p.2=some .cell∧((relabel scope X.env).names.lookup p.2=some .cell∨(relabel scope X.env).names.lookup p.2=some .free))(hkind:scope.kind=.function)(hcell:∀ y∈scope.names,y.2≠.cell)(hnames:∀ y∈scope.names,y.2=.local→scope.names.lookup y.1=some .local)(hc:X.calm=true)(hfs:∀ v,foldedSetIterable iter X.env v=pure v)(hfs2:∀ cl C v,foldedSetIterable iter2 (compEnvC scope cl C X.env) v=pure v)(hfin:∀ D C H5 s6 m6,Inv X pins σ H5 s6→s6.heap.Ns C m6→FpOk X pins H5 C→Q (.ref D) H5→compPost (model X.prog X.w) X.A X.xe use R (.ref D) C (.ok .next) s6)(I:Inv X pins σ H s)(h:b4y os.length wi g wi2 g2 te (caps.map (·.1)) σ H Q) :
   wpAny (model X.prog X.w) X.A (comprehension (.ListComp elt [⟨tg,iter,[],0⟩,⟨tg2,iter2,[],0⟩] scope pos) scope X.env ipos (newList []) false (eval iter X.env) use) R X.xe s:=by
 obtain⟨cl,hclos,hcl,hin⟩:=a5o (scope:=scope) (env:=X.env) fun y hy hf=>I.ok.has y.1 (.inl (hfree y hy hf))
 have hhas:∀ y,((relabel scope X.env).names.lookup y=some .cell∨(relabel scope X.env).names.lookup y=some .free)→∃ c,cl.lookup y=some c:=fun y hy=>by
   rcases hy with hy | hy
   · exact hin (y,.free) (a1j (env:=X.env) hcell hy (.inl rfl)) rfl
   · exact hin (y,.free) (a1j (env:=X.env) hcell hy (.inr rfl)) rfl
 refine wpAny_comprehension_free (use:=use) rfl hfs hclos hkind hnames ?_
 refine thn (hi pins s σ H _ I h) fun v s1 h1=>thn h1 fun itv s2 h2=>?_
 obtain⟨it,fp,tn,J,H1,rfl,I2,T,st2,f2,rd⟩:=h2
 refine wpAny_newObj_type ?_ (by show 0≤sizeLine;decide)
 have hD:H1 s2.heap.objs.size=none:=I2.hok.fresh (c2o _)
 obtain⟨W,⟨m0,w0⟩,turn⟩:=rd s2.heap.objs.size hD
 generalize eD:s2.heap.objs.size=D at hD w0 turn
 have I3:Inv X pins σ (upd H1 D (.lst [])) { s2 with heap:=s2.heap.push { cls:=.type "list",data:=.seq ([]:List Value).toArray } }:=by
   subst eD
   exact I2.laid (t':=s2.toks) (fun b u e=>Heap.get?_push_of_some _ e) (c2o _) ⟨c4d _,[],0,.nil,Heap.get?_push_size _ rfl⟩
 generalize e3:({ s2 with heap:=s2.heap.push { cls:=.type "list",data:=.seq ([]:List Value).toArray } }:Shared)=s3 at I3
 have hs3:s3.heap.objs.size=D+1:=by rw[← e3,← eD];simp
 have k23:∀ b o,s2.heap.get? b=some o→s3.heap.get? b=some o:=fun b o e=>by rw[← e3];exact Heap.get?_push_of_some _ e
 refine wpAny_newFunctionEnv hcell (by intro y hy;simp at hy) (fun h4 hn4 hs4=>?_) hkind
 have k34:∀ b o,s3.heap.get? b=some o→h4.get? b=some o:=fun b o e=>(hs4.2 b (c3e (Heap.lt_size e))).trans (Heap.get?_push_of_some _ e)
 generalize eC:s3.heap.objs.size=C at hn4 hs4
 have hfpC:∀ b∈fp,b≠C:=fun b hb z=>by
   obtain⟨o,e,_⟩:=T.obj 0 _ st2 b hb
   have h1:=Heap.lt_size e
   rw[z,← eC,hs3,eD] at h1
   exact absurd h1 (Nat.not_lt.mpr (c6j D))
 have hfps:∀ b∈fp,b∉frs X.stack:=fun b hb z=>by
   rcases c2x.mp (I2.stkSub b z) with q | q
   · exact (f2 b hb).2.1 q
   · exact (f2 b hb).2.2.1 q
 have hfpD:∀ b∈fp,b≠D:=fun b hb z=>by
   obtain⟨o,e,_⟩:=T.obj 0 _ st2 b hb
   have h1:=Heap.lt_size e
   rw[z,eD] at h1
   exact c4n _ h1
 have okc:(a0h X scope cl (os++caps.map (·.2)) C s3 (upd H1 D (.lst [])) fp).Ok:=by
   refine⟨I3.ok.mod,hkind,I3.ok.glob,I3.ok.blt,c5t eC,fun y z c h1 h2=>I3.ok.inj y z c (hcl y c h1) (hcl z c h2),fun y hy=>hhas y hy,fun y c hf=>absurd hf c3d,I3.ok.hd,I3.ok.frames,.inl rfl,
     fun b hb=>⟨hfpC b hb,fun y c e=>(f2 b hb).2.2.2.2.1 y c (hcl y c e)⟩,I3.bs,c4g I3.ok.bsz I3.sz,fun b o e hb=>?_,fun b hb=>hfps b hb,I3.stack,I3.stkFree⟩
   rcases (f2 b hb).2.2.2.1 with z | z
   · exact I3.ok.noex b o e z
   · exact c4n _ (c3g (Heap.lt_size (I3.ok.bs b o e).1) z)
 have capS:(capd σ (caps.map (·.1))).length=caps.length:=by unfold capd;rw[c2h,c2h]
 have Ic:Inv (a0h X scope cl (os++caps.map (·.2)) C s3 (upd H1 D (.lst [])) fp) [] (c2n os.length none++capd σ (caps.map (·.1))) (upd H1 D (.lst [])) { s3 with heap:=h4,toks:=s3.toks+([]:List (Str×Value)).length }:=by
   refine⟨okc,rfl,I3.bare,Un.kept k34,⟨_,hn4,fun i y v e1 e2 e3'=>?_⟩,fun y c e=>?_,I3.hok.fresh (c5t eC),fun y c e=>I3.freeC y c (hcl y c e),fun p hp=>absurd hp (by simp),I3.hok.kept k34,?_⟩
   · by_cases hik:i<os.length
     · rw[c2v (by rw[c2r];exact hik),c4v] at e2
       split at e2<;>cases e2
     · have e1':(caps.map (·.2))[i - os.length]?=some y:=by
         have z:(os++caps.map (·.2))[i]?=some y:=e1
         rw[c2w (by omega)] at z
         exact z
       have e2':(capd σ (caps.map (·.1)))[i - os.length]?=some (some v):=by
         rw[c2w (by rw[c2r];omega),c2r] at e2
         exact e2
       generalize i - os.length=i at e1' e2'
       rw[c2p] at e1'
       unfold capd at e2'
       rw[c2p,c2p] at e2'
       cases q:caps[i]? with
       | none=>rw[q] at e1';cases e1'
       | some p=>
         rw[q] at e1' e2'
         have ey:p.2=y:=c2u.inj e1'
         have ev:(σ[p.1]?).getD none=some v:=c2u.inj e2'
         have es:σ[p.1]?=some (some v):=by
           cases z:σ[p.1]? with
           | none=>rw[z] at ev;cases ev
           | some w'=>rw[z] at ev;exact congrArg some ev
         obtain⟨hN,hk,hv⟩:=hcap p (c2m q)
         obtain⟨m,_,hl⟩:=I3.loc
         obtain⟨u,r,lk⟩:=hl p.1 p.2 v hN es (.inr (.inl hk))
         rw[ey] at hk hv lk
         refine⟨u,r,.inr ⟨hv,?_⟩⟩
         obtain⟨c,hc'⟩:=hhas y hv
         rcases lk with⟨z,_⟩ | ⟨_,c2,z,ic⟩
         · rw[hk] at z;cases z
         · have ec:=(hcl y c hc').symm.trans z
           cases ec
           obtain⟨o,ho,hd⟩:=ic
           exact⟨c,hc',o,k34 _ _ ho,hd⟩
   · obtain⟨v,o,ho,hd⟩:=I3.cell y c (hcl y c e)
     exact⟨v,o,k34 _ _ ho,hd⟩
   · show (c2n os.length (none:Option V)++capd σ (caps.map fun p=>p.1)).length=(os++caps.map fun p=>p.2).length
     rw[c2k,c2k,c2r,capS,c2h]
 have fpc:∀ H',(∀ b∈fp,H' b=none)→∀ b∈fp,FpOk (a0h X scope cl (os++caps.map (·.2)) C s3 (upd H1 D (.lst [])) fp) [] H' b:=fun H' hn b hb=>
   ⟨hn b hb,hfpC b hb,hfps b hb,.inl hb,fun y c e=>(f2 b hb).2.2.2.2.1 y c (hcl y c e),fun p hp=>absurd hp (by simp)⟩
 have st4:tn 0 h4:=T.keep _ _ _ (T.keep _ _ _ st2 fun b _ o e=>k23 b o e) fun b _ o e=>k34 b o e
 have fp0:∀ b∈fp,(upd H1 D (.lst [])) b=none:=fun b hb=>by rw[a0j (hfpD b hb)];exact (f2 b hb).1
 have loop:codeAny (model X.prog X.w) X.A (.compLoop (.ListComp elt [⟨tg,iter,[],0⟩,⟨tg2,iter2,[],0⟩] scope pos) 0 (.ref it) (.ref D) (compEnvC scope cl C X.env)) (compPost (model X.prog X.w) X.A X.xe use R (.ref D) C)
     { s3 with heap:=h4,toks:=s3.toks+([]:List (Str×Value)).length }:=by
   refine b1o (R:=compPost (model X.prog X.w) X.A X.xe use R (.ref D) C) (fun n s'=>∃ i ys own H',own.length=os.length∧Inv (a0h X scope cl (os++caps.map (·.2)) C s3 (upd H1 D (.lst [])) fp) [] (own++capd σ (caps.map (·.1))) H' s'∧tn i s'.heap∧(∀ b∈fp,H' b=none)∧W i n ys H') (hfs2 cl C) ?_ m0 ⟨0,[],c2n os.length none,_,c2r,Ic,st4,fp0,w0⟩
   rintro n s5 ⟨i,ys,own,H5,ho5,I5,st5,fr5,w5⟩
   rcases turn i n ys H5 w5 with⟨stop,qn⟩ | ⟨go,step⟩
   · refine thn (T.done (a0h X scope cl (os++caps.map (·.2)) C s3 (upd H1 D (.lst [])) fp) rfl rfl rfl hc i [] s5 _ H5 _ I5 (fpc H5 fr5) st5 stop) fun r s6 ⟨hr,I6⟩=>?_
     subst hr
     obtain⟨m6,hn6,_⟩:=I6.loc
     have hs':Heap.SameBut C s6.heap s6.heap:=⟨rfl,fun _ _=>rfl⟩
     generalize eh':s6.heap=h' at hs'
     have hs':Heap.SameBut C s6.heap h':=by rw[eh'];exact hs'
     have neC:∀ b o,s3.heap.get? b=some o→b≠C:=fun b o e=>c3e (eC ▸ Heap.lt_size e)
     have ns:∀ b o,s2.heap.get? b=some o→b≠D:=fun b o e=>c3e (eD ▸ Heap.lt_size e)
     have B:=I6.base
     have uu:Un (frs X.stack) fp H1 H5 s2.heap h':=by
       refine⟨fun b o e nn hb hf=>?_,fun b o e nn hb hf=>?_,fun b o e nn hf=>?_,fun b o e hf=>?_,fun b xs e=>?_,fun b o u' e=>?_,fun b ps e=>?_⟩
       · exact (hs'.2 b (neC b o (k23 b o e))).trans (B.keep b o (k23 b o e) (by show (upd H1 D _) b=none;rw[a0j (ns b o e)];exact nn) hb hf)
       · obtain⟨sl,z⟩:=B.slot b o (k23 b o e) (by show (upd H1 D _) b=none;rw[a0j (ns b o e)];exact nn) hb hf
         exact⟨sl,(hs'.2 b (neC b o (k23 b o e))).trans z⟩
       · exact B.free b o (k23 b o e) (by show (upd H1 D _) b=none;rw[a0j (ns b o e)];exact nn) hf
       · obtain⟨o',z⟩:=B.there b o (k23 b o e) hf
         exact⟨o',(hs'.2 b (neC b o (k23 b o e))).trans z⟩
       · exact B.tups b xs (by show (upd H1 D _) b=_;rw[a0j (a0l e hD)];exact e)
       · exact B.frzs b o u' (by show (upd H1 D _) b=_;rw[a0j (a0l e hD)];exact e)
       · exact B.tbls b ps (by show (upd H1 D _) b=_;rw[a0j (a0l e hD)];exact e)
     have hok':HOk X.prog X.w H5 h':=fun b o e=>by
       refine (I6.hok b o e).stay (fun c' u' hc' z=>(hs'.2 c' fun zz=>?_).trans z) (fun _ z=>z) fun _ _ z=>z
       have fr:H5 C=none:=I6.free
       rcases hc' with hc' | hc'
       · rw[← zz,hc',e] at fr;cases fr
       · rw[← zz,hc'] at fr;cases fr
     have ho6:s6.os=s2.os:=I6.os.trans (by show s3.os=s2.os;rw[← e3])
     subst eh'
     have hC2:s2.heap.objs.size≤C:=by rw[← eC,hs3,eD];exact c6j D
     exact hfin D C H5 s6 m6 (I2.call' (s':=s6) (ch:=fp) ho6 uu hok' I6.bare (fun b hb=>⟨(f2 b hb).2.2.2.1,(f2 b hb).2.1,(f2 b hb).2.2.2.2.1,(f2 b hb).2.2.2.2.2⟩)) hn6 (I2.fpOk hC2 I6.free) qn
   · refine thn (T.item (a0h X scope cl (os++caps.map (·.2)) C s3 (upd H1 D (.lst [])) fp) rfl rfl rfl hc i [] s5 _ H5 _ I5 (fpc H5 fr5) st5 go) fun r s6 ⟨u,hr,h6⟩=>?_
     subst hr
     refine (thn h6 fun _ s7 ⟨y,H7,I7,r7,y7,st7,fr7⟩=>?_)
     have I7':=I7.pinned (fpc H7 fr7) (T.obj _ _ st7)
     refine wpAny_mono (hg cl C s3 _ fp _ s7 _ H7 y u _ I7' r7 (step y H7 y7 own ho5)) (fun _ s8 ⟨σ8,H8,I8,own1,ho8,e8,q8⟩=>?_) fun _ _ z=>z.elim
     subst e8
     refine wpAny_mono (hi2 cl C s3 _ fp _ s8 _ H8 _ I8 q8) (fun v2 s9 h9=>?_) fun _ _ z=>z.elim
     refine wpAny_mono h9 (fun itv2 s10 h10=>?_) fun _ _ z=>z.elim
     obtain⟨it2,fp2,tn2,J2,H10,rfl,I10,T2,st10,f10,W2,⟨m2,w2⟩,turn2⟩:=h10
     have stat:∀ {H':Hp},(∀ b∈fp2,H' b=none)→∀ b∈fp2,FpOk (a0h X scope cl (os++caps.map (·.2)) C s3 (upd H1 D (.lst [])) fp) ([]++a4d fp s7.heap) H' b:=fun hn b hb=>⟨hn b hb,(f10 b hb).2⟩
     have loop2:codeAny (model X.prog X.w) X.A (.compLoop (.ListComp elt [⟨tg,iter,[],0⟩,⟨tg2,iter2,[],0⟩] scope pos) 1 (.ref it2) (.ref D) (compEnvC scope cl C X.env)) (fun r s'=>match r with
         | .ok _=>∃ m,m<n∧∃ i ys own H',own.length=os.length∧Inv (a0h X scope cl (os++caps.map (·.2)) C s3 (upd H1 D (.lst [])) fp) [] (own++capd σ (caps.map (·.1))) H' s'∧tn i s'.heap∧(∀ b∈fp,H' b=none)∧W i m ys H'
         | .error e=>cameBackBy (model X.prog X.w) X.A (compEnvC scope cl C X.env) (notedBy (model X.prog X.w) X.A (compEnvC scope cl C X.env) fun e s'=>compPost (model X.prog X.w) X.A X.xe use R (.ref D) C (.error e) s') e s') s10:=by
       refine b1n (R:=fun r s'=>match r with
         | .ok _=>∃ m,m<n∧∃ i ys own H',own.length=os.length∧Inv (a0h X scope cl (os++caps.map (·.2)) C s3 (upd H1 D (.lst [])) fp) [] (own++capd σ (caps.map (·.1))) H' s'∧tn i s'.heap∧(∀ b∈fp,H' b=none)∧W i m ys H'
         | .error e=>cameBackBy (model X.prog X.w) X.A (compEnvC scope cl C X.env) (notedBy (model X.prog X.w) X.A (compEnvC scope cl C X.env) fun e s'=>compPost (model X.prog X.w) X.A X.xe use R (.ref D) C (.error e) s') e s')
         (fun n2 s'=>∃ j ys2 own2 H',own2.length=os.length∧Inv (a0h X scope cl (os++caps.map (·.2)) C s3 (upd H1 D (.lst [])) fp) ([]++a4d fp s7.heap) (own2++capd σ (caps.map (·.1))) H' s'∧tn2 j s'.heap∧(∀ b∈fp2,H' b=none)∧W2 j n2 ys2 own2 H') ?_ m2 ⟨0,ys,own1,H10,ho8,I10,st10,fun b hb=>(f10 b hb).1,w2⟩
       rintro n2 s11 ⟨j,ys2,own2,H11,ho11,I11,st11,fr11,w11⟩
       rcases turn2 j n2 ys2 own2 H11 w11 with⟨stop2,m',hm',w'⟩ | ⟨go2,step2⟩
       · refine thn (T2.done (a0h X scope cl (os++caps.map (·.2)) C s3 (upd H1 D (.lst [])) fp) rfl rfl rfl hc j _ s11 _ H11 _ I11 (stat fr11) st11 stop2) fun r s12 ⟨hr,I12⟩=>?_
         subst hr
         refine⟨m',hm',i+1,ys2,own2,H11,ho11,I12.unpinned,T.keep _ _ _ st7 fun b hb o e=>(I12.pin (b,o) (c2j _ (c2j _ (a1f hb e)))).1,fun b hb=>?_,w'⟩
         obtain⟨o,e,_⟩:=T.obj _ _ st7 b hb
         exact (I12.pin (b,o) (c2j _ (c2j _ (a1f hb e)))).2.1
       · refine thn (T2.item (a0h X scope cl (os++caps.map (·.2)) C s3 (upd H1 D (.lst [])) fp) rfl rfl rfl hc j _ s11 _ H11 _ I11 (stat fr11) st11 go2) fun r s12 ⟨u2,hr,h12⟩=>?_
         subst hr
         refine (thn h12 fun _ s13 ⟨y2,H13,I13,r13,y13,st13,fr13⟩=>?_)
         have I13':=I13.pinned (stat fr13) (T2.obj _ _ st13)
         refine wpAny_mono (hg2 cl C s3 _ fp _ s13 _ H13 y2 u2 _ I13' r13 (step2 y2 H13 y13 ho11)) (fun _ s14 ⟨σ14,H14,I14,own3,ho14,e14,q14⟩=>?_) fun _ _ z=>z.elim
         subst e14
         refine wpAny_mono (he cl C s3 _ fp _ s14 _ H14 _ I14 q14) (fun xv s15 ⟨v15,H15,I15,r15,d15,l15,m15,lt15,w15⟩=>?_) fun _ _ z=>z.elim
         refine wpAny_mono (a2q (X:=(a0h X scope cl (os++caps.map (·.2)) C s3 (upd H1 D (.lst [])) fp)) _ s15 _ H15 (.ref D) [v15] (.ref D) [xv] (fun _ H10=>H10=upd H15 D (.lst (ys2++[v15]))) I15 rfl (.cons r15 .nil) ⟨D,ys2,v15,rfl,rfl,d15,l15,rfl⟩) (fun _ s16 ⟨_,H16,I16,_,e16⟩=>?_) fun _ _ z=>z.elim
         subst e16
         refine⟨m15,lt15,j+1,ys2++[v15],own3,_,ho14,I16.unpinned,T2.keep _ _ _ st13 fun b hb o e=>(I16.pin (b,o) (c2j _ (c2j _ (a1f hb e)))).1,fun b hb=>?_,w15⟩
         obtain⟨o,e,_⟩:=T2.obj _ _ st13 b hb
         exact (I16.pin (b,o) (c2j _ (c2j _ (a1f hb e)))).2.1
     exact a9v loop2 (T2.self _ 0 _ _ _ st10 loop2)
 exact codeAny_compStart_list loop (T.self _ 0 _ _ _ st4 loop)
theorem b9q{tg elt iter tg2 iter2:Expr}{os:List Str}{pos:Pos}{scope:Scope}{wi wi2:TI}{g g2:TG}{te:TE}{caps:List (Nat×Str)}(hi:PI X tg iter wi)(hg:∀ cl C s0 H0 fp,PG (a0h X scope cl (os++caps.map (·.2)) C s0 H0 fp) tg g)(hi2:∀ cl C s0 H0 fp,PI (a0h X scope cl (os++caps.map (·.2)) C s0 H0 fp) tg2 iter2 wi2)(hg2:∀ cl C s0 H0 fp,PG (a0h X scope cl (os++caps.map (·.2)) C s0 H0 fp) tg2 g2)(he:∀ cl C s0 H0 fp,PE (a0h X scope cl (os++caps.map (·.2)) C s0 H0 fp) elt te)(hfree:∀ y∈scope.names,y.2=.free→X.env.kindOf y.1=some .cell)(hcap:∀ p∈caps,X.N[p.1]?=some p.2∧X.env.kindOf p.2=some .cell∧((relabel scope X.env).names.lookup p.2=some .cell∨(relabel scope X.env).names.lookup p.2=some .free))(hkind:scope.kind=.function)(hcell:∀ y∈scope.names,y.2≠.cell)(hnames:∀ y∈scope.names,y.2=.local→scope.names.lookup y.1=some .local)(hc:X.calm=true)(hfs:∀ v,foldedSetIterable iter X.env v=pure v)(hfs2:∀ cl C v,foldedSetIterable iter2 (compEnvC scope cl C X.env) v=pure v) :
   PE X (.ListComp elt [⟨tg,iter,[],0⟩,⟨tg2,iter2,[],0⟩] scope pos) (b4y os.length wi g wi2 g2 te (caps.map (·.1))):=by
 intro pins s σ H Q I h
 rw[eval_ListComp]
 refine b7p (Q:=Q) (use:=none) (R:=EP X pins σ Q) hi hg hi2 hg2 he hfree hcap hkind hcell hnames hc hfs hfs2 (fun D C H5 s6 m6 I6 n6 f6 q6=>?_) I h
 refine⟨m6,n6,fun h' hs'=>⟨.ref D,H5,?_,rfl,q6⟩⟩
 exact I6.turned (t':=s6.toks) (fun b o hb e=>(hs'.2 b hb).trans e) f6.1 f6.2.1 f6.2.2.2.1 f6.2.2.2.2.1 f6.2.2.2.2.2
theorem b9p{tg elt iter tg2 iter2:Expr}{os:List Str}{pos:Pos}{scope:Scope}{wi wi2:TI}{g g2:TG}{te:TE}{caps:List (Nat×Str)}(N:List Str)(sc:Scope)(hi:PI X tg iter wi)(hg:∀ cl C s0 H0 fp,PG (a0h X scope cl (os++caps.map (·.2)) C s0 H0 fp) tg g)(hi2:∀ cl C s0 H0 fp,PI (a0h X scope cl (os++caps.map (·.2)) C s0 H0 fp) tg2 iter2 wi2)(hg2:∀ cl C s0 H0 fp,PG (a0h X scope cl (os++caps.map (·.2)) C s0 H0 fp) tg2 g2)(he:∀ cl C s0 H0 fp,PE (a0h X scope cl (os++caps.map (·.2)) C s0 H0 fp) elt te)(ok:a3v N sc scope caps=true)(hN:X.N=N:=by rfl)(hsc:X.env.scope=sc:=by rfl)(hc:X.calm=true:=by rfl)(hfs:∀ v,foldedSetIterable iter X.env v=pure v:=by intro _;rfl)(hfs2:∀ cl C v,foldedSetIterable iter2 (compEnvC scope cl C X.env) v=pure v:=by intro _ _ _;rfl) :
   PE X (.ListComp elt [⟨tg,iter,[],0⟩,⟨tg2,iter2,[],0⟩] scope pos) (b4y os.length wi g wi2 g2 te (caps.map (·.1))):=by
 subst hN hsc
 unfold a3v at ok
 simp only[c4k,c6g,decide_eq_true_eq,c7s,c6z,decide_eq_false_iff_not] at ok
 obtain⟨⟨h1,h2⟩,h3⟩:=ok
 refine b9q hi hg hi2 hg2 he (fun y hy hf=>?_) (fun p hp=>?_) h1 (fun y hy=>(h2 y hy).1.1) (fun y hy hl=>?_) hc hfs hfs2
 · rcases (h2 y hy).1.2 with z | z
   · exact absurd hf z
   · exact z
 · obtain⟨⟨a,b⟩,c⟩:=h3 p hp
   exact⟨a,b,a2x c⟩
 · rcases (h2 y hy).2 with z | z
   · exact absurd hl z
   · exact z
end
end Cv
namespace Cv
open PySem PySem.Spec PyProof.Rows L2
section
variable {X:Cx}
theorem a7w(K:c2f){tg l:Expr}{tl:TE}(hl:PEi X l tl)(hK:X.K=K:=by rfl):PIi X tg l (iTup K tl):=by subst hK;exact pi_tupI hl
theorem a2p(K:c2f){tg l:Expr}{tl:TE}(hl:PEi X l tl)(hK:X.K=K:=by rfl):PIi X tg l (iList K tl):=by subst hK;exact pi_listI hl
theorem b6t{tg elt iter tg2 iter2:Expr}{os:List Str}{pos:Pos}{scope:Scope}{wi wi2:TI}{g g2:TG}{te:TE}{caps:List (Nat×Str)}(N:List Str)(sc:Scope)(hi:PIi X tg iter wi)(hg:∀ cl C s0 H0 fp,PGi (a0h X scope cl (os++caps.map (·.2)) C s0 H0 fp) tg g)(hi2:∀ cl C s0 H0 fp,PIi (a0h X scope cl (os++caps.map (·.2)) C s0 H0 fp) tg2 iter2 wi2)(hg2:∀ cl C s0 H0 fp,PGi (a0h X scope cl (os++caps.map (·.2)) C s0 H0 fp) tg2 g2)(he:∀ cl C s0 H0 fp,PEi (a0h X scope cl (os++caps.map (·.2)) C s0 H0 fp) elt te)(ok:a3v N sc scope caps=true)(hN:X.N=N:=by rfl)(hsc:X.env.scope=sc:=by rfl)(hc:X.calm=true:=by rfl)(hfs:∀ v,foldedSetIterable iter X.env v=pure v:=by intro _;rfl)(hfs2:∀ cl C v,foldedSetIterable iter2 (compEnvC scope cl C X.env) v=pure v:=by intro _ _ _;rfl) :
 PEi X (.ListComp elt [⟨tg,iter,[],0⟩,⟨tg2,iter2,[],0⟩] scope pos) (b4y os.length wi g wi2 g2 te (caps.map (·.1))):=by with_unfolding_all exact b9p (N:=N) (sc:=sc) (hi:=hi) (hg:=hg) (hi2:=hi2) (hg2:=hg2) (he:=he) (ok:=ok) (hN:=hN) (hsc:=hsc) (hc:=hc) (hfs:=hfs) (hfs2:=hfs2)
end
end Cv
namespace Cv
open PySem PySem.Spec PyProof.Rows L2
theorem a9i(elt t1 i1 t2 i2 t3 i3:Expr)(scope:Scope)(pos:Pos)(it acc:Value)(env:Env) :
 compTurn (.ListComp elt [⟨t1,i1,[],0⟩,⟨t2,i2,[],0⟩,⟨t3,i3,[],0⟩] scope pos) 0 it acc env=(standAt i1.pos >>= fun _=>pyNext it >>= fun r=>match r with
   | none=>pure (.done .next)
   | some v=>letOwnedTupleGo t1 it v >>= fun _=>assign t1 env v >>= fun _=>
     eval i2 env >>= fun x=>standAt i2.pos >>= fun _=>foldedSetIterable i2 env x >>= fun x=>holding [x] (pyIter x) >>= fun it2=>
       runOwn (.compStart (.ListComp elt [⟨t1,i1,[],0⟩,⟨t2,i2,[],0⟩,⟨t3,i3,[],0⟩] scope pos) 1 it2 acc env) env >>= fun _=>
       again (.compLoop (.ListComp elt [⟨t1,i1,[],0⟩,⟨t2,i2,[],0⟩,⟨t3,i3,[],0⟩] scope pos) 0 it acc env)):=by rfl
theorem a9h(elt t1 i1 t2 i2 t3 i3:Expr)(scope:Scope)(pos:Pos)(it acc:Value)(env:Env) :
 compTurn (.ListComp elt [⟨t1,i1,[],0⟩,⟨t2,i2,[],0⟩,⟨t3,i3,[],0⟩] scope pos) 1 it acc env=(standAt i2.pos >>= fun _=>pyNext it >>= fun r=>match r with
   | none=>pure (.done .next)
   | some v=>letOwnedTupleGo t2 it v >>= fun _=>assign t2 env v >>= fun _=>
     eval i3 env >>= fun x=>standAt i3.pos >>= fun _=>foldedSetIterable i3 env x >>= fun x=>holding [x] (pyIter x) >>= fun it2=>
       runOwn (.compStart (.ListComp elt [⟨t1,i1,[],0⟩,⟨t2,i2,[],0⟩,⟨t3,i3,[],0⟩] scope pos) 2 it2 acc env) env >>= fun _=>
       again (.compLoop (.ListComp elt [⟨t1,i1,[],0⟩,⟨t2,i2,[],0⟩,⟨t3,i3,[],0⟩] scope pos) 1 it acc env)):=by rfl
theorem a9g(elt t1 i1 t2 i2 t3 i3:Expr)(scope:Scope)(pos:Pos)(it acc:Value)(env:Env) :
 compTurn (.ListComp elt [⟨t1,i1,[],0⟩,⟨t2,i2,[],0⟩,⟨t3,i3,[],0⟩] scope pos) 2 it acc env=(standAt i3.pos >>= fun _=>pyNext it >>= fun r=>match r with
   | none=>pure (.done .next)
   | some v=>letOwnedTupleGo t3 it v >>= fun _=>assign t3 env v >>= fun _=>
     (eval elt env >>= fun x=>call (.builtin "list.append") [acc,x] >>= fun _=>pure ()) >>= fun _=>
       again (.compLoop (.ListComp elt [⟨t1,i1,[],0⟩,⟨t2,i2,[],0⟩,⟨t3,i3,[],0⟩] scope pos) 2 it acc env)):=by rfl
section
variable {prog:Program} {w:World} {A:Around} {R:Result→Shared→Prop} {s:Shared}
theorem a7n{elt t1 i1 t2 i2 t3 i3:Expr}{scope:Scope}{pos:Pos}{it acc:Value}{env:Env}(h0:codeAny (model prog w) A (.compLoop (.ListComp elt [⟨t1,i1,[],0⟩,⟨t2,i2,[],0⟩,⟨t3,i3,[],0⟩] scope pos) 1 it acc env) R s)(h:wpAny (model prog w) A (pyIter it) (fun it' s'=>codeAny (model prog w) A (.compLoop (.ListComp elt [⟨t1,i1,[],0⟩,⟨t2,i2,[],0⟩,⟨t3,i3,[],0⟩] scope pos) 1 it' acc env) R s')
     (notedBy (model prog w) A env fun x s'=>R (.error x) s') s) :
   codeAny (model prog w) A (.compStart (.ListComp elt [⟨t1,i1,[],0⟩,⟨t2,i2,[],0⟩,⟨t3,i3,[],0⟩] scope pos) 1 it acc env) R s:=by
 refine codeAny_of_tree ?_
 show wpAny _ _ ((compStart (.ListComp elt [⟨t1,i1,[],0⟩,⟨t2,i2,[],0⟩,⟨t3,i3,[],0⟩] scope pos) 1 it acc env).onRaise (fun x=>do noteFrame x env;standAt theWindowsPlace)) _ _ s
 refine wpAny_notedAt ?_
 unfold compStart
 show wpAny _ _ (ask >>= _) _ _ s
 refine wpAny_bind (wpAny_askSetting (wpAny_ite ?_))
 split
 · first
     | exact wpAny_bind (wpAny_pure (wpAny_pure (And.intro rfl h0)))
     | exact wpAny_pure (And.intro rfl h0)
 · first
     | exact wpAny_bind (wpAny_rule (wpAny_bind (wpAny_standAt (wpAny_bind (wpAny_mono h (fun it' s' h'=>wpAny_pure (And.intro rfl h')) fun _ _ x=>x)))))
     | (refine wpAny_bind (wpAny_rule ?_);show wpAny _ _ (standAt i2.pos >>= _) _ _ s;exact wpAny_bind (wpAny_standAt (wpAny_bind (wpAny_mono h (fun it' s' h'=>wpAny_pure (And.intro rfl h')) fun _ _ x=>x))))
theorem a7m{elt t1 i1 t2 i2 t3 i3:Expr}{scope:Scope}{pos:Pos}{it acc:Value}{env:Env}(h0:codeAny (model prog w) A (.compLoop (.ListComp elt [⟨t1,i1,[],0⟩,⟨t2,i2,[],0⟩,⟨t3,i3,[],0⟩] scope pos) 2 it acc env) R s)(h:wpAny (model prog w) A (pyIter it) (fun it' s'=>codeAny (model prog w) A (.compLoop (.ListComp elt [⟨t1,i1,[],0⟩,⟨t2,i2,[],0⟩,⟨t3,i3,[],0⟩] scope pos) 2 it' acc env) R s')
     (notedBy (model prog w) A env fun x s'=>R (.error x) s') s) :
   codeAny (model prog w) A (.compStart (.ListComp elt [⟨t1,i1,[],0⟩,⟨t2,i2,[],0⟩,⟨t3,i3,[],0⟩] scope pos) 2 it acc env) R s:=by
 refine codeAny_of_tree ?_
 show wpAny _ _ ((compStart (.ListComp elt [⟨t1,i1,[],0⟩,⟨t2,i2,[],0⟩,⟨t3,i3,[],0⟩] scope pos) 2 it acc env).onRaise (fun x=>do noteFrame x env;standAt theWindowsPlace)) _ _ s
 refine wpAny_notedAt ?_
 unfold compStart
 show wpAny _ _ (ask >>= _) _ _ s
 refine wpAny_bind (wpAny_askSetting (wpAny_ite ?_))
 split
 · first
     | exact wpAny_bind (wpAny_pure (wpAny_pure (And.intro rfl h0)))
     | exact wpAny_pure (And.intro rfl h0)
 · first
     | exact wpAny_bind (wpAny_rule (wpAny_bind (wpAny_standAt (wpAny_bind (wpAny_mono h (fun it' s' h'=>wpAny_pure (And.intro rfl h')) fun _ _ x=>x)))))
     | (refine wpAny_bind (wpAny_rule ?_);show wpAny _ _ (standAt i3.pos >>= _) _ _ s;exact wpAny_bind (wpAny_standAt (wpAny_bind (wpAny_mono h (fun it' s' h'=>wpAny_pure (And.intro rfl h')) fun _ _ x=>x))))
theorem a9j{elt t1 i1 t2 i2 t3 i3:Expr}{scope:Scope}{pos:Pos}{it acc:Value}{env:Env}(I:Nat→Shared→Prop)(turn:∀ n s,I n s→wpAny (model prog w) A (pyNext it) (fun r s₁=>match r with
     | none=>R (.ok .next) s₁
     | some v=>wpAny (model prog w) A (letOwnedTupleGo t3 it v) (fun _ s₁'=>wpAny (model prog w) A (assign t3 env v) (fun _ s₂=>wpAny (model prog w) A (eval elt env) (fun x s₃=>
         wpAny (model prog w) A (call (.builtin "list.append") [acc,x]) (fun _ s₄=>∃ m,m<n∧I m s₄) (notedBy (model prog w) A env fun e s'=>R (.error e) s') s₃)
         (notedBy (model prog w) A env fun e s'=>R (.error e) s') s₂) (notedBy (model prog w) A env fun e s'=>R (.error e) s') s₁') (notedBy (model prog w) A env fun e s'=>R (.error e) s') s₁) (notedBy (model prog w) A env fun e s'=>R (.error e) s') s)(n:Nat)(h:I n s) :
   codeAny (model prog w) A (.compLoop (.ListComp elt [⟨t1,i1,[],0⟩,⟨t2,i2,[],0⟩,⟨t3,i3,[],0⟩] scope pos) 2 it acc env) R s:=by
 refine codeAny_loop rfl I (fun n s hI=>?_) n h
 show wpAny _ _ ((compTurn (.ListComp elt [⟨t1,i1,[],0⟩,⟨t2,i2,[],0⟩,⟨t3,i3,[],0⟩] scope pos) 2 it acc env).onRaise (fun x=>do noteFrame x env;theTreesLotGoes x)) _ _ s
 refine wpAny_noted ?_
 rw[a9g]
 refine wpAny_bind (wpAny_standAt (wpAny_bind (wpAny_mono (turn n s hI) (fun r s₁ h₁=>?_) fun _ _ h'=>h')))
 cases r with
 | none=>exact wpAny_pure h₁
 | some v=>
   refine wpAny_bind (wpAny_mono h₁ (fun _ s₁' h₁'=>?_) fun _ _ h'=>h')
   exact wpAny_bind (wpAny_mono h₁' (fun _ s₂ h₂=>wpAny_bind (wpAny_bind (wpAny_mono h₂ (fun x s₃ h₃=>wpAny_bind (wpAny_mono h₃
     (fun _ s₄ h₄=>wpAny_pure (wpAny_pure ⟨rfl,h₄⟩)) fun _ _ h'=>h')) fun _ _ h'=>h'))) fun _ _ h'=>h')
theorem a9l{elt t1 i1 t2 i2 t3 i3:Expr}{scope:Scope}{pos:Pos}{it acc:Value}{env:Env}(I:Nat→Shared→Prop)(hfs:∀ v,foldedSetIterable i2 env v=pure v)(turn:∀ n s,I n s→wpAny (model prog w) A (pyNext it) (fun r s₁=>match r with
     | none=>R (.ok .next) s₁
     | some v=>wpAny (model prog w) A (letOwnedTupleGo t1 it v) (fun _ s₁'=>wpAny (model prog w) A (assign t1 env v) (fun _ s₂=>wpAny (model prog w) A (eval i2 env) (fun x s₃=>
         wpAny (model prog w) A (pyIter x) (fun it2 s₄=>codeAny (model prog w) A (.compStart (.ListComp elt [⟨t1,i1,[],0⟩,⟨t2,i2,[],0⟩,⟨t3,i3,[],0⟩] scope pos) 1 it2 acc env) (fun r s'=>match r with | .ok _=>∃ m,m<n∧I m s' | .error e=>cameBackBy (model prog w) A env (notedBy (model prog w) A env fun e s'=>R (.error e) s') e s') s₄) (notedBy (model prog w) A env fun e s'=>R (.error e) s') s₃)
         (notedBy (model prog w) A env fun e s'=>R (.error e) s') s₂) (notedBy (model prog w) A env fun e s'=>R (.error e) s') s₁') (notedBy (model prog w) A env fun e s'=>R (.error e) s') s₁) (notedBy (model prog w) A env fun e s'=>R (.error e) s') s)(n:Nat)(h:I n s) :
   codeAny (model prog w) A (.compLoop (.ListComp elt [⟨t1,i1,[],0⟩,⟨t2,i2,[],0⟩,⟨t3,i3,[],0⟩] scope pos) 0 it acc env) R s:=by
 refine codeAny_loop rfl I (fun n s hI=>?_) n h
 show wpAny _ _ ((compTurn (.ListComp elt [⟨t1,i1,[],0⟩,⟨t2,i2,[],0⟩,⟨t3,i3,[],0⟩] scope pos) 0 it acc env).onRaise (fun x=>do noteFrame x env;theTreesLotGoes x)) _ _ s
 refine wpAny_noted ?_
 rw[a9i]
 refine wpAny_bind (wpAny_standAt (wpAny_bind (wpAny_mono (turn n s hI) (fun r s₁ h₁=>?_) fun _ _ h'=>h')))
 cases r with
 | none=>exact wpAny_pure h₁
 | some v=>
   refine wpAny_bind (wpAny_mono h₁ (fun _ s₁' h₁'=>?_) fun _ _ h'=>h')
   refine wpAny_bind (wpAny_mono h₁' (fun _ s₂ h₂=>?_) fun _ _ h'=>h')
   refine wpAny_bind (wpAny_mono h₂ (fun x s₃ h₃=>?_) fun _ _ h'=>h')
   refine wpAny_bind (wpAny_standAt (wpAny_bind (wpAny_of_eq (hfs x) (wpAny_bind (wpAny_holding (wpAny_mono h₃ (fun it2 s₄ h₄=>?_) fun _ _ h'=>h'))))))
   refine wpAny_bind (wpAny_runOwn (codeAny_mono h₄ fun r s' h'=>?_))
   cases r with
   | ok f=>exact wpAny_pure ⟨rfl,h'⟩
   | error e=>exact h'
theorem a9k{elt t1 i1 t2 i2 t3 i3:Expr}{scope:Scope}{pos:Pos}{it acc:Value}{env:Env}(I:Nat→Shared→Prop)(hfs:∀ v,foldedSetIterable i3 env v=pure v)(turn:∀ n s,I n s→wpAny (model prog w) A (pyNext it) (fun r s₁=>match r with
     | none=>R (.ok .next) s₁
     | some v=>wpAny (model prog w) A (letOwnedTupleGo t2 it v) (fun _ s₁'=>wpAny (model prog w) A (assign t2 env v) (fun _ s₂=>wpAny (model prog w) A (eval i3 env) (fun x s₃=>
         wpAny (model prog w) A (pyIter x) (fun it2 s₄=>codeAny (model prog w) A (.compStart (.ListComp elt [⟨t1,i1,[],0⟩,⟨t2,i2,[],0⟩,⟨t3,i3,[],0⟩] scope pos) 2 it2 acc env) (fun r s'=>match r with | .ok _=>∃ m,m<n∧I m s' | .error e=>cameBackBy (model prog w) A env (notedBy (model prog w) A env fun e s'=>R (.error e) s') e s') s₄) (notedBy (model prog w) A env fun e s'=>R (.error e) s') s₃)
         (notedBy (model prog w) A env fun e s'=>R (.error e) s') s₂) (notedBy (model prog w) A env fun e s'=>R (.error e) s') s₁') (notedBy (model prog w) A env fun e s'=>R (.error e) s') s₁) (notedBy (model prog w) A env fun e s'=>R (.error e) s') s)(n:Nat)(h:I n s) :
   codeAny (model prog w) A (.compLoop (.ListComp elt [⟨t1,i1,[],0⟩,⟨t2,i2,[],0⟩,⟨t3,i3,[],0⟩] scope pos) 1 it acc env) R s:=by
 refine codeAny_loop rfl I (fun n s hI=>?_) n h
 show wpAny _ _ ((compTurn (.ListComp elt [⟨t1,i1,[],0⟩,⟨t2,i2,[],0⟩,⟨t3,i3,[],0⟩] scope pos) 1 it acc env).onRaise (fun x=>do noteFrame x env;theTreesLotGoes x)) _ _ s
 refine wpAny_noted ?_
 rw[a9h]
 refine wpAny_bind (wpAny_standAt (wpAny_bind (wpAny_mono (turn n s hI) (fun r s₁ h₁=>?_) fun _ _ h'=>h')))
 cases r with
 | none=>exact wpAny_pure h₁
 | some v=>
   refine wpAny_bind (wpAny_mono h₁ (fun _ s₁' h₁'=>?_) fun _ _ h'=>h')
   refine wpAny_bind (wpAny_mono h₁' (fun _ s₂ h₂=>?_) fun _ _ h'=>h')
   refine wpAny_bind (wpAny_mono h₂ (fun x s₃ h₃=>?_) fun _ _ h'=>h')
   refine wpAny_bind (wpAny_standAt (wpAny_bind (wpAny_of_eq (hfs x) (wpAny_bind (wpAny_holding (wpAny_mono h₃ (fun it2 s₄ h₄=>?_) fun _ _ h'=>h'))))))
   refine wpAny_bind (wpAny_runOwn (codeAny_mono h₄ fun r s' h'=>?_))
   cases r with
   | ok f=>exact wpAny_pure ⟨rfl,h'⟩
   | error e=>exact h'
end
def b3h(k:Nat)(J:It)(H1:Hp)(g:TG)(wi2:TI)(g2:TG)(wi3:TI)(g3:TG)(te:TE)(cs:L2.St)(Q:VK):Prop:=∀ D,H1 D=none→∃ W:Nat→Nat→List V→Hp→Prop,(∃ m,W 0 m [] (upd H1 D (.lst [])))∧
 ∀ i m ys H2,W i m ys H2→(J.stop i H2∧Q (.ref D) H2)∨(J.go i H2∧∀ x H',J.yld i H2 x H'→∀ own:L2.St,own.length=k→g x (own++cs) H' fun σ2 H4=>∃ own1:L2.St,own1.length=k∧σ2=own1++cs∧
   wi2 σ2 H4 fun J2 H5=>∃ W2:Nat→Nat→List V→L2.St→Hp→Prop,(∃ m2,W2 0 m2 ys own1 H5)∧
     ∀ j m2 ys2 own2 H6,W2 j m2 ys2 own2 H6→(J2.stop j H6∧∃ m',m' < m∧W (i+1) m' ys2 H6)∨(J2.go j H6∧∀ x2 H7,J2.yld j H6 x2 H7→own2.length=k→g2 x2 (own2++cs) H7 fun σ2 H4=>∃ own3:L2.St,own3.length=k∧σ2=own3++cs∧
       wi3 σ2 H4 fun J3 H8=>∃ W3:Nat→Nat→List V→L2.St→Hp→Prop,(∃ m3,W3 0 m3 ys2 own3 H8)∧
         ∀ l m3 ys3 own4 H9,W3 l m3 ys3 own4 H9→(J3.stop l H9∧∃ m',m' < m2∧W2 (j+1) m' ys3 own4 H9)∨(J3.go l H9∧∀ x3 H10,J3.yld l H9 x3 H10→own4.length=k→g3 x3 (own4++cs) H10 fun σ2 H4=>∃ own5:L2.St,own5.length=k∧σ2=own5++cs∧
           te σ2 H4 fun v H3=>H3 D=some (.lst ys3)∧ys3.length<sizeLine∧∃ m',m' < m3∧W3 (l+1) m' (ys3++[v]) own5 (upd H3 D (.lst (ys3++[v]))))))
def b4x(k:Nat)(wi:TI)(g:TG)(wi2:TI)(g2:TG)(wi3:TI)(g3:TG)(te:TE)(ix:List Nat):TE:=fun σ H Q=>wi σ H fun J H1=>b3h k J H1 g wi2 g2 wi3 g3 te (capd σ ix) Q
section
variable {X:Cx}
theorem b7o{tg elt iter tg2 iter2 tg3 iter3:Expr}{os:List Str}{pos ipos:Pos}{scope:Scope}{wi wi2 wi3:TI}{g g2 g3:TG}{te:TE}{caps:List (Nat×Str)}{pins:List (Addr×Obj)}{s:Shared}{σ:L2.St}{H:Hp}{Q:VK}{use:Option (Value→Sem Unit)}{R:Value→Shared→Prop}(hi:PI X tg iter wi)(hg:∀ cl C s0 H0 fp,PG (a0h X scope cl (os++caps.map (·.2)) C s0 H0 fp) tg g)(hi2:∀ cl C s0 H0 fp,PI (a0h X scope cl (os++caps.map (·.2)) C s0 H0 fp) tg2 iter2 wi2)(hg2:∀ cl C s0 H0 fp,PG (a0h X scope cl (os++caps.map (·.2)) C s0 H0 fp) tg2 g2)(hi3:∀ cl C s0 H0 fp,PI (a0h X scope cl (os++caps.map (·.2)) C s0 H0 fp) tg3 iter3 wi3)(hg3:∀ cl C s0 H0 fp,PG (a0h X scope cl (os++caps.map (·.2)) C s0 H0 fp) tg3 g3)(he:∀ cl C s0 H0 fp,PE (a0h X scope cl (os++caps.map (·.2)) C s0 H0 fp) elt te)(hfree:∀ y∈scope.names,y.2=.free→X.env.kindOf y.1=some .cell)(hcap:∀ p∈caps,X.N[p.1]?=some p.2∧X.env.kindOf p.2=some .cell∧((relabel scope X.env).names.lookup p.2=some .cell∨(relabel scope X.env).names.lookup p.2=some .free))(hkind:scope.kind=.function)(hcell:∀ y∈scope.names,y.2≠.cell)(hnames:∀ y∈scope.names,y.2=.local→scope.names.lookup y.1=some .local)(hc:X.calm=true)(hfs:∀ v,foldedSetIterable iter X.env v=pure v)(hfs2:∀ cl C v,foldedSetIterable iter2 (compEnvC scope cl C X.env) v=pure v)(hfs3:∀ cl C v,foldedSetIterable iter3 (compEnvC scope cl C X.env) v=pure v)(hfin:∀ D C H5 s6 m6,Inv X pins σ H5 s6→s6.heap.Ns C m6→FpOk X pins H5 C→Q (.ref D) H5→compPost (model X.prog X.w) X.A X.xe use R (.ref D) C (.ok .next) s6)(I:Inv X pins σ H s)(h:b4x os.length wi g wi2 g2 wi3 g3 te (caps.map (·.1)) σ H Q) :
   wpAny (model X.prog X.w) X.A (comprehension (.ListComp elt [⟨tg,iter,[],0⟩,⟨tg2,iter2,[],0⟩,⟨tg3,iter3,[],0⟩] scope pos) scope X.env ipos (newList []) false (eval iter X.env) use) R X.xe s:=by
 obtain⟨cl,hclos,hcl,hin⟩:=a5o (scope:=scope) (env:=X.env) fun y hy hf=>I.ok.has y.1 (.inl (hfree y hy hf))
 have hhas:∀ y,((relabel scope X.env).names.lookup y=some .cell∨(relabel scope X.env).names.lookup y=some .free)→∃ c,cl.lookup y=some c:=fun y hy=>by
   rcases hy with hy | hy
   · exact hin (y,.free) (a1j (env:=X.env) hcell hy (.inl rfl)) rfl
   · exact hin (y,.free) (a1j (env:=X.env) hcell hy (.inr rfl)) rfl
 refine wpAny_comprehension_free (use:=use) rfl hfs hclos hkind hnames ?_
 refine thn (hi pins s σ H _ I h) fun v s1 h1=>thn h1 fun itv s2 h2=>?_
 obtain⟨it,fp,tn,J,H1,rfl,I2,T,st2,f2,rd⟩:=h2
 refine wpAny_newObj_type ?_ (by show 0≤sizeLine;decide)
 have hD:H1 s2.heap.objs.size=none:=I2.hok.fresh (c2o _)
 obtain⟨W,⟨m0,w0⟩,turn⟩:=rd s2.heap.objs.size hD
 generalize eD:s2.heap.objs.size=D at hD w0 turn
 have I3:Inv X pins σ (upd H1 D (.lst [])) { s2 with heap:=s2.heap.push { cls:=.type "list",data:=.seq ([]:List Value).toArray } }:=by
   subst eD
   exact I2.laid (t':=s2.toks) (fun b u e=>Heap.get?_push_of_some _ e) (c2o _) ⟨c4d _,[],0,.nil,Heap.get?_push_size _ rfl⟩
 generalize e3:({ s2 with heap:=s2.heap.push { cls:=.type "list",data:=.seq ([]:List Value).toArray } }:Shared)=s3 at I3
 have hs3:s3.heap.objs.size=D+1:=by rw[← e3,← eD];simp
 have k23:∀ b o,s2.heap.get? b=some o→s3.heap.get? b=some o:=fun b o e=>by rw[← e3];exact Heap.get?_push_of_some _ e
 refine wpAny_newFunctionEnv hcell (by intro y hy;simp at hy) (fun h4 hn4 hs4=>?_) hkind
 have k34:∀ b o,s3.heap.get? b=some o→h4.get? b=some o:=fun b o e=>(hs4.2 b (c3e (Heap.lt_size e))).trans (Heap.get?_push_of_some _ e)
 generalize eC:s3.heap.objs.size=C at hn4 hs4
 have hfpC:∀ b∈fp,b≠C:=fun b hb z=>by
   obtain⟨o,e,_⟩:=T.obj 0 _ st2 b hb
   have h1:=Heap.lt_size e
   rw[z,← eC,hs3,eD] at h1
   exact absurd h1 (Nat.not_lt.mpr (c6j D))
 have hfps:∀ b∈fp,b∉frs X.stack:=fun b hb z=>by
   rcases c2x.mp (I2.stkSub b z) with q | q
   · exact (f2 b hb).2.1 q
   · exact (f2 b hb).2.2.1 q
 have hfpD:∀ b∈fp,b≠D:=fun b hb z=>by
   obtain⟨o,e,_⟩:=T.obj 0 _ st2 b hb
   have h1:=Heap.lt_size e
   rw[z,eD] at h1
   exact c4n _ h1
 have okc:(a0h X scope cl (os++caps.map (·.2)) C s3 (upd H1 D (.lst [])) fp).Ok:=by
   refine⟨I3.ok.mod,hkind,I3.ok.glob,I3.ok.blt,c5t eC,fun y z c h1 h2=>I3.ok.inj y z c (hcl y c h1) (hcl z c h2),fun y hy=>hhas y hy,fun y c hf=>absurd hf c3d,I3.ok.hd,I3.ok.frames,.inl rfl,
     fun b hb=>⟨hfpC b hb,fun y c e=>(f2 b hb).2.2.2.2.1 y c (hcl y c e)⟩,I3.bs,c4g I3.ok.bsz I3.sz,fun b o e hb=>?_,fun b hb=>hfps b hb,I3.stack,I3.stkFree⟩
   rcases (f2 b hb).2.2.2.1 with z | z
   · exact I3.ok.noex b o e z
   · exact c4n _ (c3g (Heap.lt_size (I3.ok.bs b o e).1) z)
 have capS:(capd σ (caps.map (·.1))).length=caps.length:=by unfold capd;rw[c2h,c2h]
 have Ic:Inv (a0h X scope cl (os++caps.map (·.2)) C s3 (upd H1 D (.lst [])) fp) [] (c2n os.length none++capd σ (caps.map (·.1))) (upd H1 D (.lst [])) { s3 with heap:=h4,toks:=s3.toks+([]:List (Str×Value)).length }:=by
   refine⟨okc,rfl,I3.bare,Un.kept k34,⟨_,hn4,fun i y v e1 e2 e3'=>?_⟩,fun y c e=>?_,I3.hok.fresh (c5t eC),fun y c e=>I3.freeC y c (hcl y c e),fun p hp=>absurd hp (by simp),I3.hok.kept k34,?_⟩
   · by_cases hik:i<os.length
     · rw[c2v (by rw[c2r];exact hik),c4v] at e2
       split at e2<;>cases e2
     · have e1':(caps.map (·.2))[i - os.length]?=some y:=by
         have z:(os++caps.map (·.2))[i]?=some y:=e1
         rw[c2w (by omega)] at z
         exact z
       have e2':(capd σ (caps.map (·.1)))[i - os.length]?=some (some v):=by
         rw[c2w (by rw[c2r];omega),c2r] at e2
         exact e2
       generalize i - os.length=i at e1' e2'
       rw[c2p] at e1'
       unfold capd at e2'
       rw[c2p,c2p] at e2'
       cases q:caps[i]? with
       | none=>rw[q] at e1';cases e1'
       | some p=>
         rw[q] at e1' e2'
         have ey:p.2=y:=c2u.inj e1'
         have ev:(σ[p.1]?).getD none=some v:=c2u.inj e2'
         have es:σ[p.1]?=some (some v):=by
           cases z:σ[p.1]? with
           | none=>rw[z] at ev;cases ev
           | some w'=>rw[z] at ev;exact congrArg some ev
         obtain⟨hN,hk,hv⟩:=hcap p (c2m q)
         obtain⟨m,_,hl⟩:=I3.loc
         obtain⟨u,r,lk⟩:=hl p.1 p.2 v hN es (.inr (.inl hk))
         rw[ey] at hk hv lk
         refine⟨u,r,.inr ⟨hv,?_⟩⟩
         obtain⟨c,hc'⟩:=hhas y hv
         rcases lk with⟨z,_⟩ | ⟨_,c2,z,ic⟩
         · rw[hk] at z;cases z
         · have ec:=(hcl y c hc').symm.trans z
           cases ec
           obtain⟨o,ho,hd⟩:=ic
           exact⟨c,hc',o,k34 _ _ ho,hd⟩
   · obtain⟨v,o,ho,hd⟩:=I3.cell y c (hcl y c e)
     exact⟨v,o,k34 _ _ ho,hd⟩
   · show (c2n os.length (none:Option V)++capd σ (caps.map fun p=>p.1)).length=(os++caps.map fun p=>p.2).length
     rw[c2k,c2k,c2r,capS,c2h]
 have fpc:∀ H',(∀ b∈fp,H' b=none)→∀ b∈fp,FpOk (a0h X scope cl (os++caps.map (·.2)) C s3 (upd H1 D (.lst [])) fp) [] H' b:=fun H' hn b hb=>
   ⟨hn b hb,hfpC b hb,hfps b hb,.inl hb,fun y c e=>(f2 b hb).2.2.2.2.1 y c (hcl y c e),fun p hp=>absurd hp (by simp)⟩
 have st4:tn 0 h4:=T.keep _ _ _ (T.keep _ _ _ st2 fun b _ o e=>k23 b o e) fun b _ o e=>k34 b o e
 have fp0:∀ b∈fp,(upd H1 D (.lst [])) b=none:=fun b hb=>by rw[a0j (hfpD b hb)];exact (f2 b hb).1
 have loop:codeAny (model X.prog X.w) X.A (.compLoop (.ListComp elt [⟨tg,iter,[],0⟩,⟨tg2,iter2,[],0⟩,⟨tg3,iter3,[],0⟩] scope pos) 0 (.ref it) (.ref D) (compEnvC scope cl C X.env)) (compPost (model X.prog X.w) X.A X.xe use R (.ref D) C)
     { s3 with heap:=h4,toks:=s3.toks+([]:List (Str×Value)).length }:=by
   refine a9l (R:=compPost (model X.prog X.w) X.A X.xe use R (.ref D) C) (fun n s'=>∃ i ys own H',own.length=os.length∧Inv (a0h X scope cl (os++caps.map (·.2)) C s3 (upd H1 D (.lst [])) fp) [] (own++capd σ (caps.map (·.1))) H' s'∧tn i s'.heap∧(∀ b∈fp,H' b=none)∧W i n ys H') (hfs2 cl C) ?_ m0 ⟨0,[],c2n os.length none,_,c2r,Ic,st4,fp0,w0⟩
   rintro n s5 ⟨i,ys,own,H5,ho5,I5,st5,fr5,w5⟩
   rcases turn i n ys H5 w5 with⟨stop,qn⟩ | ⟨go,step⟩
   · refine thn (T.done (a0h X scope cl (os++caps.map (·.2)) C s3 (upd H1 D (.lst [])) fp) rfl rfl rfl hc i [] s5 _ H5 _ I5 (fpc H5 fr5) st5 stop) fun r s6 ⟨hr,I6⟩=>?_
     subst hr
     obtain⟨m6,hn6,_⟩:=I6.loc
     have hs':Heap.SameBut C s6.heap s6.heap:=⟨rfl,fun _ _=>rfl⟩
     generalize eh':s6.heap=h' at hs'
     have hs':Heap.SameBut C s6.heap h':=by rw[eh'];exact hs'
     have neC:∀ b o,s3.heap.get? b=some o→b≠C:=fun b o e=>c3e (eC ▸ Heap.lt_size e)
     have ns:∀ b o,s2.heap.get? b=some o→b≠D:=fun b o e=>c3e (eD ▸ Heap.lt_size e)
     have B:=I6.base
     have uu:Un (frs X.stack) fp H1 H5 s2.heap h':=by
       refine⟨fun b o e nn hb hf=>?_,fun b o e nn hb hf=>?_,fun b o e nn hf=>?_,fun b o e hf=>?_,fun b xs e=>?_,fun b o u' e=>?_,fun b ps e=>?_⟩
       · exact (hs'.2 b (neC b o (k23 b o e))).trans (B.keep b o (k23 b o e) (by show (upd H1 D _) b=none;rw[a0j (ns b o e)];exact nn) hb hf)
       · obtain⟨sl,z⟩:=B.slot b o (k23 b o e) (by show (upd H1 D _) b=none;rw[a0j (ns b o e)];exact nn) hb hf
         exact⟨sl,(hs'.2 b (neC b o (k23 b o e))).trans z⟩
       · exact B.free b o (k23 b o e) (by show (upd H1 D _) b=none;rw[a0j (ns b o e)];exact nn) hf
       · obtain⟨o',z⟩:=B.there b o (k23 b o e) hf
         exact⟨o',(hs'.2 b (neC b o (k23 b o e))).trans z⟩
       · exact B.tups b xs (by show (upd H1 D _) b=_;rw[a0j (a0l e hD)];exact e)
       · exact B.frzs b o u' (by show (upd H1 D _) b=_;rw[a0j (a0l e hD)];exact e)
       · exact B.tbls b ps (by show (upd H1 D _) b=_;rw[a0j (a0l e hD)];exact e)
     have hok':HOk X.prog X.w H5 h':=fun b o e=>by
       refine (I6.hok b o e).stay (fun c' u' hc' z=>(hs'.2 c' fun zz=>?_).trans z) (fun _ z=>z) fun _ _ z=>z
       have fr:H5 C=none:=I6.free
       rcases hc' with hc' | hc'
       · rw[← zz,hc',e] at fr;cases fr
       · rw[← zz,hc'] at fr;cases fr
     have ho6:s6.os=s2.os:=I6.os.trans (by show s3.os=s2.os;rw[← e3])
     subst eh'
     have hC2:s2.heap.objs.size≤C:=by rw[← eC,hs3,eD];exact c6j D
     exact hfin D C H5 s6 m6 (I2.call' (s':=s6) (ch:=fp) ho6 uu hok' I6.bare (fun b hb=>⟨(f2 b hb).2.2.2.1,(f2 b hb).2.1,(f2 b hb).2.2.2.2.1,(f2 b hb).2.2.2.2.2⟩)) hn6 (I2.fpOk hC2 I6.free) qn
   · refine thn (T.item (a0h X scope cl (os++caps.map (·.2)) C s3 (upd H1 D (.lst [])) fp) rfl rfl rfl hc i [] s5 _ H5 _ I5 (fpc H5 fr5) st5 go) fun r s6 ⟨u,hr,h6⟩=>?_
     subst hr
     refine (thn h6 fun _ s7 ⟨y,H7,I7,r7,y7,st7,fr7⟩=>?_)
     have I7':=I7.pinned (fpc H7 fr7) (T.obj _ _ st7)
     refine wpAny_mono (hg cl C s3 _ fp _ s7 _ H7 y u _ I7' r7 (step y H7 y7 own ho5)) (fun _ s8 ⟨σ8,H8,I8,own1,ho8,e8,q8⟩=>?_) fun _ _ z=>z.elim
     subst e8
     refine wpAny_mono (hi2 cl C s3 _ fp _ s8 _ H8 _ I8 q8) (fun v2 s9 h9=>?_) fun _ _ z=>z.elim
     refine wpAny_mono h9 (fun itv2 s10 h10=>?_) fun _ _ z=>z.elim
     obtain⟨it2,fp2,tn2,J2,H10,rfl,I10,T2,st10,f10,W2,⟨m2,w2⟩,turn2⟩:=h10
     have stat:∀ {H':Hp},(∀ b∈fp2,H' b=none)→∀ b∈fp2,FpOk (a0h X scope cl (os++caps.map (·.2)) C s3 (upd H1 D (.lst [])) fp) ([]++a4d fp s7.heap) H' b:=fun hn b hb=>⟨hn b hb,(f10 b hb).2⟩
     have loop2:codeAny (model X.prog X.w) X.A (.compLoop (.ListComp elt [⟨tg,iter,[],0⟩,⟨tg2,iter2,[],0⟩,⟨tg3,iter3,[],0⟩] scope pos) 1 (.ref it2) (.ref D) (compEnvC scope cl C X.env)) (fun r s'=>match r with
         | .ok _=>∃ m,m<n∧∃ i ys own H',own.length=os.length∧Inv (a0h X scope cl (os++caps.map (·.2)) C s3 (upd H1 D (.lst [])) fp) [] (own++capd σ (caps.map (·.1))) H' s'∧tn i s'.heap∧(∀ b∈fp,H' b=none)∧W i m ys H'
         | .error e=>cameBackBy (model X.prog X.w) X.A (compEnvC scope cl C X.env) (notedBy (model X.prog X.w) X.A (compEnvC scope cl C X.env) fun e s'=>compPost (model X.prog X.w) X.A X.xe use R (.ref D) C (.error e) s') e s') s10:=by
       refine a9k (R:=fun r s'=>match r with
         | .ok _=>∃ m,m<n∧∃ i ys own H',own.length=os.length∧Inv (a0h X scope cl (os++caps.map (·.2)) C s3 (upd H1 D (.lst [])) fp) [] (own++capd σ (caps.map (·.1))) H' s'∧tn i s'.heap∧(∀ b∈fp,H' b=none)∧W i m ys H'
         | .error e=>cameBackBy (model X.prog X.w) X.A (compEnvC scope cl C X.env) (notedBy (model X.prog X.w) X.A (compEnvC scope cl C X.env) fun e s'=>compPost (model X.prog X.w) X.A X.xe use R (.ref D) C (.error e) s') e s')
         (fun n2 s'=>∃ j ys2 own2 H',own2.length=os.length∧Inv (a0h X scope cl (os++caps.map (·.2)) C s3 (upd H1 D (.lst [])) fp) ([]++a4d fp s7.heap) (own2++capd σ (caps.map (·.1))) H' s'∧tn2 j s'.heap∧(∀ b∈fp2,H' b=none)∧W2 j n2 ys2 own2 H') (hfs3 cl C) ?_ m2 ⟨0,ys,own1,H10,ho8,I10,st10,fun b hb=>(f10 b hb).1,w2⟩
       rintro n2 s11 ⟨j,ys2,own2,H11,ho11,I11,st11,fr11,w11⟩
       rcases turn2 j n2 ys2 own2 H11 w11 with⟨stop2,m',hm',w'⟩ | ⟨go2,step2⟩
       · refine thn (T2.done (a0h X scope cl (os++caps.map (·.2)) C s3 (upd H1 D (.lst [])) fp) rfl rfl rfl hc j _ s11 _ H11 _ I11 (stat fr11) st11 stop2) fun r s12 ⟨hr,I12⟩=>?_
         subst hr
         refine⟨m',hm',i+1,ys2,own2,H11,ho11,I12.unpinned,T.keep _ _ _ st7 fun b hb o e=>(I12.pin (b,o) (c2j _ (c2j _ (a1f hb e)))).1,fun b hb=>?_,w'⟩
         obtain⟨o,e,_⟩:=T.obj _ _ st7 b hb
         exact (I12.pin (b,o) (c2j _ (c2j _ (a1f hb e)))).2.1
       · refine thn (T2.item (a0h X scope cl (os++caps.map (·.2)) C s3 (upd H1 D (.lst [])) fp) rfl rfl rfl hc j _ s11 _ H11 _ I11 (stat fr11) st11 go2) fun r s12 ⟨u2,hr,h12⟩=>?_
         subst hr
         refine (thn h12 fun _ s13 ⟨y2,H13,I13,r13,y13,st13,fr13⟩=>?_)
         have I13':=I13.pinned (stat fr13) (T2.obj _ _ st13)
         refine wpAny_mono (hg2 cl C s3 _ fp _ s13 _ H13 y2 u2 _ I13' r13 (step2 y2 H13 y13 ho11)) (fun _ s14 ⟨σ14,H14,I14,own3,ho14,e14,q14⟩=>?_) fun _ _ z=>z.elim
         subst e14
         refine wpAny_mono (hi3 cl C s3 _ fp _ s14 _ H14 _ I14 q14) (fun v3 s15 h15=>?_) fun _ _ z=>z.elim
         refine wpAny_mono h15 (fun itv3 s16 h16=>?_) fun _ _ z=>z.elim
         obtain⟨it3,fp3,tn3,J3,H16,rfl,I16,T3,st16,f16,W3,⟨m3,w3⟩,turn3⟩:=h16
         have stat3:∀ {H':Hp},(∀ b∈fp3,H' b=none)→∀ b∈fp3,FpOk (a0h X scope cl (os++caps.map (·.2)) C s3 (upd H1 D (.lst [])) fp) ([]++a4d fp s7.heap++a4d fp2 s13.heap) H' b:=fun hn b hb=>⟨hn b hb,(f16 b hb).2⟩
         have loop3:codeAny (model X.prog X.w) X.A (.compLoop (.ListComp elt [⟨tg,iter,[],0⟩,⟨tg2,iter2,[],0⟩,⟨tg3,iter3,[],0⟩] scope pos) 2 (.ref it3) (.ref D) (compEnvC scope cl C X.env)) (fun r s'=>match r with
           | .ok _=>∃ m,m<n2∧∃ j ys2 own2 H',own2.length=os.length∧Inv (a0h X scope cl (os++caps.map (·.2)) C s3 (upd H1 D (.lst [])) fp) ([]++a4d fp s7.heap) (own2++capd σ (caps.map (·.1))) H' s'∧tn2 j s'.heap∧(∀ b∈fp2,H' b=none)∧W2 j m ys2 own2 H'
           | .error e=>cameBackBy (model X.prog X.w) X.A (compEnvC scope cl C X.env) (notedBy (model X.prog X.w) X.A (compEnvC scope cl C X.env) fun e s'=>(fun (r:Result) (s':Shared)=>match r with           | .ok _=>∃ m,m<n∧∃ i ys own H',own.length=os.length∧Inv (a0h X scope cl (os++caps.map (·.2)) C s3 (upd H1 D (.lst [])) fp) [] (own++capd σ (caps.map (·.1))) H' s'∧tn i s'.heap∧(∀ b∈fp,H' b=none)∧W i m ys H'           | .error e=>cameBackBy (model X.prog X.w) X.A (compEnvC scope cl C X.env) (notedBy (model X.prog X.w) X.A (compEnvC scope cl C X.env) fun e s'=>compPost (model X.prog X.w) X.A X.xe use R (.ref D) C (.error e) s') e s') (.error e) s') e s') s16:=by
           refine a9j (R:=fun r s'=>match r with
           | .ok _=>∃ m,m<n2∧∃ j ys2 own2 H',own2.length=os.length∧Inv (a0h X scope cl (os++caps.map (·.2)) C s3 (upd H1 D (.lst [])) fp) ([]++a4d fp s7.heap) (own2++capd σ (caps.map (·.1))) H' s'∧tn2 j s'.heap∧(∀ b∈fp2,H' b=none)∧W2 j m ys2 own2 H'
           | .error e=>cameBackBy (model X.prog X.w) X.A (compEnvC scope cl C X.env) (notedBy (model X.prog X.w) X.A (compEnvC scope cl C X.env) fun e s'=>(fun (r:Result) (s':Shared)=>match r with           | .ok _=>∃ m,m<n∧∃ i ys own H',own.length=os.length∧Inv (a0h X scope cl (os++caps.map (·.2)) C s3 (upd H1 D (.lst [])) fp) [] (own++capd σ (caps.map (·.1))) H' s'∧tn i s'.heap∧(∀ b∈fp,H' b=none)∧W i m ys H'           | .error e=>cameBackBy (model X.prog X.w) X.A (compEnvC scope cl C X.env) (notedBy (model X.prog X.w) X.A (compEnvC scope cl C X.env) fun e s'=>compPost (model X.prog X.w) X.A X.xe use R (.ref D) C (.error e) s') e s') (.error e) s') e s')
             (fun n3 s'=>∃ l ys3 own4 H',own4.length=os.length∧Inv (a0h X scope cl (os++caps.map (·.2)) C s3 (upd H1 D (.lst [])) fp) ([]++a4d fp s7.heap++a4d fp2 s13.heap) (own4++capd σ (caps.map (·.1))) H' s'∧tn3 l s'.heap∧(∀ b∈fp3,H' b=none)∧W3 l n3 ys3 own4 H') ?_ m3 ⟨0,ys2,own3,H16,ho14,I16,st16,fun b hb=>(f16 b hb).1,w3⟩
           rintro n3 s17 ⟨l,ys3,own4,H17,ho17,I17,st17,fr17,w17⟩
           rcases turn3 l n3 ys3 own4 H17 w17 with⟨stop3,m',hm',w'⟩ | ⟨go3,step3⟩
           · refine thn (T3.done (a0h X scope cl (os++caps.map (·.2)) C s3 (upd H1 D (.lst [])) fp) rfl rfl rfl hc l _ s17 _ H17 _ I17 (stat3 fr17) st17 stop3) fun r s18 ⟨hr,I18⟩=>?_
             subst hr
             refine⟨m',hm',j+1,ys3,own4,H17,ho17,I18.unpinned,T2.keep _ _ _ st13 fun b hb o e=>(I18.pin (b,o) (c2j _ (c2j _ (a1f hb e)))).1,fun b hb=>?_,w'⟩
             obtain⟨o,e,_⟩:=T2.obj _ _ st13 b hb
             exact (I18.pin (b,o) (c2j _ (c2j _ (a1f hb e)))).2.1
           · refine thn (T3.item (a0h X scope cl (os++caps.map (·.2)) C s3 (upd H1 D (.lst [])) fp) rfl rfl rfl hc l _ s17 _ H17 _ I17 (stat3 fr17) st17 go3) fun r s18 ⟨u3,hr,h18⟩=>?_
             subst hr
             refine (thn h18 fun _ s19 ⟨y3,H19,I19,r19,y19,st19,fr19⟩=>?_)
             have I19':=I19.pinned (stat3 fr19) (T3.obj _ _ st19)
             refine wpAny_mono (hg3 cl C s3 _ fp _ s19 _ H19 y3 u3 _ I19' r19 (step3 y3 H19 y19 ho17)) (fun _ s20 ⟨σ20,H20,I20,own5,ho20,e20,q20⟩=>?_) fun _ _ z=>z.elim
             subst e20
             refine wpAny_mono (he cl C s3 _ fp _ s20 _ H20 _ I20 q20) (fun xv s21 ⟨v21,H21,I21,r21,d21,l21,m21,lt21,w21⟩=>?_) fun _ _ z=>z.elim
             refine wpAny_mono (a2q (X:=(a0h X scope cl (os++caps.map (·.2)) C s3 (upd H1 D (.lst [])) fp)) _ s21 _ H21 (.ref D) [v21] (.ref D) [xv] (fun _ H10=>H10=upd H21 D (.lst (ys3++[v21]))) I21 rfl (.cons r21 .nil) ⟨D,ys3,v21,rfl,rfl,d21,l21,rfl⟩) (fun _ s22 ⟨_,H22,I22,_,e22⟩=>?_) fun _ _ z=>z.elim
             subst e22
             refine⟨m21,lt21,l+1,ys3++[v21],own5,_,ho20,I22.unpinned,T3.keep _ _ _ st19 fun b hb o e=>(I22.pin (b,o) (c2j _ (c2j _ (a1f hb e)))).1,fun b hb=>?_,w21⟩
             obtain⟨o,e,_⟩:=T3.obj _ _ st19 b hb
             exact (I22.pin (b,o) (c2j _ (c2j _ (a1f hb e)))).2.1
         exact a7m loop3 (T3.self _ 0 _ _ _ st16 loop3)
     exact a7n loop2 (T2.self _ 0 _ _ _ st10 loop2)
 exact codeAny_compStart_list loop (T.self _ 0 _ _ _ st4 loop)
theorem b9o{tg elt iter tg2 iter2 tg3 iter3:Expr}{os:List Str}{pos:Pos}{scope:Scope}{wi wi2 wi3:TI}{g g2 g3:TG}{te:TE}{caps:List (Nat×Str)}(hi:PI X tg iter wi)(hg:∀ cl C s0 H0 fp,PG (a0h X scope cl (os++caps.map (·.2)) C s0 H0 fp) tg g)(hi2:∀ cl C s0 H0 fp,PI (a0h X scope cl (os++caps.map (·.2)) C s0 H0 fp) tg2 iter2 wi2)(hg2:∀ cl C s0 H0 fp,PG (a0h X scope cl (os++caps.map (·.2)) C s0 H0 fp) tg2 g2)(hi3:∀ cl C s0 H0 fp,PI (a0h X scope cl (os++caps.map (·.2)) C s0 H0 fp) tg3 iter3 wi3)(hg3:∀ cl C s0 H0 fp,PG (a0h X scope cl (os++caps.map (·.2)) C s0 H0 fp) tg3 g3)(he:∀ cl C s0 H0 fp,PE (a0h X scope cl (os++caps.map (·.2)) C s0 H0 fp) elt te)(hfree:∀ y∈scope.names,y.2=.free→X.env.kindOf y.1=some .cell)(hcap:∀ p∈caps,X.N[p.1]?=some p.2∧X.env.kindOf p.2=some .cell∧((relabel scope X.env).names.lookup p.2=some .cell∨(relabel scope X.env).names.lookup p.2=some .free))(hkind:scope.kind=.function)(hcell:∀ y∈scope.names,y.2≠.cell)(hnames:∀ y∈scope.names,y.2=.local→scope.names.lookup y.1=some .local)(hc:X.calm=true)(hfs:∀ v,foldedSetIterable iter X.env v=pure v)(hfs2:∀ cl C v,foldedSetIterable iter2 (compEnvC scope cl C X.env) v=pure v)(hfs3:∀ cl C v,foldedSetIterable iter3 (compEnvC scope cl C X.env) v=pure v) :
   PE X (.ListComp elt [⟨tg,iter,[],0⟩,⟨tg2,iter2,[],0⟩,⟨tg3,iter3,[],0⟩] scope pos) (b4x os.length wi g wi2 g2 wi3 g3 te (caps.map (·.1))):=by
 intro pins s σ H Q I h
 rw[eval_ListComp]
 refine b7o (Q:=Q) (use:=none) (R:=EP X pins σ Q) hi hg hi2 hg2 hi3 hg3 he hfree hcap hkind hcell hnames hc hfs hfs2 hfs3 (fun D C H5 s6 m6 I6 n6 f6 q6=>?_) I h
 refine⟨m6,n6,fun h' hs'=>⟨.ref D,H5,?_,rfl,q6⟩⟩
 exact I6.turned (t':=s6.toks) (fun b o hb e=>(hs'.2 b hb).trans e) f6.1 f6.2.1 f6.2.2.2.1 f6.2.2.2.2.1 f6.2.2.2.2.2
theorem b9n{tg elt iter tg2 iter2 tg3 iter3:Expr}{os:List Str}{pos:Pos}{scope:Scope}{wi wi2 wi3:TI}{g g2 g3:TG}{te:TE}{caps:List (Nat×Str)}(N:List Str)(sc:Scope)(hi:PI X tg iter wi)(hg:∀ cl C s0 H0 fp,PG (a0h X scope cl (os++caps.map (·.2)) C s0 H0 fp) tg g)(hi2:∀ cl C s0 H0 fp,PI (a0h X scope cl (os++caps.map (·.2)) C s0 H0 fp) tg2 iter2 wi2)(hg2:∀ cl C s0 H0 fp,PG (a0h X scope cl (os++caps.map (·.2)) C s0 H0 fp) tg2 g2)(hi3:∀ cl C s0 H0 fp,PI (a0h X scope cl (os++caps.map (·.2)) C s0 H0 fp) tg3 iter3 wi3)(hg3:∀ cl C s0 H0 fp,PG (a0h X scope cl (os++caps.map (·.2)) C s0 H0 fp) tg3 g3)(he:∀ cl C s0 H0 fp,PE (a0h X scope cl (os++caps.map (·.2)) C s0 H0 fp) elt te)(ok:a3v N sc scope caps=true)(hN:X.N=N:=by rfl)(hsc:X.env.scope=sc:=by rfl)(hc:X.calm=true:=by rfl)(hfs:∀ v,foldedSetIterable iter X.env v=pure v:=by intro _;rfl)(hfs2:∀ cl C v,foldedSetIterable iter2 (compEnvC scope cl C X.env) v=pure v:=by intro _ _ _;rfl)(hfs3:∀ cl C v,foldedSetIterable iter3 (compEnvC scope cl C X.env) v=pure v:=by intro _ _ _;rfl) :
   PE X (.ListComp elt [⟨tg,iter,[],0⟩,⟨tg2,iter2,[],0⟩,⟨tg3,iter3,[],0⟩] scope pos) (b4x os.length wi g wi2 g2 wi3 g3 te (caps.map (·.1))):=by
 subst hN hsc
 unfold a3v at ok
 simp only[c4k,c6g,decide_eq_true_eq,c7s,c6z,decide_eq_false_iff_not] at ok
 obtain⟨⟨h1,h2⟩,h3⟩:=ok
 refine b9o hi hg hi2 hg2 hi3 hg3 he (fun y hy hf=>?_) (fun p hp=>?_) h1 (fun y hy=>(h2 y hy).1.1) (fun y hy hl=>?_) hc hfs hfs2 hfs3
 · rcases (h2 y hy).1.2 with z | z
   · exact absurd hf z
   · exact z
 · obtain⟨⟨a,b⟩,c⟩:=h3 p hp
   exact⟨a,b,a2x c⟩
 · rcases (h2 y hy).2 with z | z
   · exact absurd hl z
   · exact z
end
end Cv
namespace Cv
open PySem PySem.W PyProof.Rows
def gal':Bool→Keyed→Array Keyed→Nat→Nat→Nat→StateT SortSt Sem (Option Nat):=sortPriv% PySem.Builtin.gallop
def mlo':Array Keyed→Array Keyed→StateT SortSt Sem (Array Keyed):=sortPriv% PySem.Builtin.mergeLo
def mhi':Array Keyed→Array Keyed→StateT SortSt Sem (Array Keyed):=sortPriv% PySem.Builtin.mergeHi
structure Asks(M:Model)(A:Around)(E:Value→Shared→Prop)(s:Shared)(κ:SortKind)(It:Keyed→Prop)(lt:Keyed→Keyed→Bool):Prop where
 ask:∀ (x y:Keyed) (st:SortSt) (Q:Option Bool→SortSt→Prop),It x→It y→kindOf st=κ→Q (some (lt x y)) st→wpS M A E s (lt' x y) Q st
 asym:∀ x y,It x→It y→lt x y=true→lt y x=false
 trans:∀ x y z,It x→It y→It z→lt y x=false→lt z y=false→lt z x=false
section
variable {M:Model} {A:Around} {E:Value→Shared→Prop} {s:Shared} {κ:SortKind} {It:Keyed→Prop} {lt:Keyed→Keyed→Bool}
theorem a0u{arr:Array Keyed}{i:Nat}{x:Keyed}{st:SortSt}{Q:Keyed→SortSt→Prop}(h:arr[i]?=some x)(q:Q x st):wpS M A E s (elem' arr i) Q st:=by
 rw[elem'_eq,h];exact wpS_pure q
def bey(lt:Keyed→Keyed→Bool)(left:Bool)(key x:Keyed):Bool:=if left then lt x key else !(lt key x)
theorem a8d(C:Asks M A E s κ It lt){left:Bool}{key y:Keyed}{arr:Array Keyed}{i:Nat}{st:SortSt}{Q:Option Bool→SortSt→Prop}(hk:kindOf st=κ)(ik:It key)(hx:arr[i]?=some y)(iy:It y)(q:Q (some (bey lt left key y)) st) :
   wpS M A E s (elem' arr i >>= fun x=>if left=true then lt' x key else (lt' key x >>= fun r=>pure (Option.map (fun b=>!b) r))) Q st:=by
 refine wpS_bind (a0u hx ?_)
 unfold bey at q
 cases left with
 | true=>rw[if_pos rfl] at q ⊢;exact C.ask _ _ _ _ iy ik hk q
 | false=>
   rw[if_neg (by simp)] at q ⊢
   exact wpS_bind (C.ask _ _ _ _ ik iy hk (wpS_pure q))
theorem a2v(C:Asks M A E s κ It lt){left:Bool}{key:Keyed}{arr:Array Keyed}{base n hint:Nat}{x:Nat→Keyed}{st:SortSt}{Q:Option Nat→SortSt→Prop}(hk:kindOf st=κ)(ik:It key)(hx:∀ i,i<n→arr[base+i]?=some (x i))(ix:∀ i,i<n→It (x i))(hh:hint<n)(mono:∀ i j,i≤j→j<n→bey lt left key (x j)=true→bey lt left key (x i)=true)(hQ:∀ k,k≤n→(∀ i,i<k→bey lt left key (x i)=true)→(∀ i,k≤i→i<n→bey lt left key (x i)=false)→Q (some k) st):wpS M A E s (gal' left key arr base n hint) Q st:=by
 have monoF:∀ i j,i≤j→j<n→bey lt left key (x i)=false→bey lt left key (x j)=false:=fun i j hij hj h=>by
   cases e:bey lt left key (x j) with
   | false=>rfl
   | true=>have:=mono i j hij hj e;rw[h] at this;cases this
 unfold gal'
 refine wpS_bind (a8d C hk ik (hx hint hh) (ix hint hh) ?_)
 dsimp only
 have fin:∀ (lo hi:Nat) (f:Nat→(Option (Option Nat)×Nat×Nat)→StateT SortSt Sem (ForInStep (Option (Option Nat)×Nat×Nat))),lo≤hi→hi≤n→(∀ i,i<lo→bey lt left key (x i)=true)→(∀ i,hi≤i→i<n→bey lt left key (x i)=false)→
     (∀ (i lo hi:Nat) (G:ForInStep (Option (Option Nat)×Nat×Nat)→SortSt→Prop),lo<hi→hi≤n→(bey lt left key (x (lo+(hi - lo) / 2))=true→G (.yield (none,lo+(hi - lo) / 2+1,hi)) st)→(bey lt left key (x (lo+(hi - lo) / 2))=false→G (.yield (none,lo,lo+(hi - lo) / 2)) st)→wpS M A E s (f i (none,lo,hi)) G st)→
     (∀ (i lo hi:Nat) (G:ForInStep (Option (Option Nat)×Nat×Nat)→SortSt→Prop),hi≤lo→G (.done (none,lo,hi)) st→wpS M A E s (f i (none,lo,hi)) G st)→
     wpS M A E s (forIn [0:n] (none,lo,hi) f) (fun r st'=>st'=st∧∃ k,r=(none,k,k)∧k≤n∧(∀ i,i<k→bey lt left key (x i)=true)∧(∀ i,k≤i→i<n→bey lt left key (x i)=false)) st:=by
   intro lo hi f h1 h2 hlo hhi hf hd
   refine wpS_forRange (I:=fun t c st'=>st'=st∧∃ lo hi,c=(none,lo,hi)∧lo≤hi∧hi≤n∧hi - lo≤n - t∧(∀ i,i<lo→bey lt left key (x i)=true)∧(∀ i,hi≤i→i<n→bey lt left key (x i)=false)) ?_ ?_ ⟨rfl,lo,hi,rfl,h1,h2,by omega,hlo,hhi⟩
   · rintro t c st' _ ht ⟨rfl,lo,hi,rfl,h1,h2,h3,hlo,hhi⟩
     by_cases e:lo<hi
     · have hm:lo+(hi - lo) / 2<hi:=by omega
       refine hf t lo hi _ e h2 (fun b=>?_) (fun b=>?_)
       · exact⟨rfl,_,hi,rfl,by omega,h2,by omega,fun i hi'=>mono i _ (by omega) (by omega) b,hhi⟩
       · exact⟨rfl,lo,_,rfl,by omega,by omega,by omega,hlo,fun i h1 h2=>monoF _ i h1 h2 b⟩
     · obtain rfl:lo=hi:=by omega
       exact hd t lo lo _ (c2o _) ⟨rfl,lo,rfl,h2,hlo,hhi⟩
   · rintro c st' ⟨rfl,lo,hi,rfl,h1,h2,h3,hlo,hhi⟩
     obtain rfl:lo=hi:=by rw[c5u] at h3;omega
     exact⟨rfl,lo,rfl,h2,hlo,hhi⟩
 cases hb:bey lt left key (x hint) with
 | true=>
   rw[if_pos rfl]
   refine wpS_bind (wpS_mono (wpS_forRange (I:=fun t c st'=>st'=st∧∃ la ofs,c=(none,la,ofs)∧hint+la<n∧bey lt left key (x (hint+la))=true∧la<ofs∧t+1≤ofs) (Q:=fun c st'=>st'=st∧∃ la ofs,c=(none,la,ofs)∧hint+la<n∧bey lt left key (x (hint+la))=true∧la<ofs∧(n - hint≤ofs∨(hint+ofs<n∧bey lt left key (x (hint+ofs))=false))) ?_ ?_ ⟨rfl,0,1,rfl,by omega,hb,by omega,by omega⟩) ?_)
   · rintro t c st' _ ht ⟨rfl,la,ofs,rfl,h1,h2,h3,h4⟩
     dsimp only
     by_cases e:ofs≥n - hint
     · rw[if_pos e]
       exact wpS_pure ⟨rfl,la,ofs,rfl,h1,h2,h3,.inl e⟩
     · rw[if_neg e]
       refine wpS_bind (a8d C hk ik (hx (hint+ofs) (by omega)) (ix _ (by omega)) ?_)
       dsimp only
       cases b:bey lt left key (x (hint+ofs)) with
       | true=>
         rw[if_neg (by simp)]
         exact wpS_pure ⟨rfl,ofs,2*ofs+1,rfl,by omega,b,by omega,by omega⟩
       | false=>
         rw[if_pos (by simp)]
         exact wpS_pure ⟨rfl,la,ofs,rfl,h1,h2,h3,.inr ⟨by omega,b⟩⟩
   · rintro c st' ⟨rfl,la,ofs,rfl,h1,h2,h3,h4⟩
     rw[c5u] at h4
     exact⟨rfl,la,ofs,rfl,h1,h2,h3,.inl (by omega)⟩
   · rintro c st' ⟨rfl,la,ofs,rfl,h1,h2,h3,h4⟩
     dsimp only
     refine wpS_bind (wpS_mono (fin (hint+la+1) (hint+min ofs (n - hint)) _ (by omega) (by omega) (fun i hi=>?_) (fun i h5 h6=>?_) ?_ ?_) ?_)
     · exact mono i (hint+la) (by omega) h1 h2
     · rcases h4 with h4 | ⟨h4,h8⟩
       · omega
       · exact monoF (hint+ofs) i (by omega) h6 h8
     · intro i lo hi G e h2 g1 g2
       dsimp only
       rw[if_neg (by omega)]
       refine wpS_bind (a8d C hk ik (hx _ (by omega)) (ix _ (by omega)) ?_)
       dsimp only
       cases b:bey lt left key (x (lo+(hi - lo) / 2)) with
       | true=>rw[if_pos rfl];exact wpS_pure (g1 b)
       | false=>rw[if_neg (by simp)];exact wpS_pure (g2 b)
     · intro i lo hi G e g
       dsimp only
       rw[if_pos e]
       exact wpS_pure g
     · rintro c st'' ⟨rfl,k,rfl,h5,h6,h7⟩
       exact wpS_pure (hQ k h5 h6 h7)
 | false=>
   rw[if_neg (by simp)]
   refine wpS_bind (wpS_mono (wpS_forRange (I:=fun t c st'=>st'=st∧∃ la ofs,c=(none,la,ofs)∧la≤hint∧bey lt left key (x (hint - la))=false∧la<ofs∧t+1≤ofs) (Q:=fun c st'=>st'=st∧∃ la ofs,c=(none,la,ofs)∧la≤hint∧bey lt left key (x (hint - la))=false∧la<ofs∧(hint+1≤ofs∨(ofs≤hint∧bey lt left key (x (hint - ofs))=true))) ?_ ?_ ⟨rfl,0,1,rfl,by omega,hb,by omega,by omega⟩) ?_)
   · rintro t c st' _ ht ⟨rfl,la,ofs,rfl,h1,h2,h3,h4⟩
     dsimp only
     by_cases e:ofs≥hint+1
     · rw[if_pos e]
       exact wpS_pure ⟨rfl,la,ofs,rfl,h1,h2,h3,.inl e⟩
     · rw[if_neg e]
       refine wpS_bind (a8d C hk ik (hx (hint - ofs) (by omega)) (ix _ (by omega)) ?_)
       dsimp only
       cases b:bey lt left key (x (hint - ofs)) with
       | true=>
         rw[if_pos rfl]
         exact wpS_pure ⟨rfl,la,ofs,rfl,h1,h2,h3,.inr ⟨by omega,b⟩⟩
       | false=>
         rw[if_neg (by simp)]
         exact wpS_pure ⟨rfl,ofs,2*ofs+1,rfl,by omega,b,by omega,by omega⟩
   · rintro c st' ⟨rfl,la,ofs,rfl,h1,h2,h3,h4⟩
     rw[c5u] at h4
     exact⟨rfl,la,ofs,rfl,h1,h2,h3,.inl (by omega)⟩
   · rintro c st' ⟨rfl,la,ofs,rfl,h1,h2,h3,h4⟩
     dsimp only
     refine wpS_bind (wpS_mono (fin (hint+1 - min ofs (hint+1)) (hint - la) _ (by omega) (by omega) (fun i hi=>?_) (fun i h5 h6=>?_) ?_ ?_) ?_)
     · rcases h4 with h4 | ⟨h4,h8⟩
       · omega
       · exact mono i (hint - ofs) (by omega) (by omega) h8
     · exact monoF (hint - la) i h5 h6 h2
     · intro i lo hi G e h2 g1 g2
       dsimp only
       rw[if_neg (by omega)]
       refine wpS_bind (a8d C hk ik (hx _ (by omega)) (ix _ (by omega)) ?_)
       dsimp only
       cases b:bey lt left key (x (lo+(hi - lo) / 2)) with
       | true=>rw[if_pos rfl];exact wpS_pure (g1 b)
       | false=>rw[if_neg (by simp)];exact wpS_pure (g2 b)
     · intro i lo hi G e g
       dsimp only
       rw[if_pos e]
       exact wpS_pure g
     · rintro c st'' ⟨rfl,k,rfl,h5,h6,h7⟩
       exact wpS_pure (hQ k h5 h6 h7)
end
end Cv
namespace Cv
open PySem PySem.W PyProof.Rows
structure a3a(st st':SortSt):Prop where
 kind:kindOf st'=kindOf st
 arr:arrOf st'=arrOf st
 pend:pendingOf st'=pendingOf st
 fail:failedOf st'=failedOf st
theorem a3a.refl(st:SortSt):a3a st st:=⟨rfl,rfl,rfl,rfl⟩
theorem a3a.trans{a b c:SortSt}(h:a3a a b)(k:a3a b c):a3a a c:=⟨k.kind.trans h.kind,k.arr.trans h.arr,k.pend.trans h.pend,k.fail.trans h.fail⟩
structure MJ(lt:Keyed→Keyed→Bool)(as bs out:List Keyed)(i j:Nat):Prop where
 hi:i≤as.length
 hj:j≤bs.length
 perm:(out++(as.drop i++bs.drop j)).Perm (as++bs)
 srt:out.Pairwise fun x y=>lt y x=false
 low:∀ x∈out,∀ y,y∈as.drop i∨y∈bs.drop j→lt y x=false
section
variable {It:Keyed→Prop} {lt:Keyed→Keyed→Bool} {as bs out:List Keyed} {i j:Nat}
structure Two(It:Keyed→Prop)(lt:Keyed→Keyed→Bool)(as bs:List Keyed):Prop where
 ia:∀ x∈as,It x
 ib:∀ x∈bs,It x
 sa:as.Pairwise fun x y=>lt y x=false
 sb:bs.Pairwise fun x y=>lt y x=false
theorem a8a{as:List Keyed}(sa:as.Pairwise fun x y=>lt y x=false){i k:Nat}(h:i<k){x:Keyed}(hx:as[i]?=some x):∀ y∈as.drop k,lt y x=false:=fun y hy=>by
 obtain⟨t,ht,e⟩:=c3a hy
 rw[c3k] at ht
 have hi:=(c2q.mp hx)
 obtain⟨hi1,hi2⟩:=hi
 rw[List.getElem_drop] at e
 have:=c4m.mp sa i (k+t) hi1 (by omega) (by omega)
 rw[hi2,e] at this
 exact this
theorem a3q{as:List Keyed}{i:Nat}{x:Keyed}(hx:as[i]?=some x):as.drop i=x::as.drop (i+1):=by
 obtain⟨h,rfl⟩:=c2q.mp hx
 exact List.drop_eq_getElem_cons h
theorem MJ.len(h:MJ lt as bs out i j):out.length=i+j:=by
 have:=h.perm.length_eq
 have:=h.hi
 have:=h.hj
 simp only[c2k,c3k] at *
 omega
theorem MJ.takeA(T:Two It lt as bs)(h:MJ lt as bs out i j){x:Keyed}(hx:as[i]?=some x)(hb:∀ y∈bs.drop j,lt y x=false):MJ lt as bs (out++[x]) (i+1) j:=by
 have e:=a3q hx
 refine⟨(c2q.mp hx).1,h.hj,?_,?_,?_⟩
 · have:=h.perm
   rw[e] at this
   simpa using this
 · refine c3y.mpr ⟨h.srt,c6n _ _,fun u hu v hv=>?_⟩
   rw[c3h.mp hv]
   exact h.low u hu x (.inl (by rw[e];simp))
 · intro u hu y hy
   rcases c3n.mp hu with hu | hu
   · refine h.low u hu y (hy.imp (fun z=>?_) id)
     rw[e];exact c3q _ z
   · rw[c3h.mp hu]
     rcases hy with hy | hy
     · exact a8a T.sa (c6i i) hx y hy
     · exact hb y hy
theorem MJ.takeB(T:Two It lt as bs)(h:MJ lt as bs out i j){x:Keyed}(hx:bs[j]?=some x)(ha:∀ y∈as.drop i,lt y x=false):MJ lt as bs (out++[x]) i (j+1):=by
 have e:=a3q hx
 refine⟨h.hi,(c2q.mp hx).1,?_,?_,?_⟩
 · have:=h.perm
   rw[e] at this
   refine c6d.trans ?_ this
   rw[c3f]
   refine c6d.append_left out ?_
   show (x::(as.drop i++bs.drop (j+1))).Perm _
   exact List.perm_middle.symm
 · refine c3y.mpr ⟨h.srt,c6n _ _,fun u hu v hv=>?_⟩
   rw[c3h.mp hv]
   exact h.low u hu x (.inr (by rw[e];simp))
 · intro u hu y hy
   rcases c3n.mp hu with hu | hu
   · refine h.low u hu y (hy.imp id (fun z=>?_))
     rw[e];exact c3q _ z
   · rw[c3h.mp hu]
     rcases hy with hy | hy
     · exact ha y hy
     · exact a8a T.sb (c6i j) hx y hy
theorem MJ.takeAs(T:Two It lt as bs):∀ (k:Nat) {out:List Keyed} {i:Nat},MJ lt as bs out i j→i+k≤as.length→(∀ t x,t<k→as[i+t]?=some x→∀ y∈bs.drop j,lt y x=false)→MJ lt as bs (out++(as.drop i).take k) (i+k) j
 | 0,out,i,h,_,_=>by simpa using h
 | k+1,out,i,h,hk,hb=>by
   have hx:as[i]?=some (as[i]'(by omega (config:={}))):=c2e _
   have h1:=h.takeA T hx (hb 0 _ (by omega) hx)
   have h2:=MJ.takeAs T k h1 (by omega) fun t x ht e=>hb (t+1) x (by omega) (by rw[← e];congr 1;omega)
   rw[a3q hx,List.take_succ_cons]
   rw[show i+(k+1)=i+1+k by omega]
   simpa using h2
theorem MJ.takeBs(T:Two It lt as bs):∀ (k:Nat) {out:List Keyed} {j:Nat},MJ lt as bs out i j→j+k≤bs.length→(∀ t x,t<k→bs[j+t]?=some x→∀ y∈as.drop i,lt y x=false)→MJ lt as bs (out++(bs.drop j).take k) i (j+k)
 | 0,out,j,h,_,_=>by simpa using h
 | k+1,out,j,h,hk,hb=>by
   have hx:bs[j]?=some (bs[j]'(by omega (config:={}))):=c2e _
   have h1:=h.takeB T hx (hb 0 _ (by omega) hx)
   have h2:=MJ.takeBs T k h1 (by omega) fun t x ht e=>hb (t+1) x (by omega) (by rw[← e];congr 1;omega)
   rw[a3q hx,List.take_succ_cons]
   rw[show j+(k+1)=j+1+k by omega]
   simpa using h2
def Mgd(lt:Keyed→Keyed→Bool)(as bs r:List Keyed):Prop:=r.Perm (as++bs)∧r.Pairwise fun x y=>lt y x=false
theorem MJ.doneA(T:Two It lt as bs)(h:MJ lt as bs out i j)(hj:bs.length≤j∨as.length≤i):Mgd lt as bs (out++as.drop i++bs.drop j):=by
 refine⟨by rw[c3f];exact h.perm,?_⟩
 rcases hj with e | e
 · rw[c5x e,c5d]
   exact c3y.mpr ⟨h.srt,T.sa.sublist (c6w _ _),fun x hx y hy=>h.low x hx y (.inl hy)⟩
 · rw[c5x e,c5d]
   exact c3y.mpr ⟨h.srt,T.sb.sublist (c6w _ _),fun x hx y hy=>h.low x hx y (.inr hy)⟩
theorem MJ.doneL(T:Two It lt as bs)(h:MJ lt as bs out i j)(hl:∀ x∈as.drop i,∀ y∈bs,lt x y=false):Mgd lt as bs (out++bs.drop j++as.drop i):=by
 refine⟨?_,?_⟩
 · rw[c3f]
   exact (c6d.append_left out List.perm_append_comm).trans h.perm
 · rw[c3f]
   refine c3y.mpr ⟨h.srt,c3y.mpr ⟨T.sb.sublist (c6w _ _),T.sa.sublist (c6w _ _),fun x hx y hy=>hl y hy x (c4f hx)⟩,fun x hx y hy=>?_⟩
   rcases c3n.mp hy with hy | hy
   · exact h.low x hx y (.inr hy)
   · exact h.low x hx y (.inl hy)
end
end Cv
namespace Cv
open PySem PySem.W PyProof.Rows
section
variable {M:Model} {A:Around} {E:Value→Shared→Prop} {s:Shared} {κ:SortKind} {It:Keyed→Prop} {lt:Keyed→Keyed→Bool}
theorem a2o{α:Type}{c:Prop}[Decidable c]{m1 m2:StateT SortSt Sem α}{st:SortSt}{Q:α→SortSt→Prop}(h1:wpS M A E s m1 Q st)(h2:wpS M A E s m2 Q st):wpS M A E s (if c then m1 else m2) Q st:=by
 by_cases h:c
 · rw[if_pos h];exact h1
 · rw[if_neg h];exact h2
theorem a7q{g:Nat}{st:SortSt}{Q:PUnit→SortSt→Prop}(q:∀ st',a3a st st'→Q ⟨⟩ st'):wpS M A E s ((sortPriv% PySem.Builtin.setMinGallop) g) Q st:=
 wpS_modify (q _ ⟨rfl,rfl,rfl,rfl⟩)
theorem a1y{a:Array Keyed}{i:Nat}(h:i<a.size):a[i]?=some a[i]∧a.toList[i]?=some a[i]:=⟨c4i _,by rw[c4s];exact c4i _⟩
theorem a1w{out a b:Array Keyed}{i j:Nat}:(out++a.extract i++b.extract j).toList=out.toList++a.toList.drop i++b.toList.drop j:=by
 simp only[c7k,c5o,c4z]
 rw[c4x (by simp),c4x (by simp)]
theorem b1j{out a:Array Keyed}{i k:Nat}:(out++a.extract i (i+k)).toList=out.toList++(a.toList.drop i).take k:=by
 simp
theorem a5b(C:Asks M A E s κ It lt){left:Bool}{key x:Keyed}(ik:It key)(ix:It x)(h:bey lt left key x=true):lt key x=false:=by
 unfold bey at h
 cases left with
 | true=>exact C.asym _ _ ix ik (by simpa using h)
 | false=>simpa using h
theorem a5c(C:Asks M A E s κ It lt){left:Bool}{key x:Keyed}(ik:It key)(ix:It x)(h:bey lt left key x=false):lt x key=false:=by
 unfold bey at h
 cases left with
 | true=>simpa using h
 | false=>exact C.asym _ _ ik ix (by simpa using h)
theorem a4e(C:Asks M A E s κ It lt){left:Bool}{key:Keyed}{x:Nat→Keyed}{n:Nat}(ik:It key)(ix:∀ i,i<n→It (x i))(srt:∀ p q,p≤q→q<n→lt (x q) (x p)=false):∀ p q,p≤q→q<n→bey lt left key (x q)=true→bey lt left key (x p)=true:=by
 intro p q hpq hq h
 have s1:=srt p q hpq hq
 unfold bey at h ⊢
 cases left with
 | true=>
   simp only[if_true] at h ⊢
   cases e:lt (x p) key with
   | true=>rfl
   | false=>
     have:=C.trans key (x p) (x q) ik (ix p (by omega)) (ix q hq) e s1
     rw[h] at this;cases this
 | false=>
   have h':lt key (x q)=false:=by simpa using h
   have:=C.trans (x p) (x q) key (ix p (by omega)) (ix q hq) ik s1 h'
   simpa using this
def elF(a:Array Keyed)(d:Keyed)(i p:Nat):Keyed:=(a[i+p]?).getD d
theorem a5a{a:Array Keyed}{d:Keyed}{i p:Nat}(h:i+p<a.size):a[i+p]?=some (elF a d i p):=by unfold elF;rw[c4i h];rfl
theorem a0o{a:Array Keyed}{d:Keyed}{i p:Nat}(h:i+p<a.size):elF a d i p=a[i+p]:=by unfold elF;rw[c4i h];rfl
theorem a4z(hr:∀ x:Keyed,It x→lt x x=false){a:Array Keyed}(ia:∀ x∈a.toList,It x)(sa:a.toList.Pairwise fun x y=>lt y x=false)(d:Keyed)(i:Nat):∀ p q,p≤q→i+q<a.size→lt (elF a d i q) (elF a d i p)=false:=by
 intro p q hpq hq
 rw[a0o hq,a0o (by omega)]
 by_cases e:p=q
 · subst e;exact hr _ (ia _ (by simp))
 · have:=c4m.mp sa (i+p) (i+q) (by simpa using (by omega:i+p<a.size)) (by simpa using hq) (by omega)
   simpa using this
theorem Asks.irr(C:Asks M A E s κ It lt):∀ x,It x→lt x x=false:=fun x ix=>by
 cases e:lt x x with
 | false=>rfl
 | true=>have:=C.asym x x ix ix e;rw[e] at this;exact this
structure MI(lt:Keyed→Keyed→Bool)(a b out:Array Keyed)(i j:Nat):Prop where
 mj:MJ lt a.toList b.toList out.toList i j
 hi:i+1<a.size
 hj:j<b.size
theorem MJ.push_a{a b out:Array Keyed}{i j:Nat}{x:Keyed}(h:MJ lt a.toList b.toList (out.toList++[x]) i j):MJ lt a.toList b.toList (out.push x).toList i j:=by rw[c6y];exact h
theorem wpS_mlo(C:Asks M A E s κ It lt){a b:Array Keyed}{st:SortSt}{Q:Array Keyed→SortSt→Prop}(T:Two It lt a.toList b.toList)(na:1≤a.size)(nb:1≤b.size)(hk:kindOf st=κ)(h0:∀ x,b[0]?=some x→∀ y∈a.toList,lt y x=false)(hl:∀ x,a[a.size - 1]?=some x→∀ y∈b.toList,lt x y=false)(hQ:∀ r st',a3a st st'→Mgd lt a.toList b.toList r.toList→Q r st'):wpS M A E s (mlo' a b) Q st:=by
 have la:a.toList.length=a.size:=c2g
 have lb:b.toList.length=b.size:=c2g
 have ita:∀ i (h:i<a.size),It a[i]:=fun i h=>T.ia _ (by simp)
 have itb:∀ i (h:i<b.size),It b[i]:=fun i h=>T.ib _ (by simp)
 obtain⟨e0,e0'⟩:=a1y (show 0<b.size by omega)
 have mj0:MJ lt a.toList b.toList [b[0]] 0 1:=by
   have:MJ lt a.toList b.toList [] 0 0:=⟨c4d _,c4d _,by simp,.nil,fun x hx=>by simp at hx⟩
   exact this.takeB T e0' fun y hy=>h0 _ e0 y (by simpa using hy)
 have last:∀ i,a.size≤i+1→∀ x∈a.toList.drop i,∀ y∈b.toList,lt x y=false:=fun i hi x hx y hy=>by
   obtain⟨t,ht,e⟩:=c3a hx
   rw[c3k,la] at ht
   rw[List.getElem_drop] at e
   refine hl x ?_ y hy
   rw[← e,c6e,c4i (by omega)]
   congr 2;omega
 have upA:∀ i (h:i<a.size) y,It y→lt a[i] y=false→∀ z∈a.toList.drop i,lt z y=false:=fun i h y iy hy z hz=>by
   rw[a3q (a1y h).2] at hz
   rcases c2x.mp hz with rfl | hz
   · exact hy
   · exact C.trans y a[i] z iy (ita i h) (T.ia z (c4f hz)) hy (a8a T.sa (c6i i) (a1y h).2 z hz)
 have upB:∀ i (h:i<b.size) y,It y→lt b[i] y=false→∀ z∈b.toList.drop i,lt z y=false:=fun i h y iy hy z hz=>by
   rw[a3q (a1y h).2] at hz
   rcases c2x.mp hz with rfl | hz
   · exact hy
   · exact C.trans y b[i] z iy (itb i h) (T.ib z (c4f hz)) hy (a8a T.sb (c6i i) (a1y h).2 z hz)
 unfold mlo'
 refine wpS_bind (wpS_lift (wpAny_rule ⟨rfl,?_⟩))
 refine wpS_bind (a0u e0 ?_)
 dsimp only
 by_cases c1:1=b.size
 · rw[if_pos (by simpa using c1)]
   refine wpS_pure (hQ _ _ (a3a.refl _) ?_)
   have:=mj0.doneA T (.inl (by omega))
   rw[a1w];simpa using this
 · rw[if_neg (by simpa using c1)]
   by_cases c2:0+1=a.size
   · rw[if_pos (by simpa using c2)]
     refine wpS_pure (hQ _ _ (a3a.refl _) ?_)
     have:=mj0.doneL T (last 0 (by omega))
     rw[a1w];simpa using this
   · rw[if_neg (by simpa using c2)]
     refine wpS_bind (wpS_get ?_)
     refine wpS_bind (wpS_mono (wpS_forRange (I:=fun t c st'=>a3a st st'∧∃ out i j g,c=(none,out,i,j,g)∧MI lt a b out i j∧t+1≤out.size) (Q:=fun c st'=>a3a st st'∧∃ r o,c=(some r,o)∧Mgd lt a.toList b.toList r.toList) ?_ ?_ ⟨a3a.refl _,_,_,_,_,rfl,⟨by simpa using mj0,by omega,by omega⟩,by simp⟩) ?_)
     · rintro t c st1 _ ht ⟨s1,out,i,j,g,rfl,hM,hs⟩
       dsimp only
       refine wpS_bind (wpS_mono (wpS_forRange (I:=fun t' c st'=>a3a st st'∧∃ out i j ac bc,c=(none,out,i,j,ac,bc)∧MI lt a b out i j∧t+1+t'≤out.size) (Q:=fun c st'=>a3a st st'∧((∃ r o,c=(some r,o)∧Mgd lt a.toList b.toList r.toList)∨∃ out i j ac bc,c=(none,out,i,j,ac,bc)∧MI lt a b out i j∧t+2≤out.size)) ?_ ?_ ⟨s1,out,i,j,0,0,rfl,hM,hs⟩) ?_)
       · rintro t' c st2 _ ht' ⟨s2,out,i,j,ac,bc,rfl,hM,hs⟩
         dsimp only
         obtain⟨mj,hi,hj⟩:=hM
         obtain⟨ea,ea'⟩:=a1y (show i<a.size by omega)
         obtain⟨eb,eb'⟩:=a1y hj
         refine wpS_bind (a0u eb (wpS_bind (a0u ea (wpS_bind (C.ask _ _ _ _ (itb j hj) (ita i (by omega)) (s2.kind.trans hk) ?_)))))
         dsimp only
         cases hb:lt b[j] a[i] with
         | true=>
           rw[if_pos rfl]
           refine wpS_bind (a0u eb ?_)
           have m2:=(mj.takeB T eb' (upA i (by omega) _ (itb j hj) (C.asym _ _ (itb j hj) (ita i (by omega)) hb))).push_a
           by_cases c3:j+1=b.size
           · rw[if_pos (by simpa using c3)]
             refine wpS_pure ⟨s2,.inl ⟨_,_,rfl,?_⟩⟩
             rw[a1w];exact m2.doneA T (.inl (by omega))
           · rw[if_neg (by simpa using c3)]
             refine a2o ?_ ?_
             · exact wpS_pure ⟨s2,.inr ⟨_,_,_,_,_,rfl,⟨m2,hi,by omega⟩,by rw[c5r];omega⟩⟩
             · exact wpS_pure ⟨s2,_,_,_,_,_,rfl,⟨m2,hi,by omega⟩,by rw[c5r];omega⟩
         | false=>
           rw[if_neg (by simp)]
           refine wpS_bind (a0u ea ?_)
           have m2:=(mj.takeA T ea' (upB j hj _ (ita i (by omega)) hb)).push_a
           by_cases c3:i+1+1=a.size
           · rw[if_pos (by simpa using c3)]
             refine wpS_pure ⟨s2,.inl ⟨_,_,rfl,?_⟩⟩
             rw[a1w];exact m2.doneL T (last (i+1) (by omega))
           · rw[if_neg (by simpa using c3)]
             refine a2o ?_ ?_
             · exact wpS_pure ⟨s2,.inr ⟨_,_,_,_,_,rfl,⟨m2,by omega,hj⟩,by rw[c5r];omega⟩⟩
             · exact wpS_pure ⟨s2,_,_,_,_,_,rfl,⟨m2,by omega,hj⟩,by rw[c5r];omega⟩
       · rintro c st2 ⟨s2,out,i,j,ac,bc,rfl,hM,hs⟩
         rw[c5u] at hs
         exact⟨s2,.inr ⟨out,i,j,ac,bc,rfl,hM,by omega⟩⟩
       · rintro c st2 ⟨s2,⟨r,o,rfl,hr⟩ | ⟨out,i,j,ac,bc,rfl,hM,hs⟩⟩
         · dsimp only
           exact wpS_pure ⟨s2,r,_,rfl,hr⟩
         · dsimp only
           refine wpS_bind (wpS_lift (wpAny_rule ⟨rfl,?_⟩))
           refine wpS_bind (wpS_mono (wpS_forRange (I:=fun t' c st'=>a3a st st'∧∃ out i j g ac bc,c=(none,out,i,j,g,ac,bc)∧MI lt a b out i j∧t+2≤out.size) (Q:=fun c st'=>a3a st st'∧((∃ r o,c=(some r,o)∧Mgd lt a.toList b.toList r.toList)∨∃ out i j g ac bc,c=(none,out,i,j,g,ac,bc)∧MI lt a b out i j∧t+2≤out.size)) ?_ ?_ ⟨s2,out,i,j,_,ac,bc,rfl,hM,hs⟩) ?_)
           · rintro t' c st3 _ ht' ⟨s3,out,i,j,g,ac,bc,rfl,hM,hs⟩
             obtain⟨mj,hi,hj⟩:=hM
             obtain⟨ea,ea'⟩:=a1y (show i<a.size by omega)
             obtain⟨eb,eb'⟩:=a1y hj
             dsimp only
             refine a2o ?_ ?_
             all_goals
               refine wpS_bind (a7q fun st4 s34=>?_)
               have s4:=s3.trans s34
               refine wpS_bind (a0u eb ?_)
               refine wpS_bind (a2v C (x:=elF a b[j] i) (s4.kind.trans hk) (itb j hj) (fun p hp=>a5a (by omega)) (fun p hp=>by rw[a0o (by omega)];exact ita _ (by omega)) (by omega) (a4e C (itb j hj) (fun p hp=>by rw[a0o (by omega)];exact ita _ (by omega)) fun p q h1 h2=>a4z C.irr T.ia T.sa _ _ p q h1 (by omega)) fun k hk0 hk1 hk2=>?_)
               dsimp only
               by_cases k3:k > 0
               · rw[if_pos k3]
                 have m2:=mj.takeAs T k (by omega) (fun u x hu ex y hy=>upB j hj x (T.ia x (c2m ex)) (by
                   have h1:=a5b C (itb j hj) (by rw[a0o (by omega)];exact ita _ (by omega)) (hk1 u hu)
                   rw[a0o (show i+u<a.size by omega)] at h1
                   rw[c2e (show i+u<a.toList.length by omega)] at ex
                   rw[← c2u.inj ex,c6e];exact h1) y hy)
                 rw[← b1j] at m2
                 by_cases c4:i+k+1=a.size
                 · rw[if_pos (by simpa using c4)]
                   refine wpS_pure ⟨s4,.inl ⟨_,_,rfl,?_⟩⟩
                   rw[a1w];exact m2.doneL T (last _ (by omega))
                 rw[if_neg (by simpa using c4)]
                 by_cases c5:i+k=a.size
                 · rw[if_pos (by simpa using c5)]
                   refine wpS_pure ⟨s4,.inl ⟨_,_,rfl,?_⟩⟩
                   rw[a1w];exact m2.doneA T (.inr (by omega))
                 rw[if_neg (by simpa using c5)]
                 have hI:i+k<a.size:=by omega
                 have h5:=hk2 k (c2o _) (by omega)
                 have h6:=a5c C (itb j hj) (by rw[a0o (by omega)];exact ita _ (by omega)) h5
                 rw[a0o (by omega)] at h6
                 refine wpS_bind (a0u eb ?_)
                 have m3:=(m2.takeB T eb' (upA _ hI _ (itb j hj) h6)).push_a
                 by_cases c8:j+1=b.size
                 · rw[if_pos (by simpa using c8)]
                   refine wpS_pure ⟨s4,.inl ⟨_,_,rfl,?_⟩⟩
                   rw[a1w];exact m3.doneA T (.inl (by omega))
                 rw[if_neg (by simpa using c8)]
                 refine wpS_bind (a0u (a1y hI).1 ?_)
                 refine wpS_bind (a2v C (x:=elF b b[j] (j+1)) (s4.kind.trans hk) (ita _ hI) (fun p hp=>a5a (by omega)) (fun p hp=>by rw[a0o (by omega)];exact itb _ (by omega)) (by omega) (a4e C (ita _ hI) (fun p hp=>by rw[a0o (by omega)];exact itb _ (by omega)) fun p q h1 h2=>a4z C.irr T.ib T.sb _ _ p q h1 (by omega)) fun k2 hk4 hk5 hk6=>?_)
                 dsimp only
                 have s5:=s4
                 by_cases k4:k2 > 0
                 · rw[if_pos k4]
                   have m4:=m3.takeBs T k2 (by omega) (fun u x hu ex y hy=>upA _ hI x (T.ib x (c2m ex)) (by
                     have h1:=a5b C (ita _ hI) (by rw[a0o (by omega)];exact itb _ (by omega)) (hk5 u hu)
                     rw[a0o (show j+1+u<b.size by omega)] at h1
                     rw[c2e (show j+1+u<b.toList.length by omega)] at ex
                     rw[← c2u.inj ex,c6e];exact h1) y hy)
                   rw[← b1j] at m4
                   by_cases c6:j+1+k2=b.size
                   · rw[if_pos (by simpa using c6)]
                     refine wpS_pure ⟨s5,.inl ⟨_,_,rfl,?_⟩⟩
                     rw[a1w];exact m4.doneA T (.inl (by omega))
                   rw[if_neg (by simpa using c6)]
                   have hJ:j+1+k2<b.size:=by omega
                   refine wpS_bind (a0u (a1y hI).1 ?_)
                   have h7:=hk6 _ (c2o _) (by omega)
                   have h8:=a5c C (ita _ hI) (by rw[a0o (by omega)];exact itb _ (by omega)) h7
                   rw[a0o (by omega)] at h8
                   have m5:=(m4.takeA T (a1y hI).2 (upB _ hJ _ (ita _ hI) h8)).push_a
                   by_cases c7:i+k+1+1=a.size
                   · rw[if_pos (by simpa using c7)]
                     refine wpS_pure ⟨s5,.inl ⟨_,_,rfl,?_⟩⟩
                     rw[a1w];exact m5.doneL T (last _ (by omega))
                   rw[if_neg (by simpa using c7)]
                   have sz:=m5.len
                   rw[c2g] at sz
                   have szo:=mj.len
                   rw[c2g] at szo
                   refine a2o ?_ ?_
                   · exact wpS_pure ⟨s5,.inr ⟨_,_,_,_,_,_,rfl,⟨m5,by omega,hJ⟩,by omega⟩⟩
                   · exact wpS_pure ⟨s5,_,_,_,_,_,_,rfl,⟨m5,by omega,hJ⟩,by omega⟩
                 · rw[if_neg k4]
                   have k20:k2=0:=by omega
                   subst k20
                   have m4:=m3
                   have hJ:j+1+0<b.size:=by omega
                   refine wpS_bind (a0u (a1y hI).1 ?_)
                   have h7:=hk6 _ (c2o _) (by omega)
                   have h8:=a5c C (ita _ hI) (by rw[a0o (by omega)];exact itb _ (by omega)) h7
                   rw[a0o (by omega)] at h8
                   have m5:=(m4.takeA T (a1y hI).2 (upB _ hJ _ (ita _ hI) h8)).push_a
                   by_cases c7:i+k+1+1=a.size
                   · rw[if_pos (by simpa using c7)]
                     refine wpS_pure ⟨s5,.inl ⟨_,_,rfl,?_⟩⟩
                     rw[a1w];exact m5.doneL T (last _ (by omega))
                   rw[if_neg (by simpa using c7)]
                   have sz:=m5.len
                   rw[c2g] at sz
                   have szo:=mj.len
                   rw[c2g] at szo
                   refine a2o ?_ ?_
                   · exact wpS_pure ⟨s5,.inr ⟨_,_,_,_,_,_,rfl,⟨m5,by omega,hJ⟩,by omega⟩⟩
                   · exact wpS_pure ⟨s5,_,_,_,_,_,_,rfl,⟨m5,by omega,hJ⟩,by omega⟩
               · rw[if_neg k3]
                 have k0:k=0:=by omega
                 subst k0
                 have m2:=mj
                 have hI:i<a.size:=by omega
                 have h5:=hk2 0 (c2o _) (by omega)
                 have h6:=a5c C (itb j hj) (by rw[a0o (by omega)];exact ita _ (by omega)) h5
                 rw[a0o (by omega)] at h6
                 refine wpS_bind (a0u eb ?_)
                 have m3:=(m2.takeB T eb' (upA _ hI _ (itb j hj) h6)).push_a
                 by_cases c8:j+1=b.size
                 · rw[if_pos (by simpa using c8)]
                   refine wpS_pure ⟨s4,.inl ⟨_,_,rfl,?_⟩⟩
                   rw[a1w];exact m3.doneA T (.inl (by omega))
                 rw[if_neg (by simpa using c8)]
                 refine wpS_bind (a0u (a1y hI).1 ?_)
                 refine wpS_bind (a2v C (x:=elF b b[j] (j+1)) (s4.kind.trans hk) (ita _ hI) (fun p hp=>a5a (by omega)) (fun p hp=>by rw[a0o (by omega)];exact itb _ (by omega)) (by omega) (a4e C (ita _ hI) (fun p hp=>by rw[a0o (by omega)];exact itb _ (by omega)) fun p q h1 h2=>a4z C.irr T.ib T.sb _ _ p q h1 (by omega)) fun k2 hk4 hk5 hk6=>?_)
                 dsimp only
                 have s5:=s4
                 by_cases k4:k2 > 0
                 · rw[if_pos k4]
                   have m4:=m3.takeBs T k2 (by omega) (fun u x hu ex y hy=>upA _ hI x (T.ib x (c2m ex)) (by
                     have h1:=a5b C (ita _ hI) (by rw[a0o (by omega)];exact itb _ (by omega)) (hk5 u hu)
                     rw[a0o (show j+1+u<b.size by omega)] at h1
                     rw[c2e (show j+1+u<b.toList.length by omega)] at ex
                     rw[← c2u.inj ex,c6e];exact h1) y hy)
                   rw[← b1j] at m4
                   by_cases c6:j+1+k2=b.size
                   · rw[if_pos (by simpa using c6)]
                     refine wpS_pure ⟨s5,.inl ⟨_,_,rfl,?_⟩⟩
                     rw[a1w];exact m4.doneA T (.inl (by omega))
                   rw[if_neg (by simpa using c6)]
                   have hJ:j+1+k2<b.size:=by omega
                   refine wpS_bind (a0u (a1y hI).1 ?_)
                   have h7:=hk6 _ (c2o _) (by omega)
                   have h8:=a5c C (ita _ hI) (by rw[a0o (by omega)];exact itb _ (by omega)) h7
                   rw[a0o (by omega)] at h8
                   have m5:=(m4.takeA T (a1y hI).2 (upB _ hJ _ (ita _ hI) h8)).push_a
                   by_cases c7:i+1+1=a.size
                   · rw[if_pos (by simpa using c7)]
                     refine wpS_pure ⟨s5,.inl ⟨_,_,rfl,?_⟩⟩
                     rw[a1w];exact m5.doneL T (last _ (by omega))
                   rw[if_neg (by simpa using c7)]
                   have sz:=m5.len
                   rw[c2g] at sz
                   have szo:=mj.len
                   rw[c2g] at szo
                   refine a2o ?_ ?_
                   · exact wpS_pure ⟨s5,.inr ⟨_,_,_,_,_,_,rfl,⟨m5,by omega,hJ⟩,by omega⟩⟩
                   · exact wpS_pure ⟨s5,_,_,_,_,_,_,rfl,⟨m5,by omega,hJ⟩,by omega⟩
                 · rw[if_neg k4]
                   have k20:k2=0:=by omega
                   subst k20
                   have m4:=m3
                   have hJ:j+1+0<b.size:=by omega
                   refine wpS_bind (a0u (a1y hI).1 ?_)
                   have h7:=hk6 _ (c2o _) (by omega)
                   have h8:=a5c C (ita _ hI) (by rw[a0o (by omega)];exact itb _ (by omega)) h7
                   rw[a0o (by omega)] at h8
                   have m5:=(m4.takeA T (a1y hI).2 (upB _ hJ _ (ita _ hI) h8)).push_a
                   by_cases c7:i+1+1=a.size
                   · rw[if_pos (by simpa using c7)]
                     refine wpS_pure ⟨s5,.inl ⟨_,_,rfl,?_⟩⟩
                     rw[a1w];exact m5.doneL T (last _ (by omega))
                   rw[if_neg (by simpa using c7)]
                   have sz:=m5.len
                   rw[c2g] at sz
                   have szo:=mj.len
                   rw[c2g] at szo
                   refine a2o ?_ ?_
                   · exact wpS_pure ⟨s5,.inr ⟨_,_,_,_,_,_,rfl,⟨m5,by omega,hJ⟩,by omega⟩⟩
                   · exact wpS_pure ⟨s5,_,_,_,_,_,_,rfl,⟨m5,by omega,hJ⟩,by omega⟩
           · rintro c st3 ⟨s3,out,i,j,g,ac,bc,rfl,hM,hs⟩
             exact⟨s3,.inr ⟨out,i,j,g,ac,bc,rfl,hM,hs⟩⟩
           · rintro c st3 ⟨s3,⟨r,o,rfl,hr⟩ | ⟨out,i,j,g,ac,bc,rfl,hM,hs⟩⟩
             · dsimp only
               exact wpS_pure ⟨s3,r,_,rfl,hr⟩
             · dsimp only
               refine wpS_bind (a7q fun st4 s4=>?_)
               exact wpS_pure ⟨s3.trans s4,_,_,_,_,rfl,hM,by omega⟩
     · rintro c st1 ⟨s1,out,i,j,g,rfl,hM,hs⟩
       rw[c5u] at hs
       have:=hM.mj.len
       have:=hM.hi
       have:=hM.hj
       rw[c2g] at *
       omega
     · rintro c st1 ⟨s1,r,o,rfl,hr⟩
       exact wpS_pure (hQ r st1 s1 hr)
end
end Cv
namespace Cv
open PySem PySem.W PyProof.Rows
section
variable {M:Model} {A:Around} {E:Value→Shared→Prop} {s:Shared} {κ:SortKind} {It:Keyed→Prop} {lt:Keyed→Keyed→Bool}
def opp(lt:Keyed→Keyed→Bool)(x y:Keyed):Bool:=lt y x
theorem Two.opp{as bs:List Keyed}(T:Two It lt as bs):Two It (opp lt) as.reverse bs.reverse:=
 ⟨fun x hx=>T.ia x (c5l.mp hx),fun x hx=>T.ib x (c5l.mp hx),c6b.mpr T.sa,c6b.mpr T.sb⟩
theorem a8q{l:List Keyed}{n:Nat}(h:n≤l.length):l.reverse.drop (l.length - n)=(l.take n).reverse:=by
 rw[List.drop_reverse];congr 1;congr 1;omega
theorem rget{l:List Keyed}{n:Nat}(h:n<l.length):l.reverse[l.length - (n+1)]?=l[n]?:=by
 rw[c6x (by omega)];congr 1;omega
structure MH(lt:Keyed→Keyed→Bool)(a b out:Array Keyed)(na nb:Nat):Prop where
 mj:MJ (opp lt) a.toList.reverse b.toList.reverse out.toList (a.size - na) (b.size - nb)
 ha:na≤a.size
 hb:nb≤b.size
theorem MH.len{a b out:Array Keyed}{na nb:Nat}(h:MH lt a b out na nb):out.size+na+nb=a.size+b.size:=by
 have:=h.mj.len
 have:=h.ha
 have:=h.hb
 rw[c2g] at *
 omega
theorem MH.pa{a b out:Array Keyed}{na nb:Nat}(T:Two It lt a.toList b.toList)(h:MH lt a b out (na+1) nb)(hn:na<a.size)(hy:∀ y∈b.toList.take nb,lt a[na] y=false):MH lt a b (out.push a[na]) na nb:=by
 have la:a.toList.length=a.size:=c2g
 have lb:b.toList.length=b.size:=c2g
 refine⟨?_,by omega,h.hb⟩
 have:=h.mj.takeA T.opp (x:=a[na]) (by rw[← la,rget (by omega),(a1y hn).2]) (fun y hy'=>by
   rw[← lb,a8q (by rw[lb];exact h.hb)] at hy'
   exact hy y (c5l.mp hy'))
 rw[show a.size - (na+1)+1=a.size - na by omega] at this
 rw[c6y];exact this
theorem MH.pb{a b out:Array Keyed}{na nb:Nat}(T:Two It lt a.toList b.toList)(h:MH lt a b out na (nb+1))(hn:nb<b.size)(hy:∀ y∈a.toList.take na,lt b[nb] y=false):MH lt a b (out.push b[nb]) na nb:=by
 have la:a.toList.length=a.size:=c2g
 have lb:b.toList.length=b.size:=c2g
 refine⟨?_,h.ha,by omega⟩
 have:=h.mj.takeB T.opp (x:=b[nb]) (by rw[← lb,rget (by omega),(a1y hn).2]) (fun y hy'=>by
   rw[← la,a8q (by rw[la];exact h.ha)] at hy'
   exact hy y (c5l.mp hy'))
 rw[show b.size - (nb+1)+1=b.size - nb by omega] at this
 rw[c6y];exact this
theorem rseg{l:List Keyed}{m n:Nat}(h:n≤l.length)(hm:m≤n):(l.reverse.drop (l.length - n)).take (n - m)=((l.take n).drop m).reverse:=by
 rw[a8q h,List.take_reverse]
 congr 1
 rw[c3j];congr 1;omega
theorem MH.pas{a b out:Array Keyed}{na nb m:Nat}(T:Two It lt a.toList b.toList)(h:MH lt a b out na nb)(hm:m≤na)(hy:∀ t (ht:t<a.size),m≤t→t<na→∀ y∈b.toList.take nb,lt a[t] y=false):MH lt a b (out++(a.extract m na).reverse) m nb:=by
 have la:a.toList.length=a.size:=c2g
 have lb:b.toList.length=b.size:=c2g
 have ha:=h.ha
 refine⟨?_,by omega,h.hb⟩
 have:=h.mj.takeAs T.opp (na - m) (by rw[c4y,la];omega) (fun t x ht ex y hy'=>by
   rw[← lb,a8q (by rw[lb];exact h.hb)] at hy'
   have e2:a.size - na+t=a.toList.length - ((na - 1 - t)+1):=by rw[la];omega
   rw[e2,rget (by rw[la];omega),(a1y (show na - 1 - t<a.size by omega)).2] at ex
   rw[← c2u.inj ex]
   exact hy _ (by omega) (by omega) (by omega) y (c5l.mp hy'))
 rw[show a.size - na+(na - m)=a.size - m by omega] at this
 have e3:=rseg (l:=a.toList) (m:=m) (n:=na) (by rw[la];exact ha) hm
 rw[la] at e3
 rw[e3] at this
 have e4:(out++(a.extract m na).reverse).toList=out.toList++((a.toList.take na).drop m).reverse:=by
   simp only[c7k,Array.toList_reverse,c5o,c4z]
   rw[List.drop_take]
 rw[e4];exact this
theorem MH.pbs{a b out:Array Keyed}{na nb m:Nat}(T:Two It lt a.toList b.toList)(h:MH lt a b out na nb)(hm:m≤nb)(hy:∀ t (ht:t<b.size),m≤t→t<nb→∀ y∈a.toList.take na,lt b[t] y=false):MH lt a b (out++(b.extract m nb).reverse) na m:=by
 have la:a.toList.length=a.size:=c2g
 have lb:b.toList.length=b.size:=c2g
 have hb:=h.hb
 refine⟨?_,h.ha,by omega⟩
 have:=h.mj.takeBs T.opp (nb - m) (by rw[c4y,lb];omega) (fun t x ht ex y hy'=>by
   rw[← la,a8q (by rw[la];exact h.ha)] at hy'
   have e2:b.size - nb+t=b.toList.length - ((nb - 1 - t)+1):=by rw[lb];omega
   rw[e2,rget (by rw[lb];omega),(a1y (show nb - 1 - t<b.size by omega)).2] at ex
   rw[← c2u.inj ex]
   exact hy _ (by omega) (by omega) (by omega) y (c5l.mp hy'))
 rw[show b.size - nb+(nb - m)=b.size - m by omega] at this
 have e3:=rseg (l:=b.toList) (m:=m) (n:=nb) (by rw[lb];exact hb) hm
 rw[lb] at e3
 rw[e3] at this
 have e4:(out++(b.extract m nb).reverse).toList=out.toList++((b.toList.take nb).drop m).reverse:=by
   simp only[c7k,Array.toList_reverse,c5o,c4z]
   rw[List.drop_take]
 rw[e4];exact this
theorem c0f{as bs r:List Keyed}(h:Mgd (opp lt) as.reverse bs.reverse r):Mgd lt as bs r.reverse:=by
 refine⟨(List.reverse_perm r).trans (h.1.trans ((List.reverse_perm as).append (List.reverse_perm bs))),?_⟩
 rw[c6b];exact h.2
theorem c0v{out a b:Array Keyed}{na nb:Nat}:(a.extract 0 na++b.extract 0 nb++out.reverse).toList=(out.toList++(b.toList.take nb).reverse++(a.toList.take na).reverse).reverse:=by
 simp only[c7k,Array.toList_reverse,c5o,c4z,List.reverse_append,List.reverse_reverse,List.drop_zero,Nat.sub_zero,c3f]
theorem MH.done{a b out:Array Keyed}{na nb:Nat}(T:Two It lt a.toList b.toList)(h:MH lt a b out na nb)(e:na=0∨nb=0):Mgd lt a.toList b.toList (a.extract 0 na++b.extract 0 nb++out.reverse).toList:=by
 have la:a.toList.length=a.size:=c2g
 have lb:b.toList.length=b.size:=c2g
 rw[c0v]
 refine c0f ?_
 have:=h.mj.doneA T.opp (by rw[c4y,c4y,la,lb];have:=h.ha;have:=h.hb;omega)
 rw[← la,a8q (by rw[la];exact h.ha),← lb,a8q (by rw[lb];exact h.hb)] at this
 rcases e with rfl | rfl
 · simpa using this
 · simpa using this
theorem MH.first{a b out:Array Keyed}{na nb:Nat}(T:Two It lt a.toList b.toList)(h:MH lt a b out na nb)(h0:∀ x∈b.toList.take nb,∀ y∈a.toList,lt y x=false):Mgd lt a.toList b.toList (b.extract 0 nb++a.extract 0 na++out.reverse).toList:=by
 have la:a.toList.length=a.size:=c2g
 have lb:b.toList.length=b.size:=c2g
 have e:(b.extract 0 nb++a.extract 0 na++out.reverse).toList=(out.toList++(a.toList.take na).reverse++(b.toList.take nb).reverse).reverse:=c0v
 rw[e]
 refine c0f ⟨?_,?_⟩
 · have:=h.mj.perm
   rw[← la,a8q (by rw[la];exact h.ha),← lb,a8q (by rw[lb];exact h.hb)] at this
   rw[c3f];exact this
 · have hlow:=h.mj.low
   rw[← la,a8q (by rw[la];exact h.ha),← lb,a8q (by rw[lb];exact h.hb)] at hlow
   rw[c3f]
   refine c3y.mpr ⟨h.mj.srt,c3y.mpr ⟨c6b.mpr (T.sa.sublist (List.take_sublist _ _)),c6b.mpr (T.sb.sublist (List.take_sublist _ _)),fun x hx y hy=>h0 y (c5l.mp hy) x (c4w (c5l.mp hx))⟩,fun x hx y hy=>?_⟩
   rcases c3n.mp hy with hy | hy
   · exact hlow x hx y (.inl hy)
   · exact hlow x hx y (.inr hy)
end
end Cv
namespace Cv
open PySem PySem.W PyProof.Rows
section
variable {M:Model} {A:Around} {E:Value→Shared→Prop} {s:Shared} {κ:SortKind} {It:Keyed→Prop} {lt:Keyed→Keyed→Bool}
structure MR(lt:Keyed→Keyed→Bool)(a b out:Array Keyed)(na nb:Nat):Prop where
 mh:MH lt a b out na nb
 ha:1≤na
 hb:2≤nb
theorem a3m{a:Array Keyed}{n:Nat}{y:Keyed}(h:y∈a.toList.take n):∃ p,∃ (hp:p<a.size),p<n∧y=a[p]:=by
 obtain⟨p,hp,e⟩:=c3a h
 rw[c3j,c2g] at hp
 exact⟨p,by omega,by omega,by rw[← e,List.getElem_take,c6e]⟩
theorem wpS_mhi(C:Asks M A E s κ It lt){a b:Array Keyed}{st:SortSt}{Q:Array Keyed→SortSt→Prop}(T:Two It lt a.toList b.toList)(na:1≤a.size)(nb:1≤b.size)(hk:kindOf st=κ)(h0:∀ x,b[0]?=some x→∀ y∈a.toList,lt y x=false)(hl:∀ x,a[a.size - 1]?=some x→∀ y∈b.toList,lt x y=false)(hQ:∀ r st',a3a st st'→Mgd lt a.toList b.toList r.toList→Q r st'):wpS M A E s (mhi' a b) Q st:=by
 have la:a.toList.length=a.size:=c2g
 have lb:b.toList.length=b.size:=c2g
 have ita:∀ i (h:i<a.size),It a[i]:=fun i h=>T.ia _ (by simp)
 have itb:∀ i (h:i<b.size),It b[i]:=fun i h=>T.ib _ (by simp)
 have dnA:∀ j (h:j<a.size) x,It x→lt x a[j]=false→∀ y∈a.toList.take (j+1),lt x y=false:=fun j h x ix hx y hy=>by
   obtain⟨p,hp,hpj,rfl⟩:=a3m hy
   have:=a4z C.irr T.ia T.sa x 0 p j (by omega) (by omega)
   rw[a0o (by omega),a0o (by omega)] at this
   simp only[Nat.zero_add] at this
   exact C.trans a[p] a[j] x (ita p hp) (ita j h) ix this hx
 have dnB:∀ j (h:j<b.size) x,It x→lt x b[j]=false→∀ y∈b.toList.take (j+1),lt x y=false:=fun j h x ix hx y hy=>by
   obtain⟨p,hp,hpj,rfl⟩:=a3m hy
   have:=a4z C.irr T.ib T.sb x 0 p j (by omega) (by omega)
   rw[a0o (by omega),a0o (by omega)] at this
   simp only[Nat.zero_add] at this
   exact C.trans b[p] b[j] x (itb p hp) (itb j h) ix this hx
 have hfirst:∀ n,n≤1→∀ x∈b.toList.take n,∀ y∈a.toList,lt y x=false:=fun n hn x hx y hy=>by
   obtain⟨p,hp,hpn,rfl⟩:=a3m hx
   obtain rfl:p=0:=by omega
   exact h0 _ (a1y hp).1 y hy
 obtain⟨el,el'⟩:=a1y (show a.size - 1<a.size by omega)
 have mh0:MH lt a b #[a[a.size - 1]] (a.size - 1) b.size:=by
   have:MH lt a b #[] (a.size - 1+1) b.size:=⟨by
     rw[show a.size - (a.size - 1+1)=0 by omega,Nat.sub_self]
     exact⟨c4d _,c4d _,by simp,by simp,fun x hx=>by simp at hx⟩,by omega,c2o _⟩
   have:=this.pa T (by omega) fun y hy=>hl _ el y (c4w hy)
   simpa using this
 unfold mhi'
 refine wpS_bind (wpS_lift (wpAny_rule ⟨rfl,?_⟩))
 refine wpS_bind (a0u el ?_)
 dsimp only
 by_cases c1:a.size - 1=0
 · rw[if_pos (by simpa using c1)]
   exact wpS_pure (hQ _ _ (a3a.refl _) (mh0.done T (.inl c1)))
 · rw[if_neg (by simpa using c1)]
   by_cases c2:b.size=1
   · rw[if_pos (by simpa using c2)]
     exact wpS_pure (hQ _ _ (a3a.refl _) (mh0.first T (hfirst _ (by omega))))
   · rw[if_neg (by simpa using c2)]
     refine wpS_bind (wpS_get ?_)
     refine wpS_bind (wpS_mono (wpS_forRange (I:=fun t c st'=>a3a st st'∧∃ i j out g,c=(none,i,j,out,g)∧MR lt a b out i j∧t+1≤out.size) (Q:=fun c st'=>a3a st st'∧∃ r o,c=(some r,o)∧Mgd lt a.toList b.toList r.toList) ?_ ?_ ⟨a3a.refl _,_,_,_,_,rfl,⟨mh0,by omega,by omega⟩,by simp⟩) ?_)
     · rintro t c st1 _ ht ⟨s1,i,j,out,g,rfl,hM,hs⟩
       dsimp only
       refine wpS_bind (wpS_mono (wpS_forRange (I:=fun t' c st'=>a3a st st'∧∃ i j out ac bc,c=(none,i,j,out,ac,bc)∧MR lt a b out i j∧t+1+t'≤out.size) (Q:=fun c st'=>a3a st st'∧((∃ r o,c=(some r,o)∧Mgd lt a.toList b.toList r.toList)∨∃ i j out ac bc,c=(none,i,j,out,ac,bc)∧MR lt a b out i j∧t+2≤out.size)) ?_ ?_ ⟨s1,i,j,out,0,0,rfl,hM,hs⟩) ?_)
       · rintro t' c st2 _ ht' ⟨s2,i,j,out,ac,bc,rfl,hM,hs⟩
         dsimp only
         obtain⟨mh,hi,hj⟩:=hM
         have hai:=mh.ha
         have hbj:=mh.hb
         have hA:i - 1<a.size:=by omega
         have hB:j - 1<b.size:=by omega
         refine wpS_bind (a0u (a1y hB).1 (wpS_bind (a0u (a1y hA).1 (wpS_bind (C.ask _ _ _ _ (itb _ hB) (ita _ hA) (s2.kind.trans hk) ?_)))))
         dsimp only
         cases hb:lt b[j - 1] a[i - 1] with
         | true=>
           rw[if_pos rfl]
           refine wpS_bind (a0u (a1y hA).1 ?_)
           have m2:=MH.pa T (na:=i - 1) (by rw[show i - 1+1=i by omega];exact mh) hA (by
             have:=dnB (j - 1) hB _ (ita _ hA) (C.asym _ _ (itb _ hB) (ita _ hA) hb)
             rwa [show j - 1+1=j by omega] at this)
           by_cases c3:i - 1=0
           · rw[if_pos (by simpa using c3)]
             exact wpS_pure ⟨s2,.inl ⟨_,_,rfl,m2.done T (.inl c3)⟩⟩
           · rw[if_neg (by simpa using c3)]
             refine a2o ?_ ?_
             · exact wpS_pure ⟨s2,.inr ⟨_,_,_,_,_,rfl,⟨m2,by omega,hj⟩,by rw[c5r];omega⟩⟩
             · exact wpS_pure ⟨s2,_,_,_,_,_,rfl,⟨m2,by omega,hj⟩,by rw[c5r];omega⟩
         | false=>
           rw[if_neg (by simp)]
           refine wpS_bind (a0u (a1y hB).1 ?_)
           have m2:=MH.pb T (nb:=j - 1) (by rw[show j - 1+1=j by omega];exact mh) hB (by
             have:=dnA (i - 1) hA _ (itb _ hB) hb
             rwa [show i - 1+1=i by omega] at this)
           by_cases c3:j - 1=1
           · rw[if_pos (by simpa using c3)]
             exact wpS_pure ⟨s2,.inl ⟨_,_,rfl,m2.first T (hfirst _ (by omega))⟩⟩
           · rw[if_neg (by simpa using c3)]
             refine a2o ?_ ?_
             · exact wpS_pure ⟨s2,.inr ⟨_,_,_,_,_,rfl,⟨m2,hi,by omega⟩,by rw[c5r];omega⟩⟩
             · exact wpS_pure ⟨s2,_,_,_,_,_,rfl,⟨m2,hi,by omega⟩,by rw[c5r];omega⟩
       · rintro c st2 ⟨s2,i,j,out,ac,bc,rfl,hM,hs⟩
         rw[c5u] at hs
         exact⟨s2,.inr ⟨i,j,out,ac,bc,rfl,hM,by omega⟩⟩
       · rintro c st2 ⟨s2,⟨r,o,rfl,hr⟩ | ⟨i,j,out,ac,bc,rfl,hM,hs⟩⟩
         · dsimp only
           exact wpS_pure ⟨s2,r,_,rfl,hr⟩
         · dsimp only
           refine wpS_bind (wpS_lift (wpAny_rule ⟨rfl,?_⟩))
           refine wpS_bind (wpS_mono (wpS_forRange (I:=fun t' c st'=>a3a st st'∧∃ i j out g ac bc,c=(none,i,j,out,g,ac,bc)∧MR lt a b out i j∧t+2≤out.size) (Q:=fun c st'=>a3a st st'∧((∃ r o,c=(some r,o)∧Mgd lt a.toList b.toList r.toList)∨∃ i j out g ac bc,c=(none,i,j,out,g,ac,bc)∧MR lt a b out i j∧t+2≤out.size)) ?_ ?_ ⟨s2,i,j,out,_,ac,bc,rfl,hM,hs⟩) ?_)
           · rintro t' c st3 _ ht' ⟨s3,i,j,out,g,ac,bc,rfl,hM,hs⟩
             obtain⟨mh,hi,hj⟩:=hM
             have hai:=mh.ha
             have hbj:=mh.hb
             have hB:j - 1<b.size:=by omega
             have dnB':∀ k (h:k<b.size) x,It x→lt x b[k]=false→k=j - 1→∀ y∈b.toList.take j,lt x y=false:=fun k h x ix hx e y hy=>dnB k h x ix hx y (by rw[e,show j - 1+1=j by omega];exact hy)
             dsimp only
             refine a2o ?_ ?_
             all_goals
               refine wpS_bind (a7q fun st4 s34=>?_)
               have s4:=s3.trans s34
               refine wpS_bind (a0u (a1y hB).1 ?_)
               refine wpS_bind (a2v C (x:=elF a b[j - 1] 0) (s4.kind.trans hk) (itb _ hB) (fun p hp=>a5a (by omega)) (fun p hp=>by rw[a0o (by omega)];exact ita _ (by omega)) (by omega) (a4e C (itb _ hB) (fun p hp=>by rw[a0o (by omega)];exact ita _ (by omega)) fun p q h1 h2=>a4z C.irr T.ia T.sa _ _ p q h1 (by omega)) fun p1 hk0 hk1 hk2=>?_)
               dsimp only
               by_cases k3:i - p1 > 0
               · rw[if_pos k3]
                 have m2:=mh.pas T (m:=p1) hk0 (fun t ht h1 h2=>dnB' _ hB _ (ita t ht) (by
                   have h9:=a5c C (itb _ hB) (by rw[a0o (by omega)];exact ita _ (by omega)) (hk2 t h1 h2)
                   rw[a0o (show 0+t<a.size by omega)] at h9
                   simpa using h9) rfl)
                 by_cases c4:p1=0
                 · rw[if_pos (by simpa using c4)]
                   exact wpS_pure ⟨s4,.inl ⟨_,_,rfl,m2.done T (.inl c4)⟩⟩
                 rw[if_neg (by simpa using c4)]
                 have hI:p1 - 1<a.size:=by omega
                 refine wpS_bind (a0u (a1y hB).1 ?_)
                 have m3:=MH.pb T (nb:=j - 1) (by rw[show j - 1+1=j by omega];exact m2) hB (fun y hy=>by
                   obtain⟨q,hq,hqn,rfl⟩:=a3m hy
                   have h9:=a5b C (itb _ hB) (by rw[a0o (by omega)];exact ita _ (by omega)) (hk1 q hqn)
                   rw[a0o (show 0+q<a.size by omega)] at h9
                   simpa using h9)
                 by_cases c5:j - 1=1
                 · rw[if_pos (by simpa using c5)]
                   exact wpS_pure ⟨s4,.inl ⟨_,_,rfl,m3.first T (hfirst _ (by omega))⟩⟩
                 rw[if_neg (by simpa using c5)]
                 have dnA':∀ j (h:j<a.size) x,It x→lt x a[j]=false→∀ y∈a.toList.take (j+1),lt x y=false:=dnA
                 have hNA:p1 - 1+1=p1:=by omega
                 replace dnA':∀ j (h:j<a.size) x,It x→lt x a[j]=false→j=p1 - 1→∀ y∈a.toList.take p1,lt x y=false:=fun j h x ix hx e y hy=>dnA j h x ix hx y (by rw[e,hNA];exact hy)
                 refine wpS_bind (a0u (a1y hI).1 ?_)
                 refine wpS_bind (a2v C (x:=elF b a[p1 - 1] 0) (s4.kind.trans hk) (ita _ hI) (fun p hp=>a5a (by omega)) (fun p hp=>by rw[a0o (by omega)];exact itb _ (by omega)) (by omega) (a4e C (ita _ hI) (fun p hp=>by rw[a0o (by omega)];exact itb _ (by omega)) fun p q h1 h2=>a4z C.irr T.ib T.sb _ _ p q h1 (by omega)) fun p2 hk4 hk5 hk6=>?_)
                 dsimp only
                 by_cases k4:j - 1 - p2 > 0
                 · rw[if_pos k4]
                   have m4:=m3.pbs T (m:=p2) hk4 (fun t ht h1 h2=>dnA' _ hI _ (itb t ht) (by
                     have h9:=a5c C (ita _ hI) (by rw[a0o (by omega)];exact itb _ (by omega)) (hk6 t h1 h2)
                     rw[a0o (show 0+t<b.size by omega)] at h9
                     simpa using h9) rfl)
                   by_cases c6:p2=1
                   · rw[if_pos (by simpa using c6)]
                     exact wpS_pure ⟨s4,.inl ⟨_,_,rfl,m4.first T (hfirst _ (by omega))⟩⟩
                   rw[if_neg (by simpa using c6)]
                   by_cases c7:p2=0
                   · rw[if_pos (by simpa using c7)]
                     exact wpS_pure ⟨s4,.inl ⟨_,_,rfl,m4.done T (.inr c7)⟩⟩
                   rw[if_neg (by simpa using c7)]
                   refine wpS_bind (a0u (a1y hI).1 ?_)
                   have m5:=MH.pa T (na:=p1 - 1) (by rw[show p1 - 1+1=p1 by omega];exact m4) hI (fun y hy=>by
                     obtain⟨q,hq,hqn,rfl⟩:=a3m hy
                     have h9:=a5b C (ita _ hI) (by rw[a0o (by omega)];exact itb _ (by omega)) (hk5 q hqn)
                     rw[a0o (show 0+q<b.size by omega)] at h9
                     simpa using h9)
                   by_cases c8:p1 - 1=0
                   · rw[if_pos (by simpa using c8)]
                     exact wpS_pure ⟨s4,.inl ⟨_,_,rfl,m5.done T (.inl c8)⟩⟩
                   rw[if_neg (by simpa using c8)]
                   have sz:=m5.len
                   have szo:=mh.len
                   refine a2o ?_ ?_
                   · exact wpS_pure ⟨s4,.inr ⟨_,_,_,_,_,_,rfl,⟨m5,by omega,by omega⟩,by omega⟩⟩
                   · exact wpS_pure ⟨s4,_,_,_,_,_,_,rfl,⟨m5,by omega,by omega⟩,by omega⟩
                 · rw[if_neg k4]
                   have k20:p2=j - 1:=by omega
                   have m4:=m3
                   rw[k20] at hk5
                   refine wpS_bind (a0u (a1y hI).1 ?_)
                   have m5:=MH.pa T (na:=p1 - 1) (by rw[show p1 - 1+1=p1 by omega];exact m4) hI (fun y hy=>by
                     obtain⟨q,hq,hqn,rfl⟩:=a3m hy
                     have h9:=a5b C (ita _ hI) (by rw[a0o (by omega)];exact itb _ (by omega)) (hk5 q hqn)
                     rw[a0o (show 0+q<b.size by omega)] at h9
                     simpa using h9)
                   by_cases c8:p1 - 1=0
                   · rw[if_pos (by simpa using c8)]
                     exact wpS_pure ⟨s4,.inl ⟨_,_,rfl,m5.done T (.inl c8)⟩⟩
                   rw[if_neg (by simpa using c8)]
                   have sz:=m5.len
                   have szo:=mh.len
                   refine a2o ?_ ?_
                   · exact wpS_pure ⟨s4,.inr ⟨_,_,_,_,_,_,rfl,⟨m5,by omega,by omega⟩,by omega⟩⟩
                   · exact wpS_pure ⟨s4,_,_,_,_,_,_,rfl,⟨m5,by omega,by omega⟩,by omega⟩
               · rw[if_neg k3]
                 have k0:p1=i:=by omega
                 have m2:=mh
                 rw[k0] at hk1
                 have hI:i - 1<a.size:=by omega
                 refine wpS_bind (a0u (a1y hB).1 ?_)
                 have m3:=MH.pb T (nb:=j - 1) (by rw[show j - 1+1=j by omega];exact m2) hB (fun y hy=>by
                   obtain⟨q,hq,hqn,rfl⟩:=a3m hy
                   have h9:=a5b C (itb _ hB) (by rw[a0o (by omega)];exact ita _ (by omega)) (hk1 q hqn)
                   rw[a0o (show 0+q<a.size by omega)] at h9
                   simpa using h9)
                 by_cases c5:j - 1=1
                 · rw[if_pos (by simpa using c5)]
                   exact wpS_pure ⟨s4,.inl ⟨_,_,rfl,m3.first T (hfirst _ (by omega))⟩⟩
                 rw[if_neg (by simpa using c5)]
                 have dnA':∀ j (h:j<a.size) x,It x→lt x a[j]=false→∀ y∈a.toList.take (j+1),lt x y=false:=dnA
                 have hNA:i - 1+1=i:=by omega
                 replace dnA':∀ j (h:j<a.size) x,It x→lt x a[j]=false→j=i - 1→∀ y∈a.toList.take i,lt x y=false:=fun j h x ix hx e y hy=>dnA j h x ix hx y (by rw[e,hNA];exact hy)
                 refine wpS_bind (a0u (a1y hI).1 ?_)
                 refine wpS_bind (a2v C (x:=elF b a[i - 1] 0) (s4.kind.trans hk) (ita _ hI) (fun p hp=>a5a (by omega)) (fun p hp=>by rw[a0o (by omega)];exact itb _ (by omega)) (by omega) (a4e C (ita _ hI) (fun p hp=>by rw[a0o (by omega)];exact itb _ (by omega)) fun p q h1 h2=>a4z C.irr T.ib T.sb _ _ p q h1 (by omega)) fun p2 hk4 hk5 hk6=>?_)
                 dsimp only
                 by_cases k4:j - 1 - p2 > 0
                 · rw[if_pos k4]
                   have m4:=m3.pbs T (m:=p2) hk4 (fun t ht h1 h2=>dnA' _ hI _ (itb t ht) (by
                     have h9:=a5c C (ita _ hI) (by rw[a0o (by omega)];exact itb _ (by omega)) (hk6 t h1 h2)
                     rw[a0o (show 0+t<b.size by omega)] at h9
                     simpa using h9) rfl)
                   by_cases c6:p2=1
                   · rw[if_pos (by simpa using c6)]
                     exact wpS_pure ⟨s4,.inl ⟨_,_,rfl,m4.first T (hfirst _ (by omega))⟩⟩
                   rw[if_neg (by simpa using c6)]
                   by_cases c7:p2=0
                   · rw[if_pos (by simpa using c7)]
                     exact wpS_pure ⟨s4,.inl ⟨_,_,rfl,m4.done T (.inr c7)⟩⟩
                   rw[if_neg (by simpa using c7)]
                   refine wpS_bind (a0u (a1y hI).1 ?_)
                   have m5:=MH.pa T (na:=i - 1) (by rw[show i - 1+1=i by omega];exact m4) hI (fun y hy=>by
                     obtain⟨q,hq,hqn,rfl⟩:=a3m hy
                     have h9:=a5b C (ita _ hI) (by rw[a0o (by omega)];exact itb _ (by omega)) (hk5 q hqn)
                     rw[a0o (show 0+q<b.size by omega)] at h9
                     simpa using h9)
                   by_cases c8:i - 1=0
                   · rw[if_pos (by simpa using c8)]
                     exact wpS_pure ⟨s4,.inl ⟨_,_,rfl,m5.done T (.inl c8)⟩⟩
                   rw[if_neg (by simpa using c8)]
                   have sz:=m5.len
                   have szo:=mh.len
                   refine a2o ?_ ?_
                   · exact wpS_pure ⟨s4,.inr ⟨_,_,_,_,_,_,rfl,⟨m5,by omega,by omega⟩,by omega⟩⟩
                   · exact wpS_pure ⟨s4,_,_,_,_,_,_,rfl,⟨m5,by omega,by omega⟩,by omega⟩
                 · rw[if_neg k4]
                   have k20:p2=j - 1:=by omega
                   have m4:=m3
                   rw[k20] at hk5
                   refine wpS_bind (a0u (a1y hI).1 ?_)
                   have m5:=MH.pa T (na:=i - 1) (by rw[show i - 1+1=i by omega];exact m4) hI (fun y hy=>by
                     obtain⟨q,hq,hqn,rfl⟩:=a3m hy
                     have h9:=a5b C (ita _ hI) (by rw[a0o (by omega)];exact itb _ (by omega)) (hk5 q hqn)
                     rw[a0o (show 0+q<b.size by omega)] at h9
                     simpa using h9)
                   by_cases c8:i - 1=0
                   · rw[if_pos (by simpa using c8)]
                     exact wpS_pure ⟨s4,.inl ⟨_,_,rfl,m5.done T (.inl c8)⟩⟩
                   rw[if_neg (by simpa using c8)]
                   have sz:=m5.len
                   have szo:=mh.len
                   refine a2o ?_ ?_
                   · exact wpS_pure ⟨s4,.inr ⟨_,_,_,_,_,_,rfl,⟨m5,by omega,by omega⟩,by omega⟩⟩
                   · exact wpS_pure ⟨s4,_,_,_,_,_,_,rfl,⟨m5,by omega,by omega⟩,by omega⟩
           · rintro c st3 ⟨s3,i,j,out,g,ac,bc,rfl,hM,hs⟩
             exact⟨s3,.inr ⟨i,j,out,g,ac,bc,rfl,hM,hs⟩⟩
           · rintro c st3 ⟨s3,⟨r,o,rfl,hr⟩ | ⟨i,j,out,g,ac,bc,rfl,hM,hs⟩⟩
             · dsimp only
               exact wpS_pure ⟨s3,r,_,rfl,hr⟩
             · dsimp only
               refine wpS_bind (a7q fun st4 s4=>?_)
               exact wpS_pure ⟨s3.trans s4,_,_,_,_,rfl,hM,by omega⟩
     · rintro c st1 ⟨s1,i,j,out,g,rfl,hM,hs⟩
       rw[c5u] at hs
       have:=hM.mh.len
       have:=hM.ha
       omega
     · rintro c st1 ⟨s1,r,o,rfl,hr⟩
       exact wpS_pure (hQ r st1 s1 hr)
end
end Cv
namespace Cv
open PySem PySem.W PyProof.Rows
theorem b5v:∀ (m:List Keyed) (k d:Nat) (arr:Array Keyed),k+d+m.length≤arr.size→
   ((m.zipIdx d).foldl (fun a (p:Keyed×Nat)=>a.setIfInBounds (k+p.2) p.1) arr).toList=arr.toList.take (k+d)++m++arr.toList.drop (k+d+m.length)
 | [],k,d,arr,h=>by simp
 | x::m,k,d,arr,h=>by
   rw[c3r] at h
   rw[List.zipIdx_cons,List.foldl_cons]
   have hs:(arr.setIfInBounds (k+d) x).size=arr.size:=by simp
   have:=b5v m k (d+1) (arr.setIfInBounds (k+d) x) (by rw[hs];omega)
   rw[this]
   have hl:arr.toList.length=arr.size:=c2g
   rw[Array.toList_setIfInBounds]
   rw[show k+(d+1)=k+d+1 by omega]
   have e1:(arr.toList.set (k+d) x).take (k+d+1)=arr.toList.take (k+d)++[x]:=by
     rw[List.take_succ,List.getElem?_set_self (by omega),List.take_set_of_le (c2o _)];rfl
   have e2:(arr.toList.set (k+d) x).drop (k+d+1+m.length)=arr.toList.drop (k+d+(m.length+1)):=by
     rw[List.drop_set_of_lt (by omega)];congr 1;omega
   rw[e1,e2,c3r]
   simp
section
variable {M:Model} {A:Around} {E:Value→Shared→Prop} {s:Shared} {κ:SortKind} {It:Keyed→Prop} {lt:Keyed→Keyed→Bool}
structure Run(lt:Keyed→Keyed→Bool)(l:List Keyed)(lo n:Nat):Prop where
 le:lo+n≤l.length
 srt:((l.drop lo).take n).Pairwise fun x y=>lt y x=false
structure Mrg(lt:Keyed→Keyed→Bool)(l l':List Keyed)(lo n:Nat):Prop where
 len:l'.length=l.length
 perm:l'.Perm l
 fst:l'.take lo=l.take lo
 lst:l'.drop (lo+n)=l.drop (lo+n)
 run:Run lt l' lo n
theorem Mrg.of{l X X' R:List Keyed}{sa n:Nat}(hX:l.drop sa=X++R)(hn:X.length=n)(hs:sa≤l.length)(hp:X'.Perm X)(hS:X'.Pairwise fun x y=>lt y x=false):Mrg lt l (l.take sa++X'++R) sa n:=by
 have el:l=l.take sa++X++R:=by rw[c3f,← hX,c3v]
 have hl':X'.length=n:=by rw[hp.length_eq,hn]
 have ht:(l.take sa).length=sa:=by rw[c3j];omega
 have hlen:l.length=sa+n+R.length:=by
   have:=congrArg c6v el
   simp only[c2k,ht,hn] at this;omega
 have hd:(l.take sa++X'++R).drop sa=X'++R:=by rw[c3f,c5p (by omega),c5x (by omega)];rfl
 refine⟨?_,?_,?_,?_,?_,?_⟩
 · simp only[c2k,ht,hl'];omega
 · conv=>rhs;rw[el]
   exact c6d.append_right R (c6d.append_left _ hp)
 · rw[c3f,List.take_append_of_le_length (by omega),List.take_take,Nat.min_self]
 · rw[← c6f,hd,← c6f,hX,c5p (by omega),c5p (by omega),c5x (by omega),c5x (by omega)]
 · simp only[c2k,ht,hl'];omega
 · rw[hd,List.take_append_of_le_length (by omega),c4x (by omega)];exact hS
theorem mid_srt(C:Asks M A E s κ It lt){X1 X2 Y1 Y2 m:List Keyed}(iX:∀ x∈X1++X2,It x)(iY:∀ x∈Y1++Y2,It x)(sX:(X1++X2).Pairwise fun x y=>lt y x=false)(sY:(Y1++Y2).Pairwise fun x y=>lt y x=false)(hm:m.Perm (X2++Y1))(sm:m.Pairwise fun x y=>lt y x=false)(h1:∀ x∈X1,∀ y∈Y1++Y2,lt y x=false)(h2:∀ x∈X1++X2,∀ y∈Y2,lt y x=false):(X1++(m++Y2)).Pairwise fun x y=>lt y x=false:=by
 have pX:=c3y.mp sX
 have pY:=c3y.mp sY
 refine c3y.mpr ⟨pX.1,c3y.mpr ⟨sm,pY.2.1,fun x hx y hy=>?_⟩,fun x hx y hy=>?_⟩
 · rcases c3n.mp (hm.mem_iff.mp hx) with hx | hx
   · exact h2 x (c2j _ hx) y hy
   · exact pY.2.2 x hx y hy
 · rcases c3n.mp hy with hy | hy
   · rcases c3n.mp (hm.mem_iff.mp hy) with hy | hy
     · exact pX.2.2 x hx y hy
     · exact h1 x hx y (c7d _ hy)
   · exact h1 x hx y (c2j _ hy)
end
end Cv
namespace Cv
open PySem PySem.W PyProof.Rows
section
variable {M:Model} {A:Around} {E:Value→Shared→Prop} {s:Shared} {κ:SortKind} {It:Keyed→Prop} {lt:Keyed→Keyed→Bool}
theorem wpS_set{st st':SortSt}{Q:PUnit→SortSt→Prop}(h:Q ⟨⟩ st'):wpS M A E s (set st':StateT SortSt Sem PUnit) Q st:=by
 unfold wpS;rw[StateT.run_set];exact wpAny_pure ⟨rfl,h⟩
theorem wpS_setE{st st':SortSt}{Q:PUnit→SortSt→Prop}(h:∀ st1,st1=st'→Q ⟨⟩ st1):wpS M A E s (set st':StateT SortSt Sem PUnit) Q st:=wpS_set (h _ rfl)
theorem a8l{l:List Keyed}{lo n p:Nat}(h:p<n):((l.drop lo).take n)[p]?=l[lo+p]?:=by
 rw[c6q,if_pos h,c6a]
theorem b7k(l:List Keyed)(sa na nb:Nat):l.drop sa=(l.drop sa).take na++(l.drop (sa+na)).take nb++l.drop (sa+na+nb):=by
 have h1:l.drop (sa+na)=(l.drop (sa+na)).take nb++l.drop (sa+na+nb):=by
   conv=>lhs;rw[← c3v nb (l.drop (sa+na))]
   rw[c6f]
 have h2:l.drop sa=(l.drop sa).take na++l.drop (sa+na):=by
   conv=>lhs;rw[← c3v na (l.drop sa)]
   rw[c6f]
 rw[c3f,← h1];exact h2
theorem b3k(C:Asks M A E s κ It lt){st:SortSt}{i sa na pw nb pw2:Nat}{Q:Bool→SortSt→Prop}(hp1:(pendingOf st)[i]?=some (sa,na,pw))(hp2:(pendingOf st)[i+1]?=some (sa+na,nb,pw2))(hk:c5j st=κ)(hit:∀ x∈(arrOf st).toList,It x)(r1:Run lt (arrOf st).toList sa na)(r2:Run lt (arrOf st).toList (sa+na) nb)(n1:1≤na)(n2:1≤nb)(hf:failedOf st=none)(hQ:∀ st':SortSt,c5j st'=κ→failedOf st'=none→pendingOf st'=((pendingOf st).setIfInBounds i (sa,na+nb,pw)).eraseIdxIfInBounds (i+1)→Mrg lt (arrOf st).toList (arrOf st').toList sa (na+nb)→Q true st'):wpS M A E s (mergeAt' i) Q st:=by
 unfold mergeAt'
 refine wpS_bind (wpS_get ?_)
 rw[hp1,hp2]
 dsimp only
 refine wpS_bind (wpS_setE fun st0 hst0=>?_)
 have la:(arrOf st).toList.length=(arrOf st).size:=c2g
 obtain⟨arr,harr⟩ : ∃ arr,arrOf st=arr:=⟨_,rfl⟩
 rw[show (sortPriv% PySem.Builtin.SortState.a) st=arr from harr]
 rw[harr] at hit r1 r2 la
 have hQ':∀ st':SortSt,c5j st'=κ→failedOf st'=none→pendingOf st'=((pendingOf st).setIfInBounds i (sa,na+nb,pw)).eraseIdxIfInBounds (i+1)→Mrg lt arr.toList (arrOf st').toList sa (na+nb)→Q true st':=by rw[← harr];exact hQ
 replace hQ:=hQ'
 have b1:=r1.le
 have b2:=r2.le
 rw[la] at b1 b2
 have iA:∀ p (h:p<arr.size),It arr[p]:=fun p h=>hit _ (by simp)
 have k0:c5j st0=κ:=by rw[hst0];exact hk
 have a0:arrOf st0=arr:=by rw[hst0];exact harr
 have p0:pendingOf st0=((pendingOf st).setIfInBounds i (sa,na+nb,pw)).eraseIdxIfInBounds (i+1):=by rw[hst0]
 have f0:failedOf st0=none:=by rw[hst0];exact hf
 clear hst0
 have eX:∀ p (h:p<na),((arr.toList.drop sa).take na)[p]?=some arr[sa+p]:=fun p h=>by rw[a8l h];exact (a1y (by omega)).2
 have eY:∀ p (h:p<nb),((arr.toList.drop (sa+na)).take nb)[p]?=some arr[sa+na+p]:=fun p h=>by rw[a8l h];exact (a1y (by omega)).2
 have lX:((arr.toList.drop sa).take na).length=na:=by rw[c3j,c3k,la];omega
 have lY:((arr.toList.drop (sa+na)).take nb).length=nb:=by rw[c3j,c3k,la];omega
 have hd:=b7k arr.toList sa na nb
 have iX:∀ x∈(arr.toList.drop sa).take na,It x:=fun x hx=>hit x (c4f (c4w hx))
 have iY:∀ x∈(arr.toList.drop (sa+na)).take nb,It x:=fun x hx=>hit x (c4f (c4w hx))
 have sX:=r1.srt
 have sY:=r2.srt
 have srtX:∀ p q,(hpq:p≤q)→(h:q<na)→lt (arr[sa+q]'(by omega (config:={}))) (arr[sa+p]'(by omega (config:={})))=false:=fun p q hpq h=>by
   by_cases e:p=q
   · subst e;exact C.irr _ (iA _ _)
   · have:=c4m.mp sX p q (by omega) (by omega) (by omega)
     have e1:=eX p (by omega)
     have e2:=eX q h
     rw[c2e (by omega)] at e1 e2
     rw[c2u.inj e1,c2u.inj e2] at this
     exact this
 have srtY:∀ p q,(hpq:p≤q)→(h:q<nb)→lt (arr[sa+na+q]'(by omega (config:={}))) (arr[sa+na+p]'(by omega (config:={})))=false:=fun p q hpq h=>by
   by_cases e:p=q
   · subst e;exact C.irr _ (iA _ _)
   · have:=c4m.mp sY p q (by omega) (by omega) (by omega)
     have e1:=eY p (by omega)
     have e2:=eY q h
     rw[c2e (by omega)] at e1 e2
     rw[c2u.inj e1,c2u.inj e2] at this
     exact this
 obtain⟨X,hX⟩ : ∃ X,X=(arr.toList.drop sa).take na:=⟨_,rfl⟩
 obtain⟨Y,hY⟩ : ∃ Y,Y=(arr.toList.drop (sa+na)).take nb:=⟨_,rfl⟩
 obtain⟨R,hR⟩ : ∃ R,R=arr.toList.drop (sa+na+nb):=⟨_,rfl⟩
 rw[← hX] at hd sX lX iX
 rw[← hY] at hd sY lY iY
 rw[← hR] at hd
 simp only[← hX] at eX
 simp only[← hY] at eY
 have hlxy:(X++Y).length=na+nb:=by rw[c2k,lX,lY]
 have memX:∀ x∈X,∃ p,∃ (h:p<na),x=arr[sa+p]'(by omega (config:={})):=fun x hx=>by
   obtain⟨p,hp,e⟩:=c3a hx
   have e1:=eX p (by omega)
   rw[c2e hp,e] at e1
   exact⟨p,by omega,c2u.inj e1⟩
 have memY:∀ x∈Y,∃ p,∃ (h:p<nb),x=arr[sa+na+p]'(by omega (config:={})):=fun x hx=>by
   obtain⟨p,hp,e⟩:=c3a hx
   have e1:=eY p (by omega)
   rw[c2e hp,e] at e1
   exact⟨p,by omega,c2u.inj e1⟩
 have stay:(∀ x∈X,∀ y∈Y,lt y x=false)→Mrg lt arr.toList arr.toList sa (na+nb):=fun h=>by
   have:=Mrg.of (lt:=lt) hd hlxy (by rw[la];omega) (c6d.refl _) (c3y.mpr ⟨sX,sY,h⟩)
   rwa [c3f,← hd,c3v] at this
 obtain⟨ey0,ey0'⟩:=a1y (show sa+na<arr.size by omega)
 refine wpS_bind (a0u ey0 ?_)
 refine wpS_bind (a2v C (x:=elF arr arr[sa+na] sa) k0 (iA _ _) (fun p hp=>a5a (by omega)) (fun p hp=>by rw[a0o (by omega)];exact iA _ _) (by omega) (a4e C (iA _ _) (fun p hp=>by rw[a0o (by omega)];exact iA _ _) fun p q h1 h2=>by rw[a0o (by omega),a0o (by omega)];exact srtX p q h1 h2) fun k hk0 hk1 hk2=>?_)
 dsimp only
 have lowX:∀ p,p<k→(h:p<na)→lt arr[sa+na] (arr[sa+p]'(by omega (config:={})))=false:=fun p hp h=>by
   have:=a5b C (iA _ (by omega)) (by rw[a0o (by omega)];exact iA _ _) (hk1 p hp)
   rwa [a0o (by omega)] at this
 have highX:∀ p,k≤p→(h:p<na)→lt (arr[sa+p]'(by omega (config:={}))) arr[sa+na]=false:=fun p hp h=>by
   have:=a5c C (iA _ (by omega)) (by rw[a0o (by omega)];exact iA _ _) (hk2 p hp h)
   rwa [a0o (by omega)] at this
 have toY:∀ x,It x→lt arr[sa+na] x=false→∀ y∈Y,lt y x=false:=fun x ix hx y hy=>by
   obtain⟨q,hq,rfl⟩:=memY y hy
   have:=srtY 0 q (by omega) hq
   exact C.trans x arr[sa+na] _ ix (iA _ _) (iA _ _) hx this
 by_cases c1:na - k=0
 · rw[if_pos (by simpa using c1)]
   refine wpS_pure (hQ st0 k0 f0 p0 ?_)
   rw[a0]
   refine stay fun x hx y hy=>?_
   obtain⟨p,hp,rfl⟩:=memX x hx
   exact toY _ (iA _ _) (lowX p (by omega) hp) y hy
 · rw[if_neg (by simpa using c1)]
   obtain⟨el,el'⟩:=a1y (show sa+na - 1<arr.size by omega)
   refine wpS_bind (a0u (x:=arr[sa+na - 1]) (by rw[show sa+k+(na - k) - 1=sa+na - 1 by omega];exact el) ?_)
   refine wpS_bind (a2v C (x:=elF arr arr[sa+na] (sa+na)) k0 (iA _ _) (fun p hp=>a5a (by omega)) (fun p hp=>by rw[a0o (by omega)];exact iA _ _) (by omega) (a4e C (iA _ _) (fun p hp=>by rw[a0o (by omega)];exact iA _ _) fun p q h1 h2=>by rw[a0o (by omega),a0o (by omega)];exact srtY p q h1 h2) fun m hm0 hm1 hm2=>?_)
   dsimp only
   have lowY:∀ p,p<m→(h:p<nb)→lt arr[sa+na - 1] (arr[sa+na+p]'(by omega (config:={})))=false:=fun p hp h=>by
     have:=a5b C (iA _ (by omega)) (by rw[a0o (by omega)];exact iA _ _) (hm1 p hp)
     rwa [a0o (by omega)] at this
   have highY:∀ p,m≤p→(h:p<nb)→lt (arr[sa+na+p]'(by omega (config:={}))) arr[sa+na - 1]=false:=fun p hp h=>by
     have:=a5c C (iA _ (by omega)) (by rw[a0o (by omega)];exact iA _ _) (hm2 p hp h)
     rwa [a0o (by omega)] at this
   have toX:∀ y,It y→lt y arr[sa+na - 1]=false→∀ x∈X,lt y x=false:=fun y iy hy x hx=>by
     obtain⟨p,hp,rfl⟩:=memX x hx
     have:=srtX p (na - 1) (by omega) (by omega)
     simp only[show sa+(na - 1)=sa+na - 1 by omega] at this
     exact C.trans _ arr[sa+na - 1] y (iA _ _) (iA _ _) iy this hy
   by_cases c2:m=0
   · rw[if_pos (by simpa using c2)]
     refine wpS_pure (hQ st0 k0 f0 p0 ?_)
     rw[a0]
     refine stay fun x hx y hy=>?_
     obtain⟨q,hq,rfl⟩:=memY y hy
     exact toX _ (iA _ _) (highY q (by omega) hq) x hx
   · rw[if_neg (by simpa using c2)]
     have x2:(arr.extract (sa+k) (sa+na)).toList=X.drop k:=by
       rw[c5o,c4z,hX,List.drop_take,c6f]
       congr 1;omega
     have y1:(arr.extract (sa+na) (sa+na+m)).toList=Y.take m:=by
       rw[c5o,c4z,hY,List.take_take]
       congr 1;omega
     have T:Two It lt (arr.extract (sa+k) (sa+na)).toList (arr.extract (sa+na) (sa+na+m)).toList:=by
       rw[x2,y1]
       exact⟨fun x hx=>iX x (c4f hx),fun x hx=>iY x (c4w hx),sX.sublist (c6w _ _),sY.sublist (List.take_sublist _ _)⟩
     have z1:(arr.extract (sa+k) (sa+na)).size=na - k:=by rw[Array.size_extract];omega
     have z2:(arr.extract (sa+na) (sa+na+m)).size=m:=by rw[Array.size_extract];omega
     have g0:∀ x,(arr.extract (sa+na) (sa+na+m))[0]?=some x→∀ y∈(arr.extract (sa+k) (sa+na)).toList,lt y x=false:=fun x hx y hy=>by
       rw[Array.getElem?_extract,if_pos (by omega)] at hx
       have:x=arr[sa+na]:=by rw[Nat.add_zero,ey0] at hx;exact (c2u.inj hx).symm
       rw[this]
       rw[x2] at hy
       obtain⟨p,hp,e⟩:=c3a hy
       rw[c3k,lX] at hp
       rw[List.getElem_drop] at e
       have e1:=eX (k+p) (by omega)
       rw[c2e (by omega),e] at e1
       rw[c2u.inj e1]
       exact highX (k+p) (by omega) (by omega)
     have gl:∀ x,(arr.extract (sa+k) (sa+na))[(arr.extract (sa+k) (sa+na)).size - 1]?=some x→∀ y∈(arr.extract (sa+na) (sa+na+m)).toList,lt x y=false:=fun x hx y hy=>by
       rw[z1,Array.getElem?_extract,if_pos (by omega),show sa+k+(na - k - 1)=sa+na - 1 by omega,el] at hx
       rw[← c2u.inj hx]
       rw[y1] at hy
       obtain⟨p,hp,e⟩:=c3a hy
       rw[c3j,lY] at hp
       rw[List.getElem_take] at e
       have e1:=eY p (by omega)
       rw[c2e (by omega),e] at e1
       rw[c2u.inj e1]
       exact lowY p (by omega) (by omega)
     have fin:∀ (r:Array Keyed) (st5:SortSt),a3a st0 st5→Mgd lt (arr.extract (sa+k) (sa+na)).toList (arr.extract (sa+na) (sa+na+m)).toList r.toList→
         Q true (SortSt.mk' (c5j st5) (r.toList.zipIdx.foldl (fun a x=>a.setIfInBounds (sa+k+x.2) x.1) (arrOf st5)) (pendingOf st5) (gallopOf st5) (failedOf st5)):=fun r st5 sg hr=>by
       refine hQ _ (sg.kind.trans k0) (sg.fail.trans f0) (sg.pend.trans p0) ?_
       show Mrg lt arr.toList (r.toList.zipIdx.foldl (fun a x=>a.setIfInBounds (sa+k+x.2) x.1) (arrOf st5)).toList sa (na+nb)
       rw[sg.arr,a0]
       rw[x2,y1] at hr
       have hrl:r.toList.length=na - k+m:=by
         rw[hr.1.length_eq,c2k,c3k,c3j,lX,lY];omega
       have:=b5v r.toList (sa+k) 0 arr (by omega)
       rw[Nat.add_zero] at this
       rw[this,hrl]
       have e1:arr.toList.take (sa+k)=arr.toList.take sa++X.take k:=by
         rw[List.take_add,hX,List.take_take]
         congr 2;omega
       have e2:arr.toList.drop (sa+k+(na - k+m))=Y.drop m++R:=by
         have h1:arr.toList.drop (sa+na)=Y++R:=by
           have h0:=c3v nb (arr.toList.drop (sa+na))
           rw[c6f] at h0
           rw[hY,hR];exact h0.symm
         rw[show sa+k+(na - k+m)=sa+na+m by omega,← c6f,h1,c5p (by omega)]
       rw[e1,e2]
       have srt:=mid_srt C (X1:=X.take k) (X2:=X.drop k) (Y1:=Y.take m) (Y2:=Y.drop m) (m:=r.toList) (by rw[c3v];exact iX) (by rw[c3v];exact iY) (by rw[c3v];exact sX) (by rw[c3v];exact sY) hr.1 hr.2 (fun x hx y hy=>by
           rw[c3v] at hy
           obtain⟨p,hp,e⟩:=c3a hx
           rw[c3j,lX] at hp
           rw[List.getElem_take] at e
           have e1:=eX p (by omega)
           rw[c2e (by omega),e] at e1
           rw[c2u.inj e1]
           exact toY _ (iA _ _) (lowX p (by omega) (by omega)) y hy) (fun x hx y hy=>by
           rw[c3v] at hx
           obtain⟨p,hp,e⟩:=c3a hy
           rw[c3k,lY] at hp
           rw[List.getElem_drop] at e
           have e1:=eY (m+p) (by omega)
           rw[c2e (by omega),e] at e1
           rw[c2u.inj e1]
           exact toX _ (iA _ _) (highY (m+p) (by omega) (by omega)) x hx)
       have pm:(X.take k++(r.toList++Y.drop m)).Perm (X++Y):=by
         have h1:(X.take k++(r.toList++Y.drop m)).Perm (X.take k++((X.drop k++Y.take m)++Y.drop m)):=c6d.append_left _ (c6d.append_right _ hr.1)
         refine h1.trans ?_
         rw[c3f,c3v,← c3f,c3v]
       have:=Mrg.of (lt:=lt) hd hlxy (by rw[la];omega) pm srt
       simpa [c3f] using this
     have leaf:∀ (r:Array Keyed) (st5:SortSt),a3a st0 st5→Mgd lt (arr.extract (sa+k) (sa+na)).toList (arr.extract (sa+na) (sa+na+m)).toList r.toList→(failedOf st5).isNone=true:=fun r st5 sg _=>by rw[sg.fail,f0];rfl
     refine a2o ?_ ?_
     · refine wpS_bind (wpS_mlo C T (by omega) (by omega) k0 g0 gl fun r st5 sg hr=>?_)
       refine wpS_bind (wpS_modify (wpS_bind (wpS_get (wpS_pure ?_))))
       have:=fin r st5 sg hr
       rw[show (failedOf st5).isNone=true from leaf r st5 sg hr]
       exact this
     · refine wpS_bind (wpS_mhi C T (by omega) (by omega) k0 g0 gl fun r st5 sg hr=>?_)
       refine wpS_bind (wpS_modify (wpS_bind (wpS_get (wpS_pure ?_))))
       have:=fin r st5 sg hr
       rw[show (failedOf st5).isNone=true from leaf r st5 sg hr]
       exact this
end
end Cv
namespace Cv
open PySem PySem.W PyProof.Rows
def tsA(a:Array Keyed)(p:Nat):Keyed:=a.getD p (Value.none,Value.none)
theorem a8e{a:Array Keyed}{p:Nat}(h:p<a.size):a[p]?=some (tsA a p):=by unfold tsA;rw[c7a,c4i h];rfl
theorem a4m{a:Array Keyed}{p:Nat}(h:p<a.size):tsA a p∈a.toList:=by
 have:=a8e h
 rw[← c4s] at this
 exact c2m this
theorem b1x{a b:Array Keyed}{p q:Nat}(h:a[p]?=b[q]?):tsA a p=tsA b q:=by unfold tsA;rw[c7a,c7a,h]
section
variable {M:Model} {A:Around} {E:Value→Shared→Prop} {s:Shared} {κ:SortKind} {It:Keyed→Prop} {lt:Keyed→Keyed→Bool}
def Sg(lt:Keyed→Keyed→Bool)(a:Array Keyed)(lo n:Nat):Prop:=∀ p q,p<q→q<n→lt (tsA a (lo+q)) (tsA a (lo+p))=false
theorem Sg.run{a:Array Keyed}{lo n:Nat}(h:Sg lt a lo n)(hn:lo+n≤a.size):Run lt a.toList lo n:=by
 have la:a.toList.length=a.size:=c2g
 refine⟨by rw[la];exact hn,c4m.mpr fun p q hp hq hpq=>?_⟩
 rw[c3j,c3k,la] at hp hq
 have e:∀ p (h:p<((a.toList.drop lo).take n).length),((a.toList.drop lo).take n)[p]=tsA a (lo+p):=fun p h=>by
   have h':=h
   rw[c3j,c3k,la] at h'
   have e1:((a.toList.drop lo).take n)[p]?=some (tsA a (lo+p)):=by rw[a8l (by omega),c4s];exact a8e (by omega)
   rw[c2e h] at e1
   exact c2u.inj e1
 rw[e,e]
 exact h p q hpq (by omega)
structure SB(κ:SortKind)(l₀:List Keyed)(st:SortSt):Prop where
 kind:c5j st=κ
 fail:failedOf st=none
 perm:(arrOf st).toList.Perm l₀
theorem SB.size{l₀:List Keyed}{st:SortSt}(h:SB κ l₀ st):(arrOf st).size=l₀.length:=by rw[← c2g];exact h.perm.length_eq
def Dst(lt:Keyed→Keyed→Bool)(l:List Keyed):Prop:=l.Pairwise fun x y=>lt x y=true∨lt y x=true
theorem Dst.perm{l l':List Keyed}(h:Dst lt l)(p:l'.Perm l):Dst lt l':=p.symm.pairwise h fun {x y} k=>k.symm
theorem Dst.at{a:Array Keyed}(h:Dst lt a.toList){p q:Nat}(hp:p<a.size)(hq:q<a.size)(ne:p≠q):lt (tsA a p) (tsA a q)=true∨lt (tsA a q) (tsA a p)=true:=by
 have la:a.toList.length=a.size:=c2g
 have e:∀ p (h:p<a.size),a.toList[p]'(by omega (config:={}))=tsA a p:=fun p h=>by
   have:=a8e h
   rw[← c4s,c2e (by omega)] at this
   exact c2u.inj this
 rcases Nat.lt_or_gt_of_ne ne with k | k
 · have:=c4m.mp h p q (by omega) (by omega) k
   rw[e p hp,e q hq] at this;exact this
 · have:=c4m.mp h q p (by omega) (by omega) k
   rw[e p hp,e q hq] at this;exact this.symm
theorem a9y(C:Asks M A E s κ It lt){st:SortSt}{i j:Nat}{Q:Option Bool→SortSt→Prop}(hk:c5j st=κ)(hit:∀ x∈(arrOf st).toList,It x)(hi:i<(arrOf st).size)(hj:j<(arrOf st).size)(q:Q (some (lt (tsA (arrOf st) i) (tsA (arrOf st) j))) st):wpS M A E s (ltAt' i j) Q st:=by
 rw[ltAt'_eq]
 refine wpS_bind (wpS_get ?_)
 refine wpS_bind (a0u (a8e hi) (wpS_bind (a0u (a8e hj) ?_)))
 exact C.ask _ _ _ _ (hit _ (a4m hi)) (hit _ (a4m hj)) hk q
theorem b5j(C:Asks M A E s κ It lt){a:Array Keyed}(hit:∀ x∈a.toList,It x){lo n:Nat}(hn:lo+n≤a.size)(h:∀ k,1≤k→k<n→lt (tsA a (lo+k)) (tsA a (lo+k - 1))=false):Sg lt a lo n:=fun p q=>by
 induction q with
 | zero=>intro h1;omega
 | succ q ih=>
   intro hpq hq
   have s1:=h (q+1) (by omega) hq
   rw[show lo+(q+1) - 1=lo+q by omega] at s1
   by_cases e:p=q
   · subst e;exact s1
   · exact C.trans _ (tsA a (lo+q)) _ (hit _ (a4m (by omega))) (hit _ (a4m (by omega))) (hit _ (a4m (by omega))) (ih (by omega) (by omega)) s1
end
end Cv
namespace Cv
open PySem PySem.W PyProof.Rows
section
variable {M:Model} {A:Around} {E:Value→Shared→Prop} {s:Shared} {κ:SortKind} {It:Keyed→Prop} {lt:Keyed→Keyed→Bool}
theorem b7w(C:Asks M A E s κ It lt){l₀:List Keyed}{lo nrem:Nat}{st:SortSt}{Q:Option Nat→SortSt→Prop}(hB:SB κ l₀ st)(hD:Dst lt l₀)(iI:∀ x∈l₀,It x)(h1:1≤nrem)(hn:lo+nrem≤l₀.length)(hQ:∀ (n:Nat) (st':SortSt),1≤n→n≤nrem→SB κ l₀ st'→pendingOf st'=pendingOf st→(∀ p,p<lo→(arrOf st')[p]?=(arrOf st)[p]?)→Sg lt (arrOf st') lo n→Q (some n) st'):wpS M A E s (countRun' lo nrem) Q st:=by
 have hsz:=hB.size
 have hit:∀ x∈(arrOf st).toList,It x:=fun x hx=>iI x (hB.perm.mem_iff.mp hx)
 have hDs:=hD.perm hB.perm
 rw[countRun'_eq]
 dsimp only
 refine wpS_bind (wpS_mono (wpS_forRange (I:=fun t c st'=>st'=st∧c=(none,t)∧(∀ k,1≤k→k<t→lt (tsA (arrOf st) (lo+k)) (tsA (arrOf st) (lo+k - 1))=false)) (Q:=fun c st'=>st'=st∧∃ w,c=(none,w)∧1≤w∧w≤nrem∧(∀ k,1≤k→k<w→lt (tsA (arrOf st) (lo+k)) (tsA (arrOf st) (lo+k - 1))=false)∧(w<nrem→lt (tsA (arrOf st) (lo+w)) (tsA (arrOf st) (lo+w - 1))=true)) ?_ ?_ ⟨rfl,rfl,fun k h1 h2=>by omega⟩) ?_)
 · rintro t c st' ht1 ht2 ⟨rfl,rfl,hc⟩
   refine wpS_bind (a9y C hB.kind hit (by rw[hsz];omega) (by rw[hsz];omega) ?_)
   dsimp only
   cases e:lt (tsA (arrOf st') (lo+t)) (tsA (arrOf st') (lo+t - 1)) with
   | true=>rw[if_pos rfl];exact wpS_pure ⟨rfl,t,rfl,ht1,by omega,hc,fun _=>e⟩
   | false=>
     rw[if_neg (by simp)]
     refine wpS_pure ⟨rfl,rfl,fun k k1 k2=>?_⟩
     by_cases ek:k=t
     · subst ek;exact e
     · exact hc k k1 (by omega)
 · rintro c st' ⟨rfl,rfl,hc⟩
   exact⟨rfl,_,rfl,by omega,by omega,hc,fun h=>by omega⟩
 · rintro c st' ⟨rfl,n,rfl,n1,n2,hc,hlast⟩
   dsimp only
   have sg:=b5j C hit (lo:=lo) (n:=n) (by omega) hc
   by_cases c1:n=nrem
   · rw[if_pos (by simpa using c1)]
     exact wpS_pure (hQ n st' n1 n2 hB rfl (fun _ _=>rfl) sg)
   rw[if_neg (by simpa using c1)]
   by_cases c2:n > 1
   · rw[if_pos c2]
     refine wpS_bind (a9y C hB.kind hit (by rw[hsz];omega) (by rw[hsz];omega) ?_)
     dsimp only
     have e:=sg 0 (n - 1) (by omega) (by omega)
     rw[Nat.add_zero,show lo+(n - 1)=lo+n - 1 by omega] at e
     have e2:lt (tsA (arrOf st') lo) (tsA (arrOf st') (lo+n - 1))=true:=by
       rcases hDs.at (p:=lo) (q:=lo+n - 1) (by rw[hsz];omega) (by rw[hsz];omega) (by omega) with z | z
       · exact z
       · rw[e] at z;cases z
     rw[e2,if_pos rfl]
     exact wpS_pure (hQ n st' n1 n2 hB rfl (fun _ _=>rfl) sg)
   rw[if_neg c2]
   obtain rfl:n=1:=by omega
   refine wpS_bind (wpS_lift (wpAny_rule ⟨rfl,?_⟩))
   have hd1:=hlast (by omega)
   rw[show lo+1 - 1=lo by omega] at hd1
   refine wpS_bind (wpS_mono (wpS_forRange (I:=fun t c st2=>st2=st'∧c=(none,t,0)∧(∀ k,1≤k→k<t→lt (tsA (arrOf st') (lo+k)) (tsA (arrOf st') (lo+k - 1))=true)) (Q:=fun c st2=>st2=st'∧∃ n,c=(none,n,0)∧2≤n∧n≤nrem∧(∀ k,1≤k→k<n→lt (tsA (arrOf st') (lo+k)) (tsA (arrOf st') (lo+k - 1))=true)) ?_ ?_ ⟨rfl,rfl,fun k h1 h2=>?_⟩) ?_)
   · rintro t c st2 ht1 ht2 ⟨rfl,rfl,hc⟩
     refine wpS_bind (a9y C (i:=lo+t) (j:=lo+t - 1) hB.kind hit (by rw[hsz];omega) (by rw[hsz];omega) ?_)
     dsimp only
     cases e:lt (tsA (arrOf st2) (lo+t)) (tsA (arrOf st2) (lo+t - 1)) with
     | true=>
       rw[if_pos rfl,if_neg (by omega)]
       refine wpS_pure ⟨rfl,rfl,fun k k1 k2=>?_⟩
       by_cases ek:k=t
       · subst ek;exact e
       · exact hc k k1 (by omega)
     | false=>
       rw[if_neg (by simp)]
       refine wpS_bind (a9y C (i:=lo+t - 1) (j:=lo+t) hB.kind hit (by rw[hsz];omega) (by rw[hsz];omega) ?_)
       dsimp only
       have e2:lt (tsA (arrOf st2) (lo+t - 1)) (tsA (arrOf st2) (lo+t))=true:=by
         rcases hDs.at (p:=lo+t - 1) (q:=lo+t) (by rw[hsz];omega) (by rw[hsz];omega) (by omega) with z | z
         · exact z
         · rw[e] at z;cases z
       rw[e2,if_pos rfl]
       exact wpS_pure ⟨rfl,t,rfl,by omega,by omega,hc⟩
   · rintro c st2 ⟨rfl,rfl,hc⟩
     exact⟨rfl,_,rfl,by omega,by omega,hc⟩
   · obtain rfl:k=1:=by omega
     rw[show lo+1 - 1=lo by omega];exact hd1
   · rintro c st2 ⟨rfl,n,rfl,m1,m2,hd⟩
     dsimp only
     rw[if_neg (by omega)]
     refine wpS_bind ?_
     rw[reverseSlice'_eq]
     refine wpS_modify ?_
     have hB2:SB κ l₀ (setArr st2 (mirror (arrOf st2) lo (lo+n) ((lo+n - lo) / 2))):=⟨hB.kind,hB.fail,(Array.perm_iff_toList_perm.mp (mirror_perm _ _ _ _)).trans hB.perm⟩
     have hg:∀ k,(arrOf (setArr st2 (mirror (arrOf st2) lo (lo+n) ((lo+n - lo) / 2))))[k]?=if lo≤k∧k<lo+n then (arrOf st2)[lo+(lo+n) - 1 - k]? else (arrOf st2)[k]?:=fun k=>getElem?_mirror_all (by rw[hsz];omega) k
     have hpd:pendingOf (setArr st2 (mirror (arrOf st2) lo (lo+n) ((lo+n - lo) / 2)))=pendingOf st2:=rfl
     generalize setArr st2 (mirror (arrOf st2) lo (lo+n) ((lo+n - lo) / 2))=st3 at *
     have hsz3:=hB2.size
     have hit3:∀ x∈(arrOf st3).toList,It x:=fun x hx=>iI x (hB2.perm.mem_iff.mp hx)
     refine wpS_bind (wpS_mono (wpS_forRange (I:=fun t c st'=>st'=st3∧c=(none,t)∧(∀ k,n≤k→k<t→lt (tsA (arrOf st3) (lo+k)) (tsA (arrOf st3) (lo+k - 1))=false)) (Q:=fun c st'=>st'=st3∧∃ w,c=(none,w)∧n≤w∧w≤nrem∧(∀ k,n≤k→k<w→lt (tsA (arrOf st3) (lo+k)) (tsA (arrOf st3) (lo+k - 1))=false)∧(w<nrem→lt (tsA (arrOf st3) (lo+w)) (tsA (arrOf st3) (lo+w - 1))=true)) ?_ ?_ ⟨rfl,rfl,fun k h1 h2=>by omega⟩) ?_)
     · rintro t c st' ht1 ht2 ⟨rfl,rfl,hc⟩
       refine wpS_bind (a9y C hB2.kind hit3 (by rw[hsz3];omega) (by rw[hsz3];omega) ?_)
       dsimp only
       cases e:lt (tsA (arrOf st') (lo+t)) (tsA (arrOf st') (lo+t - 1)) with
       | true=>rw[if_pos rfl];exact wpS_pure ⟨rfl,t,rfl,ht1,by omega,hc,fun _=>e⟩
       | false=>
         rw[if_neg (by simp)]
         refine wpS_pure ⟨rfl,rfl,fun k k1 k2=>?_⟩
         by_cases ek:k=t
         · subst ek;exact e
         · exact hc k k1 (by omega)
     · rintro c st' ⟨rfl,rfl,hc⟩
       exact⟨rfl,_,rfl,by omega,by omega,hc,fun h=>by omega⟩
     · rintro c st' ⟨rfl,r,rfl,r1,r2,hc3,_⟩
       refine wpS_pure (hQ r st' (by omega) r2 hB2 hpd (fun p hp=>?_) (b5j C hit3 (by omega) fun k k1 k2=>?_))
       · rw[hg,if_neg (by omega)]
       · by_cases kn:n≤k
         · exact hc3 k kn k2
         · have g1:tsA (arrOf st') (lo+k)=tsA (arrOf st2) (lo+n - 1 - k):=b1x (by rw[hg,if_pos (by omega)];congr 1;omega)
           have g2:tsA (arrOf st') (lo+k - 1)=tsA (arrOf st2) (lo+n - 1 - k+1):=b1x (by rw[hg,if_pos (by omega)];congr 1;omega)
           rw[g1,g2]
           have:=hd (n - k) (by omega) (by omega)
           rw[show lo+(n - k)=lo+n - 1 - k+1 by omega,Nat.add_sub_cancel] at this
           exact C.asym _ _ (hit _ (a4m (by rw[hsz];omega))) (hit _ (a4m (by rw[hsz];omega))) this
end
end Cv
namespace Cv
open PySem PySem.W PyProof.Rows
section
variable {M:Model} {A:Around} {E:Value→Shared→Prop} {s:Shared} {κ:SortKind} {It:Keyed→Prop} {lt:Keyed→Keyed→Bool}
structure Kp(κ:SortKind)(l₀:List Keyed)(lo:Nat)(st st':SortSt):Prop where
 sb:SB κ l₀ st'
 pend:pendingOf st'=pendingOf st
 low:∀ p,p<lo→(arrOf st')[p]?=(arrOf st)[p]?
theorem Sg.le(C:Asks M A E s κ It lt){a:Array Keyed}(hit:∀ x∈a.toList,It x){lo n:Nat}(h:Sg lt a lo n)(hn:lo+n≤a.size){p q:Nat}(hpq:p≤q)(hq:q<n):lt (tsA a (lo+q)) (tsA a (lo+p))=false:=by
 by_cases e:p=q
 · subst e;exact C.irr _ (hit _ (a4m (by omega)))
 · exact h p q (by omega) hq
theorem wpS_ins(C:Asks M A E s κ It lt){l₀:List Keyed}{lo n ok:Nat}{st:SortSt}{Q:Bool→SortSt→Prop}(hB:SB κ l₀ st)(iI:∀ x∈l₀,It x)(hok1:1≤ok)(hok:ok≤n)(hn:lo+n≤l₀.length)(hS:Sg lt (arrOf st) lo ok)(hQ:∀ st':SortSt,Kp κ l₀ lo st st'→Sg lt (arrOf st') lo n→Q true st'):wpS M A E s (binarySort' lo n ok) Q st:=by
 rw[binarySort'_eq]
 refine wpS_bind (wpS_mono (wpS_forRange (I:=fun t c st'=>c=(none,())∧Kp κ l₀ lo st st'∧Sg lt (arrOf st') lo t) (Q:=fun c st'=>c=(none,())∧Kp κ l₀ lo st st'∧Sg lt (arrOf st') lo n) ?_ ?_ ⟨rfl,⟨hB,rfl,fun _ _=>rfl⟩,by rw[Nat.max_eq_left hok1];exact hS⟩) ?_)
 · rintro k c st1 hk1 hk2 ⟨rfl,kp,sg⟩
   have hsz:=kp.sb.size
   have hit:∀ x∈(arrOf st1).toList,It x:=fun x hx=>iI x (kp.sb.perm.mem_iff.mp hx)
   have iG:∀ p,p<l₀.length→It (tsA (arrOf st1) p):=fun p hp=>hit _ (a4m (by rw[hsz];exact hp))
   dsimp only
   refine wpS_bind (wpS_mono (wpS_forRange (I:=fun t c st'=>st'=st1∧∃ l r,c=(none,l,r)∧l≤r∧r≤k∧r - l≤k - t∧(∀ p,p<l→lt (tsA (arrOf st1) (lo+k)) (tsA (arrOf st1) (lo+p))=false)∧(∀ p,r≤p→p<k→lt (tsA (arrOf st1) (lo+p)) (tsA (arrOf st1) (lo+k))=false)) (Q:=fun c st'=>st'=st1∧∃ l r,c=(none,l,r)∧l≤k∧(∀ p,p<l→lt (tsA (arrOf st1) (lo+k)) (tsA (arrOf st1) (lo+p))=false)∧(∀ p,l≤p→p<k→lt (tsA (arrOf st1) (lo+p)) (tsA (arrOf st1) (lo+k))=false)) ?_ ?_ ⟨rfl,0,k,rfl,by omega,by omega,by omega,fun p hp=>by omega,fun p h1 h2=>by omega⟩) ?_)
   · rintro t c st' ht1 ht2 ⟨rfl,l,r,rfl,h1,h2,h3,hl,hr⟩
     dsimp only
     by_cases e:l≥r
     · rw[if_pos e]
       obtain rfl:l=r:=by omega
       exact wpS_pure ⟨rfl,l,l,rfl,h2,hl,hr⟩
     · rw[if_neg e]
       refine wpS_bind (a9y C (i:=lo+k) (j:=lo+(l+r) / 2) kp.sb.kind hit (by rw[hsz];omega) (by rw[hsz];omega) ?_)
       dsimp only
       cases b:lt (tsA (arrOf st') (lo+k)) (tsA (arrOf st') (lo+(l+r) / 2)) with
       | true=>
         rw[if_pos rfl]
         refine wpS_pure ⟨rfl,l,(l+r) / 2,rfl,by omega,by omega,by omega,hl,fun p p1 p2=>?_⟩
         exact C.trans _ (tsA (arrOf st') (lo+(l+r) / 2)) _ (iG _ (by omega)) (iG _ (by omega)) (iG _ (by omega)) (C.asym _ _ (iG _ (by omega)) (iG _ (by omega)) b) (sg.le C hit (by rw[hsz];omega) p1 p2)
       | false=>
         rw[if_neg (by simp)]
         refine wpS_pure ⟨rfl,(l+r) / 2+1,r,rfl,by omega,h2,by omega,fun p hp=>?_,hr⟩
         exact C.trans _ (tsA (arrOf st') (lo+(l+r) / 2)) _ (iG _ (by omega)) (iG _ (by omega)) (iG _ (by omega)) (sg.le C hit (by rw[hsz];omega) (by omega) (by omega)) b
   · rintro c st' ⟨rfl,l,r,rfl,h1,h2,h3,hl,hr⟩
     rw[c5u] at h3
     obtain rfl:l=r:=by omega
     exact⟨rfl,l,l,rfl,h2,hl,hr⟩
   · rintro c st' ⟨rfl,l,r,rfl,hlk,hl,hr⟩
     dsimp only
     refine wpS_bind ?_
     rw[moveDown'_eq]
     refine wpS_modify ?_
     have hg:∀ p,(arrOf (setArr st' (bubble (arrOf st') (lo+k) (lo+k - (lo+l)))))[p]?=if p=lo+l then (arrOf st')[lo+k]? else if lo+l<p∧p≤lo+k then (arrOf st')[p - 1]? else (arrOf st')[p]?:=fun p=>by
       have:=getElem?_bubble (xs:=arrOf st') (src:=lo+k) (by rw[hsz];omega) (lo+k - (lo+l)) (by omega) p
       rw[show lo+k - (lo+k - (lo+l))=lo+l by omega] at this
       exact this
     have kp2:Kp κ l₀ lo st (setArr st' (bubble (arrOf st') (lo+k) (lo+k - (lo+l)))):=⟨⟨kp.sb.kind,kp.sb.fail,(Array.perm_iff_toList_perm.mp (bubble_perm _ _ _)).trans kp.sb.perm⟩,kp.pend,fun p hp=>by rw[hg,if_neg (by omega),if_neg (by omega)];exact kp.low p hp⟩
     generalize setArr st' (bubble (arrOf st') (lo+k) (lo+k - (lo+l)))=st2 at *
     refine wpS_pure ⟨rfl,kp2,fun p q hpq hq=>?_⟩
     have g1:tsA (arrOf st2) (lo+l)=tsA (arrOf st') (lo+k):=b1x (by rw[hg,if_pos rfl])
     have g2:∀ p,p<l→tsA (arrOf st2) (lo+p)=tsA (arrOf st') (lo+p):=fun p hp=>b1x (by rw[hg,if_neg (by omega),if_neg (by omega)])
     have g3:∀ p,l<p→p≤k→tsA (arrOf st2) (lo+p)=tsA (arrOf st') (lo+(p - 1)):=fun p hp hk=>b1x (by rw[hg,if_neg (by omega),if_pos (by omega)];congr 1;omega)
     rcases Nat.lt_trichotomy p l with hp | rfl | hp
     · rw[g2 p hp]
       rcases Nat.lt_trichotomy q l with hq' | rfl | hq'
       · rw[g2 q hq'];exact sg p q hpq (by omega)
       · rw[g1];exact hl p hp
       · rw[g3 q hq' (by omega)];exact sg p (q - 1) (by omega) (by omega)
     · rw[g1,g3 q hpq (by omega)];exact hr (q - 1) (by omega) (by omega)
     · rw[g3 p hp (by omega),g3 q (by omega) (by omega)];exact sg (p - 1) (q - 1) (by omega) (by omega)
 · rintro c st1 ⟨rfl,kp,sg⟩
   rw[show max (max ok 1) n=n by omega] at sg
   exact⟨rfl,kp,sg⟩
 · rintro c st1 ⟨rfl,kp,sg⟩
   exact wpS_pure (hQ st1 kp sg)
end
end Cv
namespace Cv
open PySem PySem.W PyProof.Rows
section
variable {M:Model} {A:Around} {E:Value→Shared→Prop} {s:Shared} {κ:SortKind} {It:Keyed→Prop} {lt:Keyed→Keyed→Bool}
def Ch(lt:Keyed→Keyed→Bool)(l:List Keyed):Nat→List (Nat×Nat×Nat)→Nat→Prop
 | b,[],e=>b=e
 | b,(x,n,_)::r,e=>x=b∧1≤n∧Run lt l b n∧Ch lt l (b+n) r e
theorem Ch.app{l:List Keyed}:∀ {P Q:List (Nat×Nat×Nat)} {b e:Nat},Ch lt l b (P++Q) e↔∃ m,Ch lt l b P m∧Ch lt l m Q e
 | [],Q,b,e=>⟨fun h=>⟨b,rfl,h⟩,fun⟨m,h1,h2⟩=>by cases h1;exact h2⟩
 | (x,n,w)::P,Q,b,e=>by
   constructor
   · rintro⟨h1,h2,h3,h4⟩
     obtain⟨m,h5,h6⟩:=Ch.app.mp h4
     exact⟨m,⟨h1,h2,h3,h5⟩,h6⟩
   · rintro⟨m,⟨h1,h2,h3,h5⟩,h6⟩
     exact⟨h1,h2,h3,Ch.app.mpr ⟨m,h5,h6⟩⟩
theorem Ch.le{l:List Keyed}:∀ {P:List (Nat×Nat×Nat)} {b e:Nat},Ch lt l b P e→b+P.length≤e
 | [],b,e,h=>by cases h;simp
 | (x,n,w)::P,b,e,⟨h1,h2,h3,h4⟩=>by have:=Ch.le h4;simp only[c3r];omega
theorem Ch.keep{l l':List Keyed}(hl:l'.length=l.length):∀ {P:List (Nat×Nat×Nat)} {b e:Nat},Ch lt l b P e→(∀ p,b≤p→p<e→l'[p]?=l[p]?)→Ch lt l' b P e
 | [],b,e,h,_=>h
 | (x,n,w)::P,b,e,⟨h1,h2,h3,h4⟩,hk=>by
   have hle:=Ch.le h4
   refine⟨h1,h2,⟨by rw[hl];exact h3.le,?_⟩,Ch.keep hl h4 fun p p1 p2=>hk p (by omega) p2⟩
   have:(l'.drop b).take n=(l.drop b).take n:=by
     refine c4r fun i=>?_
     by_cases hi:i<n
     · rw[a8l hi,a8l hi];exact hk _ (by omega) (by omega)
     · rw[c6q,if_neg hi,c6q,if_neg hi]
   rw[this];exact h3.srt
theorem b3m{l l':List Keyed}{n p:Nat}(h:l'.take n=l.take n)(hp:p<n):l'[p]?=l[p]?:=by
 have:=congrArg (fun z=>z[p]?) h
 simp only[c6q,if_pos hp] at this
 exact this
theorem a9c{l l':List Keyed}{n p:Nat}(h:l'.drop n=l.drop n)(hp:n≤p):l'[p]?=l[p]?:=by
 have:=congrArg (fun z=>z[p - n]?) h
 simp only[c6a] at this
 rwa [show n+(p - n)=p by omega] at this
theorem Ch.merge{l l':List Keyed}{P1 P2:List (Nat×Nat×Nat)}{sa na w nb w2 sb b e:Nat}(h:Ch lt l b (P1++(sa,na,w)::(sb,nb,w2)::P2) e) :
   sb=sa+na∧1≤na∧1≤nb∧Run lt l sa na∧Run lt l (sa+na) nb∧(Mrg lt l l' sa (na+nb)→Ch lt l' b (P1++(sa,na+nb,w)::P2) e):=by
 obtain⟨m,h1,e1,n1,r1,e2,n2,r2,h2⟩:=Ch.app.mp h
 obtain rfl:=e1
 obtain rfl:=e2
 refine⟨rfl,n1,n2,r1,r2,fun g=>Ch.app.mpr ⟨sa,h1.keep g.len fun p _ p2=>b3m g.fst p2,rfl,by omega,g.run,?_⟩⟩
 rw[show sa+(na+nb)=sa+na+nb by omega]
 exact h2.keep g.len fun p p1 _=>a9c g.lst (by omega)
structure SP(lt:Keyed→Keyed→Bool)(κ:SortKind)(l₀:List Keyed)(lo:Nat)(st:SortSt):Prop where
 sb:SB κ l₀ st
 ch:Ch lt (arrOf st).toList 0 (pendingOf st).toList lo
theorem split2{α:Type}{P:List α}{i:Nat}(h:i+1<P.length):∃ P1 x y P2,P=P1++x::y::P2∧P1.length=i:=by
 refine⟨P.take i,P[i]'(by omega (config:={})),P[i+1]'h,P.drop (i+2),?_,by rw[c3j];omega⟩
 conv=>lhs;rw[← c3v i P]
 congr 1
 rw[List.drop_eq_getElem_cons (by omega),List.drop_eq_getElem_cons h]
theorem a5z(C:Asks M A E s κ It lt){l₀:List Keyed}{lo i:Nat}{st:SortSt}{Q:Bool→SortSt→Prop}(iI:∀ x∈l₀,It x)(h:SP lt κ l₀ lo st)(hi:i+1<(pendingOf st).size)(hQ:∀ st':SortSt,SP lt κ l₀ lo st'→(pendingOf st').size+1=(pendingOf st).size→1≤(pendingOf st').size→(∀ p,lo≤p→(arrOf st').toList[p]?=(arrOf st).toList[p]?)→Q true st'):wpS M A E s (mergeAt' i) Q st:=by
 obtain⟨P1,⟨sa,na,w⟩,⟨sb,nb,w2⟩,P2,eP,eI⟩:=split2 (P:=(pendingOf st).toList) (i:=i) (by rw[c2g];exact hi)
 have hc:=h.ch
 rw[eP] at hc
 have hlen:(pendingOf st).size=P1.length+2+P2.length:=by rw[← c2g,eP];simp;omega
 obtain⟨rfl,n1,n2,r1,r2,mg⟩:=Ch.merge (l':=(arrOf st).toList) hc
 have g1:(pendingOf st)[i]?=some (sa,na,w):=by rw[← c4s,eP,← eI];simp
 have g2:(pendingOf st)[i+1]?=some (sa+na,nb,w2):=by rw[← c4s,eP,← eI,c2w (by omega)];simp
 refine b3k C g1 g2 h.sb.kind (fun x hx=>iI x (h.sb.perm.mem_iff.mp hx)) r1 r2 n1 n2 h.sb.fail fun st' k1 k2 k3 k4=>?_
 have eP':(pendingOf st').toList=P1++(sa,na+nb,w)::P2:=by
   rw[k3,Array.toList_eraseIdxIfInBounds,Array.toList_setIfInBounds,eP,← eI]
   simp only[List.set_append_right _ _ (c2o _),Nat.sub_self,List.set_cons_zero]
   rw[List.eraseIdx_append_of_length_le (by omega),show P1.length+1 - P1.length=1 by omega]
   rfl
 refine hQ st' ⟨⟨k1,k2,k4.perm.trans h.sb.perm⟩,by rw[eP'];exact (Ch.merge (l':=(arrOf st').toList) hc).2.2.2.2.2 k4⟩ ?_ ?_ ?_
 · rw[hlen,← c2g,eP'];simp;omega
 · rw[← c2g,eP'];simp;omega
 · intro p hp
   obtain⟨m,h1,e1,n1',r1',e2,n2',r2',h2⟩:=Ch.app.mp hc
   have:=Ch.le h2
   exact a9c k4.lst (by omega)
end
end Cv
namespace Cv
open PySem PySem.W PyProof.Rows
section
variable {M:Model} {A:Around} {E:Value→Shared→Prop} {s:Shared} {κ:SortKind} {It:Keyed→Prop} {lt:Keyed→Keyed→Bool}
theorem Ch.pw{l:List Keyed}{f:Nat×Nat×Nat→Nat×Nat×Nat}(hf:∀ x,(f x).1=x.1∧(f x).2.1=x.2.1):∀ {P:List (Nat×Nat×Nat)} {b e:Nat} (i:Nat),Ch lt l b P e→Ch lt l b (P.modify i f) e
 | [],b,e,i,h=>by simpa using h
 | (x,n,w)::P,b,e,0,⟨h1,h2,h3,h4⟩=>by
   obtain⟨f1,f2⟩:=hf (x,n,w)
   rw[List.modify_zero_cons]
   revert f1 f2
   generalize f (x,n,w)=z
   obtain⟨x',n',w'⟩:=z
   rintro rfl rfl
   exact⟨h1,h2,h3,h4⟩
 | (x,n,w)::P,b,e,i+1,⟨h1,h2,h3,h4⟩=>by
   rw[List.modify_succ_cons]
   exact⟨h1,h2,h3,Ch.pw hf i h4⟩
theorem b3j(C:Asks M A E s κ It lt){l₀:List Keyed}{st:SortSt}{Q:Unit→SortSt→Prop}(iI:∀ x∈l₀,It x)(hD:Dst lt l₀)(hB:SB κ l₀ st)(hp:pendingOf st = #[])(h1:1≤l₀.length)(hQ:∀ st':SortSt,SB κ l₀ st'→(arrOf st').toList.Pairwise (fun x y=>lt y x=false)→Q () st'):wpS M A E s sortRuns' Q st:=by
 have hsz:=hB.size
 rw[sortRuns'_eq]
 refine wpS_bind (wpS_get ?_)
 rw[hsz]
 refine wpS_bind (wpS_mono (wpS_forRange (I:=fun t c st'=>∃ lo,c=(none,lo)∧t≤lo∧lo≤l₀.length∧SP lt κ l₀ lo st') (Q:=fun c st'=>c=(none,l₀.length)∧SP lt κ l₀ l₀.length st') ?_ ?_ ⟨0,rfl,c4d _,c4d _,hB,by rw[hp];rfl⟩) ?_)
 · rintro t c st1 _ ht ⟨lo,rfl,h2,h3,sp⟩
   dsimp only
   by_cases c1:lo≥l₀.length
   · rw[if_pos c1]
     obtain rfl:lo=l₀.length:=by omega
     exact wpS_pure ⟨rfl,sp⟩
   rw[if_neg c1]
   refine wpS_bind (b7w C sp.sb hD iI (by omega) (by omega) fun f st2 f1 f2 hB2 hp2 hlow2 sg2=>?_)
   dsimp only
   have hz2:=hB2.size
   have spOf:∀ st3:SortSt,SB κ l₀ st3→pendingOf st3=pendingOf st1→(∀ p,p<lo→(arrOf st3)[p]?=(arrOf st1)[p]?)→SP lt κ l₀ lo st3:=fun st3 b3 p3 l3=>⟨b3,by
     rw[p3]
     exact sp.ch.keep (by rw[c2g,c2g,b3.size,sp.sb.size]) fun p _ p2=>by rw[c4s,c4s];exact l3 p p2⟩
   by_cases c2:f<minRun' l₀.length l₀.length 0
   · rw[if_pos c2]
     refine wpS_bind (wpS_lift (wpAny_rule ⟨rfl,?_⟩))
     refine wpS_bind (wpS_ins C hB2 iI f1 (by omega) (by omega) sg2 fun st3 kp3 sg3=>?_)
     rw[if_neg (by simp)]
     have nn1:1≤min (l₀.length - lo) (minRun' l₀.length l₀.length 0):=by omega
     have nn2:lo+min (l₀.length - lo) (minRun' l₀.length l₀.length 0)≤l₀.length:=by omega
     have sp3:=spOf st3 kp3.sb (kp3.pend.trans hp2) (fun p hp=>(kp3.low p hp).trans (hlow2 p hp))
     have rn:=sg3.run (by rw[kp3.sb.size];omega)
     refine wpS_bind (wpS_get ?_)
     have push:∀ st6:SortSt,SP lt κ l₀ lo st6→Run lt (arrOf st6).toList lo (min (l₀.length - lo) (minRun' l₀.length l₀.length 0))→SP lt κ l₀ (lo+(min (l₀.length - lo) (minRun' l₀.length l₀.length 0))) (setPending st6 ((pendingOf st6).push (lo,(min (l₀.length - lo) (minRun' l₀.length l₀.length 0)),0))):=fun st6 sp6 r6=>⟨⟨sp6.sb.kind,sp6.sb.fail,sp6.sb.perm⟩,by
       show Ch lt (arrOf st6).toList 0 ((pendingOf st6).push (lo,(min (l₀.length - lo) (minRun' l₀.length l₀.length 0)),0)).toList (lo+(min (l₀.length - lo) (minRun' l₀.length l₀.length 0)))
       rw[c6y]
       exact Ch.app.mpr ⟨lo,sp6.ch,rfl,nn1,r6,rfl⟩⟩
     cases hb:(pendingOf st3).back? with
     | none=>
       exact wpS_bind (wpS_modify (wpS_pure ⟨_,rfl,by omega,by omega,push st3 sp3 rn⟩))
     | some bk=>
       obtain⟨s1,n1,w1⟩:=bk
       dsimp only
       refine wpS_bind (wpS_mono (wpS_forRange (I:=fun _ c st'=>c=(none,())∧SP lt κ l₀ lo st'∧Run lt (arrOf st').toList lo (min (l₀.length - lo) (minRun' l₀.length l₀.length 0))) (Q:=fun c st'=>c=(none,())∧SP lt κ l₀ lo st'∧Run lt (arrOf st').toList lo (min (l₀.length - lo) (minRun' l₀.length l₀.length 0))) ?_ (fun c st' h=>h) ⟨rfl,sp3,rn⟩) ?_)
       · rintro t' c st4 _ _ ⟨rfl,sp4,r4⟩
         refine wpS_bind (wpS_get ?_)
         by_cases c5:(pendingOf st4).size > 1
         · rw[if_pos c5,c4i (show (pendingOf st4).size - 2<(pendingOf st4).size by omega)]
           dsimp only
           refine a2o (wpS_pure ⟨rfl,sp4,r4⟩) ?_
           refine wpS_bind (a5z C iI sp4 (by omega) fun st5 sp5 _ _ k5=>?_)
           rw[if_neg (by simp)]
           refine wpS_pure ⟨rfl,sp5,?_⟩
           have hl5:(arrOf st5).toList.length=(arrOf st4).toList.length:=by rw[c2g,c2g,sp5.sb.size,sp4.sb.size]
           exact (Ch.keep (lt:=lt) hl5 (P:=[(lo,(min (l₀.length - lo) (minRun' l₀.length l₀.length 0)),0)]) (b:=lo) (e:=lo+(min (l₀.length - lo) (minRun' l₀.length l₀.length 0))) ⟨rfl,nn1,r4,rfl⟩ fun p p1 _=>k5 p p1).2.2.1
         · rw[if_neg c5]
           exact wpS_pure ⟨rfl,sp4,r4⟩
       · rintro c st4 ⟨rfl,sp4,r4⟩
         dsimp only
         refine wpS_bind (wpS_modify ?_)
         have sp5:∀ g:Nat×Nat×Nat→Nat×Nat×Nat,(∀ x,(g x).1=x.1∧(g x).2.1=x.2.1)→SP lt κ l₀ lo (setPending st4 ((pendingOf st4).modify ((pendingOf st4).size - 1) g)):=fun g hg=>⟨⟨sp4.sb.kind,sp4.sb.fail,sp4.sb.perm⟩,by
           show Ch lt (arrOf st4).toList 0 ((pendingOf st4).modify ((pendingOf st4).size - 1) g).toList lo
           rw[Array.toList_modify]
           exact Ch.pw hg _ sp4.ch⟩
         exact wpS_bind (wpS_modify (wpS_pure ⟨_,rfl,by omega,by omega,push _ (sp5 _ fun x=>⟨rfl,rfl⟩) r4⟩))
   · rw[if_neg c2]
     have nn1:=f1
     have sp3:=spOf st2 hB2 hp2 hlow2
     have rn:=sg2.run (by rw[hz2];omega)
     refine wpS_bind (wpS_get ?_)
     have push:∀ st6:SortSt,SP lt κ l₀ lo st6→Run lt (arrOf st6).toList lo (f)→SP lt κ l₀ (lo+(f)) (setPending st6 ((pendingOf st6).push (lo,(f),0))):=fun st6 sp6 r6=>⟨⟨sp6.sb.kind,sp6.sb.fail,sp6.sb.perm⟩,by
       show Ch lt (arrOf st6).toList 0 ((pendingOf st6).push (lo,(f),0)).toList (lo+(f))
       rw[c6y]
       exact Ch.app.mpr ⟨lo,sp6.ch,rfl,nn1,r6,rfl⟩⟩
     cases hb:(pendingOf st2).back? with
     | none=>
       exact wpS_bind (wpS_modify (wpS_pure ⟨_,rfl,by omega,by omega,push st2 sp3 rn⟩))
     | some bk=>
       obtain⟨s1,n1,w1⟩:=bk
       dsimp only
       refine wpS_bind (wpS_mono (wpS_forRange (I:=fun _ c st'=>c=(none,())∧SP lt κ l₀ lo st'∧Run lt (arrOf st').toList lo (f)) (Q:=fun c st'=>c=(none,())∧SP lt κ l₀ lo st'∧Run lt (arrOf st').toList lo (f)) ?_ (fun c st' h=>h) ⟨rfl,sp3,rn⟩) ?_)
       · rintro t' c st4 _ _ ⟨rfl,sp4,r4⟩
         refine wpS_bind (wpS_get ?_)
         by_cases c5:(pendingOf st4).size > 1
         · rw[if_pos c5,c4i (show (pendingOf st4).size - 2<(pendingOf st4).size by omega)]
           dsimp only
           refine a2o (wpS_pure ⟨rfl,sp4,r4⟩) ?_
           refine wpS_bind (a5z C iI sp4 (by omega) fun st5 sp5 _ _ k5=>?_)
           rw[if_neg (by simp)]
           refine wpS_pure ⟨rfl,sp5,?_⟩
           have hl5:(arrOf st5).toList.length=(arrOf st4).toList.length:=by rw[c2g,c2g,sp5.sb.size,sp4.sb.size]
           exact (Ch.keep (lt:=lt) hl5 (P:=[(lo,(f),0)]) (b:=lo) (e:=lo+(f)) ⟨rfl,nn1,r4,rfl⟩ fun p p1 _=>k5 p p1).2.2.1
         · rw[if_neg c5]
           exact wpS_pure ⟨rfl,sp4,r4⟩
       · rintro c st4 ⟨rfl,sp4,r4⟩
         dsimp only
         refine wpS_bind (wpS_modify ?_)
         have sp5:∀ g:Nat×Nat×Nat→Nat×Nat×Nat,(∀ x,(g x).1=x.1∧(g x).2.1=x.2.1)→SP lt κ l₀ lo (setPending st4 ((pendingOf st4).modify ((pendingOf st4).size - 1) g)):=fun g hg=>⟨⟨sp4.sb.kind,sp4.sb.fail,sp4.sb.perm⟩,by
           show Ch lt (arrOf st4).toList 0 ((pendingOf st4).modify ((pendingOf st4).size - 1) g).toList lo
           rw[Array.toList_modify]
           exact Ch.pw hg _ sp4.ch⟩
         exact wpS_bind (wpS_modify (wpS_pure ⟨_,rfl,by omega,by omega,push _ (sp5 _ fun x=>⟨rfl,rfl⟩) r4⟩))
 · rintro c st1 ⟨lo,rfl,h2,h3,sp⟩
   rw[c5u] at h2
   obtain rfl:lo=l₀.length:=by omega
   exact⟨rfl,sp⟩
 · rintro c st1 ⟨rfl,sp⟩
   dsimp only
   refine wpS_bind (wpS_mono (wpS_forRange (I:=fun t c st'=>c=(none,())∧SP lt κ l₀ l₀.length st'∧(pendingOf st').size≤l₀.length+1 - t) (Q:=fun c st'=>c=(none,())∧SP lt κ l₀ l₀.length st'∧(pendingOf st').size≤1) ?_ ?_ ⟨rfl,sp,?_⟩) ?_)
   · rintro t c st2 _ ht ⟨rfl,sp,hs⟩
     refine wpS_bind (wpS_get ?_)
     by_cases c1:(pendingOf st2).size≤1
     · rw[if_pos c1]
       exact wpS_pure ⟨rfl,sp,c1⟩
     rw[if_neg c1]
     have key:∀ (i:Nat),i+1<(pendingOf st2).size→wpS M A E s (mergeAt' i) (fun a st'=>a=true∧SP lt κ l₀ l₀.length st'∧(pendingOf st').size≤l₀.length+1 - (t+1)) st2:=fun i hi=>a5z C iI sp hi fun st3 h3 h4 h5 _=>⟨rfl,h3,by omega⟩
     refine wpS_bind (wpS_mono (key _ ?_) ?_)
     · have:∀ (c:Prop) [Decidable c],(if c then (pendingOf st2).size - 2 - 1 else (pendingOf st2).size - 2)+1<(pendingOf st2).size:=fun c _=>by
         by_cases h:c
         · rw[if_pos h];omega
         · rw[if_neg h];omega
       exact this _
     · rintro b st3 ⟨rfl,h3,h4⟩
       rw[if_neg (by simp)]
       exact wpS_pure ⟨rfl,h3,h4⟩
   · rintro c st2 ⟨rfl,sp,hs⟩
     rw[c5u] at hs
     exact⟨rfl,sp,by omega⟩
   · have:=Ch.le sp.ch
     rw[c2g] at this
     omega
   · rintro c st2 ⟨rfl,sp,hs⟩
     refine wpS_pure (hQ st2 sp.sb ?_)
     have hc:=sp.ch
     have hz:=sp.sb.size
     rcases e:(pendingOf st2).toList with _ | ⟨⟨x,n,w⟩,_ | ⟨y,r⟩⟩
     · rw[e] at hc
       have:0=l₀.length:=hc
       omega
     · rw[e] at hc
       obtain⟨h4,h5,h6,h7⟩:=hc
       have h8:0+n=l₀.length:=h7
       have:=h6.srt
       rw[List.drop_zero,c4x (by rw[c2g];omega)] at this
       exact this
     · have:(pendingOf st2).size=(pendingOf st2).toList.length:=c2g.symm
       rw[e] at this;simp at this;omega
end
end Cv
namespace L2
open PySem PySem.Spec PyProof.Rows
section
variable {κ:Type} [DecidableEq κ]
def valV(kvs:List (κ×V))(k:κ):Option V:=(kvs.find? fun kv=>decide (kv.1=k)).map (·.2)
theorem valV_nil{k:κ}:valV ([]:List (κ×V)) k=none:=rfl
end
end L2
namespace Cv
open PySem PySem.Spec PyProof.Rows L2
theorem b7h{lo:Int}{n:Nat}{g:TG}{tb:TS}{D:Ends}{σ:L2.St}{H:Hp}(Pv:Nat→L2.St→Hp→Prop)(h0:Pv 0 σ H)(hs:∀ (D':Ends) (N:Nat→L2.St→Hp→Prop),(∀ i σ H,Pv i σ H→N i σ H)→(∀ v H,D.rt v H→D'.rt v H)→∀ i σ H,i<n→Pv i σ H→g (.int (lo+i)) σ H fun σ2 H2=>tb { D' with nx:=N (i+1),ct:=N (i+1) } σ2 H2)(hd:∀ σ H,Pv n σ H→D.nx σ H) :
   ∃ W:Nat→Nat→L2.St→Hp→Prop,(∃ m,W 0 m σ H)∧∀ i m σ H,W i m σ H→
     ((Itr lo n).stop i H∧D.nx σ H)∨((Itr lo n).go i H∧∃ N:L2.St→Hp→Prop,(∀ σ' H',N σ' H'→∃ m',m' < m∧W (i+1) m' σ' H')∧∀ x H',(Itr lo n).yld i H x H'→g x σ H' fun σ2 H2=>tb { D with nx:=N,ct:=N,bk:=D.nx } σ2 H2):=
 a9b Pv h0 (fun i σ H hi hp=>hs { D with bk:=D.nx } Pv (fun _ _ _ h=>h) (fun _ _ h=>h) i σ H hi hp) hd
end Cv
namespace Cv
open PySem PySem.Spec PyProof.Rows L2
section
variable {X:Cx}
theorem a2z(K:c2f)(h:X.K=K:=by rfl):a5g X (.builtin "isinstance") (fun xs H Q=>∃ x C y c b,xs=[.ref x,y]∧H x=some (ExcO x (.ref C))∧clsOf y=some c∧XNot K C∧c3m K (.ref C) c=some b∧Q (.bl b) H):=by subst h;exact call_isx
theorem b7r(K:c2f){x:Addr}(hh:X.A.handled=some (.ref x))(h:X.K=K:=by rfl):a5g X (.builtin "any") (fun xs H Q=>∃ (p:Addr) (bs:List Bool) (C:Addr),xs=[.ref p]∧SqL K H p (bs.map V.bl)∧H x=some (ExcO x (.ref C))∧Q (.bl (bs.any id)) H):=by subst h;exact c1p hh
theorem a1l(K:c2f)(h:X.K=K:=by rfl):a5g X (.type "list") (fun xs H Q=>∃ p ys,xs=[.ref p]∧(SqL K H p ys∨SqT K H p ys)∧∀ l,H l=none→Q (.ref l) (upd H l (.lst ys))):=by subst h;exact b2z
end
end Cv
namespace Cv
open PySem PySem.Spec PyProof.Rows L2
def PtV(H:Hp)(v:V)(x y:Rat):Prop:=∃ a vx vy,v=.ref a∧H a=some (.tup [vx,vy])∧ShV H vx x∧ShV H vy y
theorem PtV.same{H H':Hp}{v:V}{x y:Rat}(h:PtV H v x y)(e:Same H H'):PtV H' v x y:=by
 obtain⟨a,vx,vy,rfl,h,h1,h2⟩:=h
 exact⟨a,vx,vy,rfl,e _ _ h,h1.same e,h2.same e⟩
end Cv
namespace Cv
open PySem PySem.Spec PyProof.Rows L2
def RwV(H:Hp)(v:V)(t b:Int):Prop:=∃ a,v=.ref a∧H a=some (.tup [.int t,.int b])
theorem RwV.same{H H':Hp}{v:V}{t b:Int}(h:RwV H v t b)(e:Same H H'):RwV H' v t b:=by
 obtain⟨a,rfl,h⟩:=h
 exact⟨a,rfl,e _ _ h⟩
end Cv
namespace Cv
open PySem PySem.Spec PyProof.Rows L2
theorem a2k{H:Hp}{p b:Addr}{o x:HO}(h:H p=none)(e:H b=some x):upd H p o b=some x:=by rw[a0j (a0l e h)];exact e
theorem Bd.zero':Bd 1 (0:Rat):=⟨⟨by decide⟩,⟨by decide⟩⟩
theorem Bd.one':Bd 1 (1:Rat):=⟨⟨by decide⟩,⟨by decide⟩⟩
theorem PtV.tup{H H':Hp}{v:V}{x y:Rat}(h:PtV H v x y)(e:Tup H H'):PtV H' v x y:=by
 obtain⟨a,vx,vy,rfl,h,h1,h2⟩:=h
 exact⟨a,vx,vy,rfl,e _ _ h,h1.tup e,h2.tup e⟩
theorem RwV.tup{H H':Hp}{v:V}{x y:Int}(h:RwV H v x y)(e:Tup H H'):RwV H' v x y:=by
 obtain⟨a,rfl,h⟩:=h
 exact⟨a,rfl,e _ _ h⟩
theorem SqL.same'{K:c2f}{H H':Hp}{a:Addr}{xs:List V}(h:SqL K H a xs)(e:Same H H'):SqL K H' a xs:=e.seq h
theorem SqT.same'{K:c2f}{H H':Hp}{a:Addr}{xs:List V}(h:SqT K H a xs)(e:Same H H'):SqT K H' a xs:=SqT.same e h
end Cv
namespace Cv
open PySem PySem.Spec PyProof.Rows L2
def RwQ(H:Hp)(v:V)(r:Rat)(n:Nat):Prop:=∃ t b:Int,RwV H v t b∧0<b∧(t:Rat)=r*(b:Rat)∧Sz n t∧Sz n b
theorem RwQ.same{H H':Hp}{v:V}{r:Rat}{n:Nat}(h:RwQ H v r n)(e:Same H H'):RwQ H' v r n:=by
 obtain⟨t,b,h1,h2⟩:=h
 exact⟨t,b,h1.same e,h2⟩
theorem cast_ne{b:Int}(h:0<b):(b:Rat)≠0:=by
 intro z
 have:b=0:=by exact_mod_cast z
 omega
theorem mulN{n m:Nat}{i j:Int}(h1:Sz n i)(h2:Sz m j)(h:n+m≤100000000):c2d i j:=mulB h1 h2 h
end Cv
namespace Cv
abbrev Pt:=Rat×Rat
def btw(t a b:Rat):Rat:=a+t*(b - a)
def btwP(t:Rat)(p q:Pt):Pt:=(btw t p.1 q.1,btw t p.2 q.2)
def nxP(t:Rat)(ps:List Pt):List Pt:=List.zipWith (btwP t) ps (ps.drop 1)
def rowP(t:Rat)(ps:List Pt):Nat→List Pt
 | 0=>ps
 | r+1=>nxP t (rowP t ps r)
theorem a2t(t:Rat)(ps:List Pt):(nxP t ps).length=ps.length - 1:=by
 unfold nxP
 rw[c5v,c3k]
 omega
theorem a2u(t:Rat)(ps:List Pt)(i:Nat){p q:Pt}(h1:ps[i]?=some p)(h2:ps[i+1]?=some q):(nxP t ps)[i]?=some (btwP t p q):=by
 unfold nxP
 rw[c5m,c6a,h1,Nat.add_comm 1 i,h2]
theorem a7u(t:Rat)(ps:List Pt):∀ r,(rowP t ps r).length=ps.length - r
 | 0=>rfl
 | r+1=>by
   show (nxP t (rowP t ps r)).length=_
   rw[a2t,a7u t ps r]
   omega
def ptP(t:Rat)(ps:List Pt):Pt:=((rowP t ps (ps.length - 1))[0]?).getD (0,0)
theorem b3x(t:Rat)(ps:List Pt)(h:1≤ps.length):rowP t ps (ps.length - 1)=[ptP t ps]:=by
 have hl:=a7u t ps (ps.length - 1)
 have e:(rowP t ps (ps.length - 1)).length=1:=by omega
 match hq:rowP t ps (ps.length - 1),e with
 | [x],_=>unfold ptP;rw[hq];rfl
def Ov(D:Int)(n:Nat)(x:Rat):Prop:=∃ m:Int,x*(D:Rat)=(m:Rat)∧Sz n m
theorem Ov.mono{D:Int}{n k:Nat}{x:Rat}(h:Ov D n x)(hk:n≤k):Ov D k x:=by
 obtain⟨m,e,z⟩:=h
 exact⟨m,e,z.mono hk⟩
theorem Ov.bd{D:Int}{n d:Nat}{x:Rat}(h:Ov D n x)(hD:D≠0)(hd:Sz d D):Bd (max n d) x:=by
 obtain⟨m,e,z⟩:=h
 rw[b2q hD e]
 exact Bd.of z hd hD
def OvP(D:Int)(n:Nat)(p:Pt):Prop:=Ov D n p.1∧Ov D n p.2
end Cv
namespace Cv
open PySem PySem.Spec PyProof.Rows L2
structure PtsV(H:Hp)(vs:List V)(ps:List Pt):Prop where
 len:vs.length=ps.length
 get:∀ (i:Nat) v p,vs[i]?=some v→ps[i]?=some p→PtV H v p.1 p.2
theorem PtsV.tup{H H':Hp}{vs:List V}{ps:List Pt}(h:PtsV H vs ps)(t:Tup H H'):PtsV H' vs ps:=⟨h.len,fun i v p e1 e2=>(h.get i v p e1 e2).tup t⟩
theorem PtsV.same{H H':Hp}{vs:List V}{ps:List Pt}(h:PtsV H vs ps)(t:Same H H'):PtsV H' vs ps:=h.tup t.tup
theorem c1t{α:Type}(xs:List α)(v:α)(h:xs[xs.length - 1]?=some v)(hl:1≤xs.length):atI xs (-1)=some v:=by
 rcases List.eq_nil_or_concat xs with rfl | ⟨ys,y,rfl⟩
 · simp at hl
 · have:(ys++[y])[ys.length]?=some v:=by simpa using h
   have e:y=v:=by simpa using this
   subst e
   have:=atI_last ys y
   simpa using this
theorem a4s{α:Type}{xs:List α}{j:Nat}{i:Int}{v:α}(e:i=(j:Int))(h:xs[j]?=some v):atI xs i=some v:=by subst e;exact b4r h
end Cv
namespace Cv
open PySem PySem.Spec PyProof.Rows L2
theorem cut_from{α:Type}(f:α→V)(xs:List α)(k:Nat)(h:k≤xs.length):cutV (xs.map f) (some (k:Int)) none=(xs.drop k).map f:=by
 unfold cutV
 have e:HT.sIx (xs.map f).length 0 (some (k:Int))=k:=by
   have:=HT.b3t (xs.map f).length 0 k
   rw[c2h] at this
   rw[c2h]
   exact this.trans (by omega)
 rw[e,HT.b0y,← List.map_drop]
 refine c4x ?_
 rw[c2h,c3k,c2h]
 omega
theorem b2t{α:Type}(f:α→V)(xs:List α)(k:Int)(n:Nat)(e:k=(n:Int))(h:n≤xs.length):cutV (xs.map f) (some k) none=(xs.drop n).map f:=by subst e;exact cut_from f xs n h
end Cv
namespace Cv
open PySem PySem.Spec PyProof.Rows L2
structure Mp where
 a:Rat
 b:Rat
 c:Rat
 d:Rat
 e:Rat
 f:Rat
def MpV(H:Hp)(v:V)(m:Mp):Prop:=∃ x v0 v1 v2 v3 v4 v5,v=.ref x∧H x=some (.tup [v0,v1,v2,v3,v4,v5])∧ShV H v0 m.a∧ShV H v1 m.b∧ShV H v2 m.c∧ShV H v3 m.d∧ShV H v4 m.e∧ShV H v5 m.f
theorem MpV.tup{H H':Hp}{v:V}{m:Mp}(h:MpV H v m)(t:Tup H H'):MpV H' v m:=by
 obtain⟨x,v0,v1,v2,v3,v4,v5,rfl,h,h0,h1,h2,h3,h4,h5⟩:=h
 exact⟨x,v0,v1,v2,v3,v4,v5,rfl,t _ _ h,h0.tup t,h1.tup t,h2.tup t,h3.tup t,h4.tup t,h5.tup t⟩
theorem MpV.same{H H':Hp}{v:V}{m:Mp}(h:MpV H v m)(t:Same H H'):MpV H' v m:=h.tup t.tup
theorem a4b{H H':Hp}{D:Addr}{o:HO}(h:H D=none)(s:Same H H'):Same H (upd H' D o):=fun b u e=>by rw[a0j (a0l e h)];exact s b u e
end Cv
namespace Cv
def a1b:List Int→Int
 | []=>1
 | b::r=>b*a1b r
theorem b2f(xs ys:List Int):a1b (xs++ys)=a1b xs*a1b ys:=by
 induction xs with
 | nil=>simp[a1b]
 | cons x r ih=>simp only[c7e,a1b,ih,Int.mul_assoc]
theorem b0i(xs:List Int)(y:Int):a1b (xs++[y])=a1b xs*y:=by rw[b2f];simp[a1b]
theorem a8r{xs:List Int}(h:∀ x∈xs,0<x):0<a1b xs:=by
 induction xs with
 | nil=>decide
 | cons x r ih=>exact c7p (h x (.head _)) (ih fun y hy=>h y (.tail _ hy))
def axR(tops bs:List Int):List Rat:=tops.map fun x=>c2i x (a1b bs)
theorem c0r{y x u:Int}(hc:c3s y x=1)(h:y∣x*u):y∣u:=by
 have h2:y.natAbs∣x.natAbs*u.natAbs:=by rw[← Int.natAbs_mul];exact Int.natAbs_dvd_natAbs.mpr h
 exact Int.natAbs_dvd_natAbs.mp (Nat.Coprime.dvd_of_dvd_mul_left hc h2)
theorem c1b(a b:Int)(hb:0<b):∃ g x y:Int,(c3s a b:Int)=g∧0<g∧a=g*x∧b=g*y∧c3s x y=1∧0<y∧a.fdiv g=x∧b.fdiv g=y:=by
 have g0:0<(c3s a b:Int):=by
   have:=Int.gcd_pos_of_ne_zero_right a (show b≠0 by omega)
   omega
 obtain⟨x,hx⟩ : (c3s a b:Int)∣a:=Int.gcd_dvd_left ..
 obtain⟨y,hy⟩ : (c3s a b:Int)∣b:=Int.gcd_dvd_right ..
 have hc:c3s x y=1:=by
   have h1:c3s a b=c3s ((c3s a b:Int)*x) ((c3s a b:Int)*y):=by rw[← hx,← hy]
   rw[Int.gcd_mul_left,Int.natAbs_natCast] at h1
   have h2:0<c3s a b:=by omega
   have h3:c3s a b*1=c3s a b*c3s x y:=by rw[Nat.mul_one];exact h1
   exact (Nat.eq_of_mul_eq_mul_left h2 h3).symm
 generalize (c3s a b:Int)=g at g0 hx hy
 have hyp:0<y:=by
   rw[hy] at hb
   rcases Int.lt_trichotomy y 0 with h | h | h
   · have:=Int.mul_neg_of_pos_of_neg g0 h;omega
   · rw[h,Int.mul_zero] at hb;omega
   · exact h
 refine⟨g,x,y,rfl,g0,hx,hy,hc,hyp,?_,?_⟩
 · rw[c4h _ (c7c g0),hx]
   exact c5e _ (by omega)
 · rw[c4h _ (c7c g0),hy]
   exact c5e _ (by omega)
theorem c1f{q:Rat}{D:Int}{n:Nat}(h:Ov D n q):(q.den:Int)∣D:=by
 obtain⟨m,e,_⟩:=h
 have h1:=a7y q
 have hd:=b4m q
 have e2:(q.num:Rat)*(D:Rat)=(m:Rat)*((q.den:Int):Rat):=by rw[h1,← e];grind
 have e3:q.num*D=m*q.den:=by exact_mod_cast e2
 have hr:c3s q.den q.num=1:=by rw[Int.gcd_comm];exact q.reduced
 exact c0r hr ⟨m,by rw[e3];exact c5c ..⟩
theorem lcm_step{W d D:Int}(hd:0<d)(h1:W∣D)(h2:d∣D):d∣W*d.fdiv (c3s W d)∧W*d.fdiv (c3s W d)∣D∧0<d.fdiv (c3s W d)∧0<(c3s W d:Int)∧(c3s W d:Int)∣d:=by
 obtain⟨g,x,y,eg,g0,hx,hy,hc,hyp,ex,ey⟩:=c1b W d hd
 rw[eg,ey]
 refine⟨⟨x,by rw[hx,hy];grind⟩,?_,hyp,g0,⟨y,hy⟩⟩
 obtain⟨u,hu⟩:=h1
 obtain⟨v,hv⟩:=h2
 have e:x*u=y*v:=by
   have:g*(x*u)=g*(y*v):=by rw[← Int.mul_assoc,← Int.mul_assoc,← hx,← hy,← hu,hv]
   exact Int.eq_of_mul_eq_mul_left (by omega) this
 obtain⟨w,hw⟩:=c0r (y:=y) (x:=x) (u:=u) (by rw[Int.gcd_comm];exact hc) ⟨v,e⟩
 exact⟨w,by rw[hu,hw];grind⟩
theorem a9z{n:Nat}{x D:Int}(hD:D≠0)(h:x∣D)(z:Sz n D):Sz n x:=z.le (Nat.le_of_dvd (by omega) (Int.natAbs_dvd_natAbs.mpr h))
end Cv
namespace Cv
open PySem PySem.Spec PyProof.Rows L2
structure ShL(H:Hp)(vs:List V)(qs:List Rat):Prop where
 len:vs.length=qs.length
 get:∀ (i:Nat) v q,vs[i]?=some v→qs[i]?=some q→ShV H v q
theorem ShL.tup{H H':Hp}{vs:List V}{qs:List Rat}(h:ShL H vs qs)(t:Tup H H'):ShL H' vs qs:=⟨h.len,fun i v q e1 e2=>(h.get i v q e1 e2).tup t⟩
theorem ShL.same{H H':Hp}{vs:List V}{qs:List Rat}(h:ShL H vs qs)(t:Same H H'):ShL H' vs qs:=h.tup t.tup
theorem ShL.atV{H:Hp}{vs:List V}{qs:List Rat}(h:ShL H vs qs){i:Nat}{v:V}(hv:vs[i]?=some v):∃ q,qs[i]?=some q∧ShV H v q:=by
 have hi:i<vs.length:=(c2q.mp hv).1
 have e:qs[i]?=some (qs[i]'(by rw[← h.len];exact hi)):=c2e _
 exact⟨_,e,h.get i v _ hv e⟩
theorem PtsV.atV{H:Hp}{vs:List V}{ps:List Pt}(h:PtsV H vs ps){i:Nat}{v:V}(hv:vs[i]?=some v):∃ p,ps[i]?=some p∧PtV H v p.1 p.2:=by
 have hi:i<vs.length:=(c2q.mp hv).1
 have e:ps[i]?=some (ps[i]'(by rw[← h.len];exact hi)):=c2e _
 exact⟨_,e,h.get i v _ hv e⟩
def AxV(H:Hp)(v:V)(n:Nat)(tops bs:List Int):Prop:=∃ a lt lb,v=.ref a∧H a=some (.tup [.ref lt,.ref lb])∧H lt=some (.lst (tops.map V.int))∧H lb=some (.lst (bs.map V.int))∧(∀ x∈tops,Sz n x)∧(∀ b∈bs,0<b∧Sz 9000 b)∧bs.length≤100∧tops.length≤1000
theorem AxV.same{H H':Hp}{v:V}{n:Nat}{tops bs:List Int}(h:AxV H v n tops bs)(s:Same H H'):AxV H' v n tops bs:=by
 obtain⟨a,lt,lb,e,h1,h2,h3,h4⟩:=h
 exact⟨a,lt,lb,e,s _ _ h1,s _ _ h2,s _ _ h3,h4⟩
def b5i(K:c2f):Sp:=fun vs H Q _=>∃ (a:Addr) (ws:List V) (qs:List Rat) (D:Int),vs=[.ref a]∧SqL K H a ws∧ShL H ws qs∧0<D∧Sz 9000 D∧(∀ q∈qs,(q.den:Int)∣D)∧qs.length≤40∧
 ∀ (l:Addr) (bs:List Int) (H':Hp),Same H H'→H' l=some (.lst (bs.map V.int))→(∀ b∈bs,0<b∧Sz 9000 b)→(∀ q∈qs,(q.den:Int)∣a1b bs)→a1b bs∣D→bs.length≤qs.length→Q (.ref l) H'
def a8i(K:c2f):Sp:=fun vs H Q _=>∃ (a:Addr) (bs:List Int),vs=[.ref a]∧SqL K H a (bs.map V.int)∧(∀ b∈bs,0<b∧Sz 9000 b)∧bs.length≤100∧Q (.int (a1b bs)) H
theorem prod_sz{bs:List Int}(h:∀ b∈bs,0<b∧Sz 9000 b):Sz (9000*bs.length+1) (a1b bs):=by
 induction bs with
 | nil=>exact⟨by decide⟩
 | cons b r ih=>
   show Sz _ (b*a1b r)
   exact ((h b (.head _)).2.mul (ih fun c hc=>h c (.tail _ hc))).mono (by rw[c3r];omega)
theorem top_of{q:Rat}{W:Int}(hW:0<W)(h:(q.den:Int)∣W):c2i (q.num*W.fdiv q.den) W=q:=by
 have hd:0<(q.den:Int):=by have:=q.den_pos;omega
 obtain⟨w,hw⟩:=h
 have e:W.fdiv q.den=w:=by
   rw[c4h _ (c7c hd)]
   conv=>lhs;rw[hw]
   exact c5e _ (by omega)
 rw[e]
 symm
 refine b2q (by omega) ?_
 have h1:=a7y q
 rw[hw]
 simp only[c3o]
 rw[h1];grind
theorem b8z{n:Nat}{W d:Int}(hW:0<W)(hd:0<d)(h:d∣W)(z:Sz n W):Sz n (W.fdiv d):=by
 obtain⟨w,hw⟩:=h
 have e:W.fdiv d=w:=by
   rw[c4h _ (c7c hd)]
   conv=>lhs;rw[hw]
   exact c5e _ (by omega)
 rw[e]
 exact a9z (by omega) ⟨d,by rw[hw];exact c5c ..⟩ z
theorem ints_at{bs:List Int}{i:Nat}{x:V}(h:(bs.map V.int)[i]?=some x):∃ b,bs[i]?=some b∧x=.int b:=by
 rw[c2p] at h
 cases e:bs[i]? with
 | none=>rw[e] at h;cases h
 | some b=>rw[e] at h;cases h;exact⟨b,rfl,rfl⟩
theorem b1y{α:Type}{bs:List α}{i:Nat}{b:α}(h:bs[i]?=some b):bs.take (i+1)=bs.take i++[b]:=by rw[List.take_succ,h];rfl
theorem b1r(t b:List Int):(axR t b).length=t.length:=by unfold axR;rw[c2h]
theorem ints_of{α:Type}{ys:List V}{qs:List α}{f:α→Int}(hl:ys.length=qs.length)(h:∀ (i:Nat) v,ys[i]?=some v→∀ q,qs[i]?=some q→v=.int (f q)):ys=(qs.map f).map V.int:=by
 refine c4r fun i=>?_
 rw[c2p,c2p]
 cases e:ys[i]? with
 | none=>
   have:qs[i]?=none:=c3c (by have:=List.getElem?_eq_none_iff.mp e;omega)
   rw[this];rfl
 | some v=>
   have hi:i<qs.length:=by have:=(c2q.mp e).1;omega
   have e2:qs[i]?=some qs[i]:=c2e hi
   rw[h i v e _ e2,e2];rfl
theorem axR_tops{qs:List Rat}{bs:List Int}(hb:0<a1b bs)(h:∀ q∈qs,(q.den:Int)∣a1b bs):axR (qs.map fun q=>q.num*(a1b bs).fdiv q.den) bs=qs:=by
 unfold axR
 rw[c7b]
 conv=>rhs;rw[← List.map_id qs]
 refine c5w fun q hq=>?_
 exact top_of hb (h q hq)
theorem ShL.map{H:Hp}{ys:List V}{ps:List Pt}{f:Pt→Rat}(hl:ys.length=ps.length)(h:∀ (i:Nat) v,ys[i]?=some v→∀ p,ps[i]?=some p→ShV H v (f p)):ShL H ys (ps.map f):=by
 refine⟨by rw[hl,c2h],fun i v q e1 e2=>?_⟩
 rw[c2p] at e2
 cases e3:ps[i]? with
 | none=>rw[e3] at e2;cases e2
 | some p=>rw[e3] at e2;cases e2;exact h i v e1 p e3
theorem int_at{t:List Int}{i:Nat}{x:Int}(h:t[i]?=some x):((t.map V.int)[i]?).getD V.non=.int x:=by rw[c2p,h];rfl
end Cv
namespace Cv
open PySem PySem.Spec PyProof.Rows L2
def a2b(ts:List Rat)(ps:List Pt):List Pt:=ts.foldl (fun r t=>nxP t r) ps
def polP(ts:List Rat)(ps:List Pt):Pt:=((a2b ts ps)[0]?).getD (0,0)
theorem a6c(ts:List Rat)(t:Rat)(ps:List Pt):a2b (ts++[t]) ps=nxP t (a2b ts ps):=by unfold a2b;rw[List.foldl_append];rfl
theorem a6w(ts:List Rat)(ps:List Pt):(a2b ts ps).length=ps.length - ts.length:=by
 induction ts generalizing ps with
 | nil=>simp[a2b]
 | cons t r ih=>
   show (a2b r (nxP t ps)).length=_
   rw[ih,a2t,c3r];omega
theorem a5n(t:Rat)(ps:List Pt):∀ r,a2b (c2n r t) ps=rowP t ps r
 | 0=>rfl
 | r+1=>by
   rw[List.replicate_succ',a6c,a5n t ps r];rfl
theorem b1a(ts:List Rat)(ps:List Pt)(h:ps.length=ts.length+1):a2b ts ps=[polP ts ps]:=by
 have hl:=a6w ts ps
 have e:(a2b ts ps).length=1:=by omega
 match hq:a2b ts ps,e with
 | [x],_=>unfold polP;rw[hq];rfl
def strP(s t:Rat)(ps:List Pt)(k:Nat):Pt:=polP (c2n (ps.length - 1 - k) s++c2n k t) ps
def a4k(t:Rat)(ps:List Pt):List Pt:=(c4a ps.length).map fun r=>((rowP t ps r)[0]?).getD (0,0)
def a7b(t:Rat)(ps:List Pt):List Pt:=(c4a ps.length).map fun k=>((rowP t ps (ps.length - 1 - k))[k]?).getD (0,0)
theorem b7j(t:Rat)(ps:List Pt):(a4k t ps).length=ps.length:=by unfold a4k;rw[c2h,c4l]
theorem c0p(t:Rat)(ps:List Pt):(a7b t ps).length=ps.length:=by unfold a7b;rw[c2h,c4l]
end Cv
namespace Cv
open PySem PySem.Spec PyProof.Rows L2
theorem btw_comm(s t a b c:Rat):btw s (btw t a b) (btw t b c)=btw t (btw s a b) (btw s b c):=by unfold btw;grind
theorem nxP_comm(s t:Rat)(ps:List Pt):nxP s (nxP t ps)=nxP t (nxP s ps):=by
 have hl:(nxP s (nxP t ps)).length=(nxP t (nxP s ps)).length:=by simp only[a2t]
 refine c4r fun i=>?_
 by_cases hi:i+2<ps.length
 · have e0:ps[i]?=some (ps[i]'(by omega (config:={}))):=c2e _
   have e1:ps[i+1]?=some (ps[i+1]'(by omega (config:={}))):=c2e _
   have e2:ps[i+1+1]?=some (ps[i+1+1]'(by omega (config:={}))):=c2e _
   rw[a2u s _ i (a2u t ps i e0 e1) (a2u t ps (i+1) e1 e2),a2u t _ i (a2u s ps i e0 e1) (a2u s ps (i+1) e1 e2)]
   unfold btwP
   simp only[btw_comm]
 · have h1:(nxP s (nxP t ps))[i]?=none:=c3c (by simp only[a2t];omega)
   have h2:(nxP t (nxP s ps))[i]?=none:=c3c (by simp only[a2t];omega)
   rw[h1,h2]
theorem a1x(t:Rat)(ts:List Rat)(ps:List Pt):a2b (t::ts) ps=a2b ts (nxP t ps):=rfl
theorem a8o{ts us:List Rat}(h:ts.Perm us)(ps:List Pt):a2b ts ps=a2b us ps:=by
 induction h generalizing ps with
 | nil=>rfl
 | cons x _ ih=>rw[a1x,a1x];exact ih _
 | swap x y l=>rw[a1x,a1x,a1x,a1x,nxP_comm]
 | trans _ _ ih1 ih2=>rw[ih1,ih2]
theorem b2g{ts us:List Rat}(h:ts.Perm us)(ps:List Pt):polP ts ps=polP us ps:=by unfold polP;rw[a8o h ps]
theorem cut_to(xs:List V)(k:Int)(n:Nat)(e:k=(n:Int)):cutV xs none (some k)=xs.take n:=by
 subst e
 unfold cutV
 rw[HT.b3t,HT.b0y,List.drop_zero,Nat.sub_zero]
 rw[List.take_eq_take_iff];omega
end Cv
namespace Cv
def comb(u:Rat)(A B:List Pt):List Pt:=List.zipWith (btwP u) A B
theorem b1p(u:Rat)(A B:List Pt):(comb u A B).length=min A.length B.length:=by unfold comb;rw[c5v]
theorem a8c{u:Rat}{A B:List Pt}{i:Nat}{a b:Pt}(h1:A[i]?=some a)(h2:B[i]?=some b):(comb u A B)[i]?=some (btwP u a b):=by unfold comb;rw[c5m,h1,h2]
theorem btw_mix(u s t a b:Rat):btw (btw u s t) a b=btw u (btw s a b) (btw t a b):=by unfold btw;grind
theorem btw_swap(u t a b c d:Rat):btw t (btw u a b) (btw u c d)=btw u (btw t a c) (btw t b d):=by unfold btw;grind
theorem nxP_mix(u s t:Rat)(ps:List Pt):nxP (btw u s t) ps=comb u (nxP s ps) (nxP t ps):=by
 refine c4r fun i=>?_
 by_cases hi:i+1<ps.length
 · have e0:ps[i]?=some (ps[i]'(by omega (config:={}))):=c2e _
   have e1:ps[i+1]?=some (ps[i+1]'(by omega (config:={}))):=c2e _
   rw[a2u _ ps i e0 e1,a8c (a2u s ps i e0 e1) (a2u t ps i e0 e1)]
   unfold btwP
   simp only[btw_mix]
 · rw[c3c (by rw[a2t];omega),c3c (by rw[b1p,a2t,a2t];omega)]
theorem nxP_comb(t u:Rat)(A B:List Pt)(h:A.length=B.length):nxP t (comb u A B)=comb u (nxP t A) (nxP t B):=by
 refine c4r fun i=>?_
 by_cases hi:i+1<A.length
 · have a0:A[i]?=some (A[i]'(by omega (config:={}))):=c2e _
   have a1:A[i+1]?=some (A[i+1]'(by omega (config:={}))):=c2e _
   have b0:B[i]?=some (B[i]'(by omega (config:={}))):=c2e _
   have b1:B[i+1]?=some (B[i+1]'(by omega (config:={}))):=c2e _
   rw[a2u t _ i (a8c a0 b0) (a8c a1 b1),a8c (a2u t A i a0 a1) (a2u t B i b0 b1)]
   unfold btwP
   simp only[btw_swap]
 · rw[c3c (by rw[a2t,b1p];omega),c3c (by rw[b1p,a2t,a2t];omega)]
theorem a8p(u:Rat):∀ (ts:List Rat) (A B:List Pt),A.length=B.length→a2b ts (comb u A B)=comb u (a2b ts A) (a2b ts B)
 | [],_,_,_=>rfl
 | t::r,A,B,h=>by
   rw[a1x,a1x,a1x,nxP_comb t u A B h]
   exact a8p u r _ _ (by rw[a2t,a2t,h])
theorem polP_mix(u s t:Rat)(ts:List Rat)(ps:List Pt)(h:ps.length=ts.length+2):polP (btw u s t::ts) ps=btwP u (polP (s::ts) ps) (polP (t::ts) ps):=by
 have e:a2b (btw u s t::ts) ps=comb u (a2b (s::ts) ps) (a2b (t::ts) ps):=by
   rw[a1x,nxP_mix,a8p u ts _ _ (by rw[a2t,a2t])];rfl
 have h1:=b1a (s::ts) ps (by rw[c3r];omega)
 have h2:=b1a (t::ts) ps (by rw[c3r];omega)
 have h3:=b1a (btw u s t::ts) ps (by rw[c3r];omega)
 rw[h1,h2,h3] at e
 simp[comb] at e
 exact e
def strL(s t:Rat)(ps:List Pt):List Pt:=(c4a ps.length).map (strP s t ps)
theorem b4z(s t:Rat)(ps:List Pt):(strL s t ps).length=ps.length:=by unfold strL;rw[c2h,c4l]
theorem perm_mid(r n k:Nat)(w s t:Rat):(c2n r w++(c2n (n+1) s++c2n k t)).Perm (s::(c2n r w++(c2n n s++c2n k t))):=by
 rw[List.replicate_succ,c7e]
 exact List.perm_middle
theorem perm_end(r n k:Nat)(w s t:Rat):(c2n r w++(c2n n s++c2n (k+1) t)).Perm (t::(c2n r w++(c2n n s++c2n k t))):=by
 rw[List.replicate_succ,← c3f]
 refine List.perm_middle.trans ?_
 rw[c3f]
theorem b0t(u s t:Rat)(ps:List Pt):∀ r k,r+k<ps.length→(rowP u (strL s t ps) r)[k]?=some (polP (c2n r (btw u s t)++(c2n (ps.length - 1 - r - k) s++c2n k t)) ps)
 | 0,k,h=>by
   show (strL s t ps)[k]?=_
   unfold strL
   rw[c2p,c6h (by omega)]
   rfl
 | r+1,k,h=>by
   have h1:=b0t u s t ps r k (by omega)
   have h2:=b0t u s t ps r (k+1) (by omega)
   show (nxP u (rowP u (strL s t ps) r))[k]?=_
   rw[a2u u _ k h1 h2]
   have e1:ps.length - 1 - r - k=(ps.length - 1 - (r+1) - k)+1:=by omega
   have e2:ps.length - 1 - r - (k+1)=ps.length - 1 - (r+1) - k:=by omega
   rw[e1,e2,b2g (perm_mid r _ k _ s t) ps,b2g (perm_end r _ k _ s t) ps]
   have hm:=polP_mix u s t (c2n r (btw u s t)++(c2n (ps.length - 1 - (r+1) - k) s++c2n k t)) ps (by simp;omega)
   rw[← hm]
   rw[List.replicate_succ,c7e]
theorem b8h(u s t:Rat)(ps:List Pt)(h:1≤ps.length):ptP u (strL s t ps)=ptP (btw u s t) ps:=by
 have h1:=b0t u s t ps (ps.length - 1) 0 (by omega)
 have h2:=b3x u (strL s t ps) (by rw[b4z];exact h)
 rw[b4z] at h2
 rw[h2] at h1
 have e0:ps.length - 1 - (ps.length - 1) - 0=0:=by omega
 rw[e0] at h1
 simp only[List.replicate_zero,c5d,List.getElem?_cons_zero,c2u.injEq] at h1
 rw[h1]
 have h3:=a5n (btw u s t) ps (ps.length - 1)
 unfold polP ptP
 rw[h3]
theorem btw_zero(a b:Rat):btw 0 a b=a:=by unfold btw;grind
theorem btw_one(a b:Rat):btw 1 a b=b:=by unfold btw;grind
theorem nxP_zero(ps:List Pt)(i:Nat)(h:i+1<ps.length):(nxP 0 ps)[i]?=ps[i]?:=by
 have e0:ps[i]?=some (ps[i]'(by omega (config:={}))):=c2e _
 have e1:ps[i+1]?=some (ps[i+1]'(by omega (config:={}))):=c2e _
 rw[a2u 0 ps i e0 e1,e0]
 unfold btwP
 simp only[btw_zero]
theorem nxP_one(ps:List Pt)(i:Nat)(h:i+1<ps.length):(nxP 1 ps)[i]?=ps[i+1]?:=by
 have e0:ps[i]?=some (ps[i]'(by omega (config:={}))):=c2e _
 have e1:ps[i+1]?=some (ps[i+1]'(by omega (config:={}))):=c2e _
 rw[a2u 1 ps i e0 e1,e1]
 unfold btwP
 simp only[btw_one]
theorem b2d(ps:List Pt):∀ r i,r+i<ps.length→(a2b (c2n r 0) ps)[i]?=ps[i]?
 | 0,i,h=>rfl
 | r+1,i,h=>by
   rw[List.replicate_succ',a6c,nxP_zero _ i (by rw[a6w,c2r];omega)]
   exact b2d ps r i (by omega)
theorem b5l(ps:List Pt):∀ r i,r+i<ps.length→(a2b (c2n r 1) ps)[i]?=ps[i+r]?
 | 0,i,h=>rfl
 | r+1,i,h=>by
   rw[List.replicate_succ',a6c,nxP_one _ i (by rw[a6w,c2r];omega),b5l ps r (i+1) (by omega)]
   congr 1;omega
theorem a6j(ts us:List Rat)(ps:List Pt):a2b (ts++us) ps=a2b us (a2b ts ps):=by unfold a2b;rw[List.foldl_append]
theorem b7i(t:Rat)(ps:List Pt):a4k t ps=strL 0 t ps:=by
 unfold a4k strL
 refine c5w fun k hk=>?_
 have hk':=c4t.mp hk
 unfold strP polP
 rw[a8o (List.perm_append_comm) ps,a6j,a5n t ps k,b2d _ _ 0 (by rw[a7u];omega)]
theorem c0o(t:Rat)(ps:List Pt):a7b t ps=strL t 1 ps:=by
 unfold a7b strL
 refine c5w fun k hk=>?_
 have hk':=c4t.mp hk
 unfold strP polP
 rw[a6j,a5n t ps,b5l _ _ 0 (by rw[a7u];omega),Nat.zero_add]
theorem b6d(u t:Rat)(ps:List Pt)(h:1≤ps.length):ptP u (a4k t ps)=ptP (t*u) ps:=by
 rw[b7i,b8h u 0 t ps h]
 congr 1;unfold btw;grind
theorem c0n(u t:Rat)(ps:List Pt)(h:1≤ps.length):ptP u (a7b t ps)=ptP (btw u t 1) ps:=by
 rw[c0o,b8h u t 1 ps h]
end Cv
namespace Cv
open PySem PySem.Spec PyProof.Rows L2
def sm(f:Nat→Rat):Nat→Rat
 | 0=>0
 | n+1=>sm f n+f n
theorem b0h{α:Type}(f:Nat→α)(n:Nat):(c4a (n+1)).map f=(c4a n).map f++[f n]:=by rw[c6s,List.map_append];rfl
theorem cut_rest(xs:List V)(h:1≤xs.length):cutV xs (some 1) none=xs.drop 1:=by
 have:=b2t (fun v:V=>v) xs 1 1 rfl h
 simpa using this
end Cv
namespace Cv
open PySem PySem.Spec PyProof.Rows L2
def Ite(K:c2f)(l:Addr):It:=
 ⟨fun i H=>∃ xs x,SqL K H l xs∧xs[i]?=some x,
  fun i H v H'=>∃ T a,v=.ref T∧H T=none∧H'=upd H T (.tup [.int (i:Int),a])∧∀ xs,SqL K H l xs→xs[i]?=some a,
  fun i H=>∃ xs,SqL K H l xs∧xs[i]?=none⟩
theorem b8c{P:Program}{w:World}{K:c2f}{elts:List Expr}{k0:Nat}{pos:Pos}{e it l:Addr}(hei:e≠it):Turn P w K (.Tuple elts k0 pos) (Ite K l) [e,it] e
   (fun i h=>(∃ old,IsEnum h e it (i:Int) old)∧h.IsListIter it l i) where
 mem:=by simp
 obj:=fun i h st b hb=>by
   obtain⟨⟨old,he⟩,⟨o1,e1,c1,d1⟩⟩:=st
   simp only[c2x,c3u,or_false] at hb
   rcases hb with rfl | rfl
   · exact⟨_,he,fun v q=>by have q':Data.fields _=Data.cell v:=q;cases q'⟩
   · exact⟨_,e1,fun v q=>by rw[d1] at q;cases q⟩
 keep:=fun i h h' st k=>by
   obtain⟨⟨old,he⟩,h1⟩:=st
   exact⟨⟨old,k e (by simp) _ he⟩,h1.at fun o e=>k it (by simp) o e⟩
 item:=by
   intro X hP hw hK hc i pins s σ H E I hf st hg
   subst hP hw hK
   obtain⟨xs,x,hq1,hx⟩:=hg
   obtain⟨⟨old,he⟩,h1⟩:=st
   obtain⟨its1,rv1,p1,hz1⟩:=I.list hq1
   obtain⟨u1,hu1,ru1⟩:=rv1.get hx
   refine wpAny_pyNext_enum_item he h1 p1.isList (x:=u1) (by simpa using hu1) hei fun h' a1 a2 a3 a4 a5=>?_
   refine⟨_,rfl,wpAny_letOwnedTupleGo_enum a1 fun h'' b1 b2=>?_⟩
   have hT:H s.heap.objs.size=none:=I.hok.fresh (c2o _)
   have neT:∀ {c o},s.heap.get? c=some o→c≠s.heap.objs.size:=fun e=>c3e (Heap.lt_size e)
   have kk:∀ b o,b∉[e,it]→s.heap.get? b=some o→h''.get? b=some o:=fun b o hb e'=>by
     simp only[c2x,c3u,or_false,not_or] at hb
     exact b2.extBut b o hb.1 (a5 b o hb.1 hb.2 e')
   have tT:h''.get? s.heap.objs.size=some { cls:=.type "tuple",data:=.seq #[.int i s.toks,u1] }:=b2.extBut _ _ (Ne.symm (neT he)) a3
   have I1:=b1w (t':=s.toks+1) (a:=s.heap.objs.size) (o:=.tup [.int (i:Int),x]) (h':=h'') I hf kk (c2o _) ⟨by show 2≤sizeLine;decide,[.int i s.toks,u1],.cons ⟨_,rfl⟩ (.cons ru1 .nil),⟨_,tT,rfl,_,rfl⟩⟩
   refine⟨.ref s.heap.objs.size,_,I1,rfl,⟨s.heap.objs.size,x,rfl,hT,rfl,fun xs' hx'=>by rw[I.list_inj hx' hq1];exact hx⟩,?_,fun c hc=>?_⟩
   · refine⟨⟨u1,?_⟩,a2.extBut b2.extBut (Ne.symm hei)⟩
     have:((i+1:Nat):Int)=(i:Int)+1:=by omega
     rw[this];exact b1
   · have e0:=(hf c hc).1
     rw[a0j ?_]
     · exact e0
     · intro q
       obtain⟨o1,e1,_⟩:=h1
       simp only[c2x,c3u,or_false] at hc
       rcases hc with rfl | rfl
       · exact neT he q
       · exact neT e1 q
 done:=by
   intro X hP hw hK hc i pins s σ H E I hf st hg
   subst hP hw hK
   obtain⟨xs,hq1,hend⟩:=hg
   obtain⟨⟨old,he⟩,h1⟩:=st
   obtain⟨its1,rv1,p1,hz1⟩:=I.list hq1
   refine wpAny_pyNext_enum_end (I.ok.hd hc) he h1 p1.isList (by simpa using rv1.none_of hend) fun h' kk=>⟨rfl,b8a (t':=s.toks) I hf fun b o hb e'=>?_⟩
   simp only[c2x,c3u,or_false,not_or] at hb
   exact kk b o hb.2 e'
 self:=fun _ _ _ _ _ st h=>by
   obtain⟨⟨old,he⟩,_⟩:=st
   exact wpAny_pyIter_enum he h
section
variable {X:Cx}
def iEnum(K:c2f)(ta:TA):TI:=fun σ H R=>ta σ H fun vs H1=>∃ l,vs=[.ref l]∧(∃ xs,SqL K H1 l xs)∧R (Ite K l) H1
theorem pi_enum{a:Expr}{ta:TA}{p pos ppos:Pos}{elts:List Expr}{k0:Nat}(hg:Gl X "enumerate")(hm:X.mg "enumerate" = none)(ha:PA X [a] ta)(he:starEach [a] X.env=(false,eval a X.env)::starEach [] X.env:=by rfl)(hpl:(backTo pos (starEach [] X.env)).any (·.1)=false:=by rfl):PI X (.Tuple elts k0 ppos) (.Call (.Name "enumerate" p) [a] [] pos) (iEnum X.K ta):=by
 intro pins s σ H R I h
 refine wpAny_Call_Name_kw (a8x I hg hm boot_enumerate ?_ (by decide) (by decide))
 refine c5g (thn (ha pos pins s σ H _ I h) fun us s1 ⟨vs,H1,I1,r1,q1⟩=>?_) he hpl
 obtain⟨l,rfl,⟨xs,hq1⟩,q⟩:=q1
 obtain⟨u1,rfl,e1⟩:=a5h r1
 cases e1
 obtain⟨its1,rv1,p1,hz1⟩:=I1.list hq1
 refine call_enumerate_list p1.isList fun h' he' hit hsz hk=>?_
 refine wpAny_pyIter_enum he' ?_
 refine⟨_,[s1.heap.objs.size+1,s1.heap.objs.size],_,_,H1,rfl,I1.kept (t':=s1.toks) hk,b8c (Nat.succ_ne_self _),⟨⟨_,he'⟩,hit⟩,fun c hc=>?_,q⟩
 have hge:s1.heap.objs.size≤c:=by
   simp only[c2x,c3u,or_false] at hc
   rcases hc with rfl | rfl<;>omega
 exact I1.fpOk hge (I1.hok.fresh hge)
theorem pi_enumI{a:Expr}{ta:TA}{p pos ppos:Pos}{elts:List Expr}{k0:Nat}(hg:Gl X "enumerate")(hm:X.mg "enumerate" = none)(ha:PAi X [a] ta)(he:starEach [a] X.env=(false,eval a X.env)::starEach [] X.env:=by rfl)(hpl:(backTo pos (starEach [] X.env)).any (·.1)=false:=by rfl):PIi X (.Tuple elts k0 ppos) (.Call (.Name "enumerate" p) [a] [] pos) (iEnum X.K ta):=by with_unfolding_all exact pi_enum hg hm (ha:=ha) (he:=he) (hpl:=hpl)
end
section
variable {X:Cx}
theorem b2x(hc:X.calm=true):a5g X (.builtin "min") (fun xs H Q=>∃ (p:Addr) (ns:List Int),xs=[.ref p]∧SqL X.K H p (ns.map V.int)∧0<ns.length∧∀ M,M∈ns→(∀ a∈ns,M≤a)→Q (.int M) H):=by
 intro pins s σ H xs us Q I r h
 obtain⟨p,ns,rfl,hq,hne,q⟩:=h
 obtain⟨u,rfl,ru⟩:=a5h r
 cases ru
 obtain⟨its,rv,pl,hz⟩:=I.list hq
 have hi:IntsAre its ns:=b0k rv
 obtain⟨ys,e⟩:=hi.allInts.items
 have hns:ns=ys.toList.map (·.1):=by rw[← hi.numsOf,← nums_intItems,← e]
 have hsz:0<ys.size:=by have h3:=hne;rw[hns,c2h,c2g] at h3;exact h3
 have hl':s.heap.IsList p (intItems ys):=e ▸ pl.isList
 refine min_intList (show X.A.handled=none from I.ok.hd hc) hl' hsz fun v h' tk hv hk=>?_
 obtain⟨t,rfl⟩:=intItems_at hv
 obtain⟨h1,h2⟩:=argBest_lt (numAt ys) (ys.size - 1)
 refine⟨.int _,H,I.kept (h':=h') (t':=tk) hk,⟨_,rfl⟩,q _ ?_ fun a ha=>?_⟩
 · rw[hns,numAt_eq];exact getD_mem (by rw[c2h,c2g];omega)
 · rw[hns] at ha
   obtain⟨j,hj,rfl⟩:=mem_getD ha
   rw[c2h,c2g] at hj
   rw[← numAt_eq];exact h2 j (by omega)
theorem b2y(hc:X.calm=true):a5g X (.builtin "max") (fun xs H Q=>∃ (p:Addr) (ns:List Int),xs=[.ref p]∧SqL X.K H p (ns.map V.int)∧0<ns.length∧∀ M,M∈ns→(∀ a∈ns,a≤M)→Q (.int M) H):=by
 intro pins s σ H xs us Q I r h
 obtain⟨p,ns,rfl,hq,hne,q⟩:=h
 obtain⟨u,rfl,ru⟩:=a5h r
 cases ru
 obtain⟨its,rv,pl,hz⟩:=I.list hq
 have hi:IntsAre its ns:=b0k rv
 obtain⟨ys,e⟩:=hi.allInts.items
 have hns:ns=ys.toList.map (·.1):=by rw[← hi.numsOf,← nums_intItems,← e]
 have hsz:0<ys.size:=by have h3:=hne;rw[hns,c2h,c2g] at h3;exact h3
 have hl':s.heap.IsList p (intItems ys):=e ▸ pl.isList
 refine max_intList (show X.A.handled=none from I.ok.hd hc) hl' hsz fun v h' tk hv hk=>?_
 obtain⟨t,rfl⟩:=intItems_at hv
 obtain⟨h1,h2⟩:=argBest_gt (numAt ys) (ys.size - 1)
 refine⟨.int _,H,I.kept (h':=h') (t':=tk) hk,⟨_,rfl⟩,q _ ?_ fun a ha=>?_⟩
 · rw[hns,numAt_eq];exact getD_mem (by rw[c2h,c2g];omega)
 · rw[hns] at ha
   obtain⟨j,hj,rfl⟩:=mem_getD ha
   rw[c2h,c2g] at hj
   rw[← numAt_eq];exact h2 j (by omega)
end
end Cv
namespace Cv
open PySem PySem.Spec PyProof.Rows L2
def TK(K:c2f)(H:Hp)(a:Addr)(xs:List V):Prop:=H a=some (.tup xs)∨∃ (o:Obj) (its:Array Value) (n:Nat),K.lookup a=some o∧o.cls=.type "tuple" ∧ o.data=.seq its n∧its.size≤sizeLine∧Vals xs its.toList
theorem TK.of{K:c2f}{H:Hp}{a:Addr}{xs:List V}(h:H a=some (.tup xs)):TK K H a xs:=.inl h
theorem TK.sq{K:c2f}{H:Hp}{a:Addr}{xs:List V}(h:TK K H a xs):SqT K H a xs:=by
 rcases h with h | h
 · exact SqT.of h
 · exact .inr h
theorem TK.tup{K:c2f}{H H':Hp}{a:Addr}{xs:List V}(h:TK K H a xs)(t:Tup H H'):TK K H' a xs:=by
 rcases h with h | h
 · exact .inl (t _ _ h)
 · exact .inr h
structure ShK(K:c2f)(H:Hp)(v:V)(q:Rat):Prop where
 ex:∃ a,v=.ref a∧TK K H a [.int q.num,.int (q.den:Int)]
structure PtK(K:c2f)(H:Hp)(v:V)(x y:Rat):Prop where
 ex:∃ a vx vy,v=.ref a∧TK K H a [vx,vy]∧ShK K H vx x∧ShK K H vy y
structure PtsK(K:c2f)(H:Hp)(vs:List V)(ps:List Pt):Prop where
 len:vs.length=ps.length
 get:∀ (i:Nat) v p,vs[i]?=some v→ps[i]?=some p→PtK K H v p.1 p.2
section
variable {K:c2f} {H H':Hp} {v:V} {q x y:Rat} {vs:List V} {ps:List Pt}
theorem ShK.tup(h:ShK K H v q)(t:Tup H H'):ShK K H' v q:=by obtain⟨a,rfl,h⟩:=h;exact⟨a,rfl,h.tup t⟩
theorem ShK.same(h:ShK K H v q)(t:Same H H'):ShK K H' v q:=h.tup t.tup
theorem ShV.k(h:ShV H v q):ShK K H v q:=by obtain⟨a,rfl,h⟩:=h;exact⟨a,rfl,.inl h⟩
theorem PtK.tup(h:PtK K H v x y)(t:Tup H H'):PtK K H' v x y:=by obtain⟨a,vx,vy,rfl,h,h1,h2⟩:=h;exact⟨a,vx,vy,rfl,h.tup t,h1.tup t,h2.tup t⟩
theorem PtK.same(h:PtK K H v x y)(t:Same H H'):PtK K H' v x y:=h.tup t.tup
theorem PtV.k(h:PtV H v x y):PtK K H v x y:=by obtain⟨a,vx,vy,rfl,h,h1,h2⟩:=h;exact⟨a,vx,vy,rfl,.inl h,h1.k,h2.k⟩
theorem PtsK.tup(h:PtsK K H vs ps)(t:Tup H H'):PtsK K H' vs ps:=⟨h.len,fun i v p e1 e2=>(h.get i v p e1 e2).tup t⟩
theorem PtsK.same(h:PtsK K H vs ps)(t:Same H H'):PtsK K H' vs ps:=h.tup t.tup
theorem PtsV.k(h:PtsV H vs ps):PtsK K H vs ps:=⟨h.len,fun i v p e1 e2=>(h.get i v p e1 e2).k⟩
end
theorem ovp_bd4{D:Int}{n d:Nat}{p:Pt}(hD:0<D)(zD:Sz d D)(h:OvP D n p)(k:Nat)(h1:n≤k)(h2:d≤k):Bd k p.1∧Bd k p.2:=
 ⟨(h.1.bd (by omega) zD).mono (by omega),(h.2.bd (by omega) zD).mono (by omega)⟩
theorem for_enum{K:c2f}{l:Addr}{xs:List V}{g:TG}{tb:TS}{D:Ends}{σ:L2.St}{H:Hp}(Pv:Nat→L2.St→Hp→Prop)(h0:Pv 0 σ H)(hl:∀ i σ H,i≤xs.length→Pv i σ H→SqL K H l xs)(hs:∀ i T x σ H,xs[i]?=some x→Pv i σ H→H T=none→g (.ref T) σ (upd H T (.tup [.int (i:Int),x])) fun σ2 H2=>tb { D with nx:=Pv (i+1),ct:=Pv (i+1),bk:=D.nx } σ2 H2)(hd:∀ σ H,Pv xs.length σ H→D.nx σ H) :
   ∃ W:Nat→Nat→L2.St→Hp→Prop,(∃ m,W 0 m σ H)∧∀ i m σ H,W i m σ H→
     ((Ite K l).stop i H∧D.nx σ H)∨((Ite K l).go i H∧∃ N:L2.St→Hp→Prop,(∀ σ' H',N σ' H'→∃ m',m' < m∧W (i+1) m' σ' H')∧∀ x H',(Ite K l).yld i H x H'→g x σ H' fun σ2 H2=>tb { D with nx:=N,ct:=N,bk:=D.nx } σ2 H2):=by
 refine⟨fun i m σ H=>m=xs.length - i∧i≤xs.length∧Pv i σ H,⟨xs.length,by simp,c4d _,h0⟩,?_⟩
 rintro i m σ H ⟨rfl,hi,p⟩
 have q:=hl i σ H hi p
 by_cases hlt:i<xs.length
 · refine .inr ⟨⟨xs,xs[i],q,c2e hlt⟩,Pv (i+1),fun σ' H' p'=>⟨xs.length - (i+1),by omega,rfl,hlt,p'⟩,fun x H' y=>?_⟩
   obtain⟨T,a,rfl,hT,rfl,e⟩:=y
   exact hs i T a σ H (e xs q) p hT
 · have e:i=xs.length:=by omega
   subst e
   exact .inl ⟨⟨xs,q,c3c (c2o _)⟩,hd σ H p⟩
end Cv
namespace Cv
open PySem PySem.Spec PyProof.Rows L2
abbrev Pl:=Int×Int
structure PlsV(H:Hp)(vs:List V)(pl:List Pl):Prop where
 len:vs.length=pl.length
 get:∀ (i:Nat) v p,vs[i]?=some v→pl[i]?=some p→RwV H v p.1 p.2
section
variable {H H':Hp} {vs:List V} {pl:List Pl}
theorem PlsV.tup(h:PlsV H vs pl)(t:Tup H H'):PlsV H' vs pl:=⟨h.len,fun i v p e1 e2=>(h.get i v p e1 e2).tup t⟩
theorem PlsV.same(h:PlsV H vs pl)(t:Same H H'):PlsV H' vs pl:=h.tup t.tup
theorem PlsV.at(h:PlsV H vs pl){i:Nat}{p:Pl}(hp:pl[i]?=some p):∃ a,vs[i]?=some (.ref a)∧H a=some (.tup [.int p.1,.int p.2]):=by
 have hi:i<pl.length:=(c2q.mp hp).1
 have e:vs[i]?=some (vs[i]'(by rw[h.len];exact hi)):=c2e _
 obtain⟨a,e2,h2⟩:=h.get i _ p e hp
 exact⟨a,by rw[e,e2],h2⟩
end
theorem b9f{K:c2f}{a:Addr}{ws:List V}{pl:List Pl}{H1:Hp}(h:SqL K H1 a ws)(hP:PlsV H1 ws pl):a9n K (Itl K a) H1 pl.length (fun i=>.int ((pl[i]?).getD (0,0)).1) (fun i=>.int ((pl[i]?).getD (0,0)).2):=fun H2 s i=>by
 refine⟨fun hi=>?_,fun e=>⟨ws,s.seq h,by rw[hP.len];omega⟩⟩
 obtain⟨b,e1,hb⟩:=hP.at (c2e hi)
 refine⟨⟨ws,_,s.seq h,e1⟩,fun x H' y=>?_⟩
 obtain⟨rfl,y2⟩:=y
 have:=y2 ws (s.seq h)
 rw[e1] at this
 refine⟨L2.Same.refl _,b,(c2u.inj this).symm,SqT.of ?_⟩
 show H' b=some (.tup [.int ((pl[i]?).getD (0,0)).1,.int ((pl[i]?).getD (0,0)).2])
 rw[c2e hi]
 exact s _ _ hb
end Cv
namespace Cv
open PySem PySem.Spec PyProof.Rows L2
structure ClsK(K:c2f)(mg:Str→Option Value)(x:Str)(C:Addr):Prop where
 cl:Cls K C
 makes:PySem.W.makesIn K C=true
 kp:c2s K (.ref C)=true
 at_:mg x=some (.ref C)
structure b1t(K:c2f)(C:Addr)(m q:Str)(st:Stmt)(ps:List Str):Prop where
 ex:∃ (f:Addr) (fd:FuncData),Fun K m q st f fd∧Meth K C m f∧a7p K fd ps []
structure b1s(P:Program)(w:World)(K:c2f)(mg:Str→Option Value)(base:Heap)(CX:CXT)(k:Nat)(C:Addr)(m:Str)(ps:List Str)(sp:Sp):Prop where
 ex:∃ (f:Addr) (fd:FuncData),FnOk P w K mg base CX k f fd ps sp∧Meth K C m f∧a7p K fd ps []
section
variable {P:Program} {w:World} {K:c2f} {mg:Str→Option Value} {base:Heap}
theorem b1t.mk'{C:Addr}{m q:Str}{st:Stmt}{ps:List Str}{f:Addr}{oc:Value}{od an:Option Addr}{osl:Array (Option Value)}{kV doc pm cdv ct:Value}(hm:c3l K (.ref C) m=some (some (.ref f)))(hi:c7u K (.ref f)=true)(l:K.lookup f=some ⟨oc,od,.func (c2z m q (a0y st) (a0p st) (a0e st) .none kV doc pm an cdv ct),osl⟩)(c:c2y K cdv q=true)(k:c2s K (.ref f)=true)(h:∀ (kV doc pm:Value) (an:Option Addr) (cdv ct:Value) (us:List Value),us.length=ps.length→bindArgs (c2z m q (a0y st) (a0p st) (a0e st) .none kV doc pm an cdv ct) ⟨us,[]⟩=pure (ps.zip us)):b1t K C m q st ps:=by
 have F:=fun_mk (st:=st) l c k
 exact⟨_,_,F,⟨hm,hi,k⟩,F.binds h⟩
theorem mth_ok{C:Addr}{m q:Str}{st:Stmt}{N ps:List Str}{k:Nat}{sp:Sp}(F:b1t K C m q st ps)(S:a1a N ps (a0e st))(len:∀ vs H Q E,sp vs H Q E→vs.length=ps.length)(hbody:∀ (f:Addr) (cdv:Value) (A:Around) (outer:List Env) (s:Shared) (H:Hp) (vs:List V) (Q:VK) (E:XK),Room k (A.deeper (envOfC q (a0e st) s.heap.objs.size f cdv))→sp vs H Q E→
     ∃ t,PSsi (cxOf CX0 P w K mg base N q (a0e st) f cdv A outer s H E).nox (a0p st) t∧t { nx:=fun _ H'=>Q .non H',rt:=Q } (a6s N vs) H):b1s P w K mg base CX0 (k+1) C m ps sp:=by
 obtain⟨f,fd,F,hm,hb⟩:=F.ex
 refine⟨f,fd,F.ok S len fun cdv A outer s H vs Q E hr h=>?_,hm,hb⟩
 obtain⟨t,h1,h2⟩:=hbody f cdv A outer s H vs Q E hr h
 exact⟨t,by unfold PSsi at h1;exact h1,h2⟩
end
section
variable {X:Cx} {CX:CXT} {k j:Nat} {ps:List Str} {sp:Sp} {E:XK} {x m:Str} {p pos apos:Pos} {o e:Expr} {es:List Expr} {t:TA} {ta:TE} {C:Addr}
def tMk(C:Addr)(sp:Sp)(E:XK)(t:TA):TE:=fun σ H Q=>t σ H fun vs H1=>∀ x dx,H1 x=none→H1 dx=none→dx≠x→
 sp (.ref x::vs) (upd (upd H1 dx (.own x)) x (.ins C dx [])) (fun v H2=>v=.non∧Q (.ref x) H2) E
theorem pe_mk(T:ClsK X.K X.mg x C)(D:b1s X.prog X.w X.K X.mg X.base CX k C "__init__" ps sp)(hr:Room j X.A)(hx:a3k CX X E)(ha:PA X (e::es) t)(hk:k+1≤j:=by decide)(hg:Gl X x:=by rfl)(hdb:(x == ("__debug__" : Str))=false:=by decide)(he:starEach (e::es) X.env=(false,eval e X.env)::starEach es X.env:=by rfl)(hpl:(backTo pos (starEach es X.env)).any (·.1)=false:=by rfl) :
   PE X (.Call (.Name x p) (e::es) [] pos) (tMk C sp E t):=by
 obtain⟨f,fd,F,hm,hb⟩:=D.ex
 intro pins s σ H Q I h
 have q:=pe_make (X:=X) (p:=p) (pos:=pos) ⟨T.makes,hm.at_,hm.fn,T.kp⟩ F (hr.mono hk) hg T.at_ hb .nil hx ha hdb he hpl
 refine q pins s σ H Q I ?_
 unfold tMk at h
 have e:(fun (vs:List V) (H1:Hp)=>∀ x dx,H1 x=none→H1 dx=none→dx≠x→sp (.ref x::(vs++[])) (upd (upd H1 dx (.own x)) x (.ins C dx [])) (fun v H2=>v=.non∧Q (.ref x) H2) E)=fun vs H1=>∀ x dx,H1 x=none→H1 dx=none→dx≠x→sp (.ref x::vs) (upd (upd H1 dx (.own x)) x (.ins C dx [])) (fun v H2=>v=.non∧Q (.ref x) H2) E:=by
   funext vs H1
   rw[c5d]
 unfold tMake
 rw[e]
 exact h
def tMth(C:Addr)(m:Str)(sp:Sp)(E:XK)(ta:TE)(t:TA):TE:=fun σ H Q=>ta σ H fun x H1=>∃ a dx fs,x=.ref a∧H1 a=some (.ins C dx fs)∧fs.lookup m=none∧t σ H1 fun vs H2=>sp (x::vs) H2 Q E
theorem pe_mth0{pl:Sem Bool}(T:ClsK X.K X.mg x C)(D:b1s X.prog X.w X.K X.mg X.base CX k C m ps sp)(he:PE X o ta)(hr:Room j X.A)(hx:a3k CX X E)(hk:k≤j:=by decide)(ht:eval (.Call (.Attribute o m apos) [] [] pos) X.env=(do
     let ov ← eval o X.env
     standAt apos.atName
     let (f,first) ← holding [ov] (getMethod ov m pl)
     callWith pos f first (backTo pos (starEach [] X.env)) (backToKw pos (keywordEach [] X.env))):=by rfl) :
   PE X (.Call (.Attribute o m apos) [] [] pos) (tMth C m sp E ta tNil):=by
 obtain⟨f,fd,F,hm,hb⟩:=D.ex
 intro pins s σ H Q I h
 refine pe_meth0 (X:=X) (pos:=pos) (apos:=apos) (pl:=pl) he T.cl hm F (hr.mono hk) hb .nil hx ht pins s σ H Q I ?_
 unfold tMth at h
 unfold tMeth
 simp only[c5d]
 exact h
theorem pe_mkI(T:ClsK X.K X.mg x C)(D:b1s X.prog X.w X.K X.mg X.base CX k C "__init__" ps sp)(hr:Room j X.A)(hx:a3k CX X E)(ha:PAi X (e::es) t)(hk:k+1≤j:=by decide)(hg:Gl X x:=by rfl)(hdb:(x == ("__debug__" : Str))=false:=by decide)(he:starEach (e::es) X.env=(false,eval e X.env)::starEach es X.env:=by rfl)(hpl:(backTo pos (starEach es X.env)).any (·.1)=false:=by rfl) :
 PEi X (.Call (.Name x p) (e::es) [] pos) (tMk C sp E t):=by with_unfolding_all exact pe_mk T D hr hx ha hk hg hdb he hpl
theorem pe_mth0I{pl:Sem Bool}(T:ClsK X.K X.mg x C)(D:b1s X.prog X.w X.K X.mg X.base CX k C m ps sp)(he:PEi X o ta)(hr:Room j X.A)(hx:a3k CX X E)(hk:k≤j:=by decide)(ht:eval (.Call (.Attribute o m apos) [] [] pos) X.env=(do
   let ov ← eval o X.env
   standAt apos.atName
   let (f,first) ← holding [ov] (getMethod ov m pl)
   callWith pos f first (backTo pos (starEach [] X.env)) (backToKw pos (keywordEach [] X.env))):=by rfl) :
 PEi X (.Call (.Attribute o m apos) [] [] pos) (tMth C m sp E ta tNil):=by with_unfolding_all exact pe_mth0 (pl:=pl) T D he hr hx hk ht
theorem a4x{f:Str}(he:PEi X e ta)(hb:attributeBase e f X.env (eval e X.env)=eval e X.env:=by rfl):PEi X (.Attribute e f pos) (tFld X.K ta f):=by with_unfolding_all exact pe_fld he hb
theorem ps_fldI{f:Str}{pos':Pos}{value:Expr}{tv:TE}(ha:PEi X o ta)(hv:PEi X value tv)(hs:swapsWith value (some (.Attribute o f pos')) pos.line X.env=pure false:=by rfl):PSi X (.Assign [.Attribute o f pos'] value pos) (sFld X.K ta tv f):=by with_unfolding_all exact ps_fld ha hv hs
end
end Cv
namespace Cv
open PySem PySem.Spec PyProof.Rows L2
theorem PtsV.append{H:Hp}{vs ws:List V}{ps qs:List Pt}(h1:PtsV H vs ps)(h2:PtsV H ws qs):PtsV H (vs++ws) (ps++qs):=by
 have l1:=h1.len
 have l2:=h2.len
 refine⟨by rw[c2k,c2k];omega,fun i v p e1 e2=>?_⟩
 by_cases hi:i<vs.length
 · rw[c2v hi] at e1
   rw[c2v (by omega)] at e2
   exact h1.get i v p e1 e2
 · rw[c2w (by omega)] at e1 e2
   rw[← l1] at e2
   exact h2.get _ v p e1 e2
end Cv
namespace Cv
open PySem PySem.Spec PyProof.Rows L2
theorem PlsV.snoc{H:Hp}{vs:List V}{pl:List Pl}{v:V}{p:Pl}(h:PlsV H vs pl)(hv:RwV H v p.1 p.2):PlsV H (vs++[v]) (pl++[p]):=by
 refine⟨by simp[h.len],fun i w q e1 e2=>?_⟩
 have hl:=h.len
 by_cases hi:i<vs.length
 · rw[c2v hi] at e1
   rw[c2v (by omega)] at e2
   exact h.get i w q e1 e2
 · rw[c2w (by omega)] at e1 e2
   rw[← hl] at e2
   cases hk:i - vs.length with
   | zero=>
     rw[hk] at e1 e2
     simp at e1 e2
     subst e1 e2
     exact hv
   | succ k=>rw[hk] at e1;simp at e1
theorem PlsV.nil(H:Hp):PlsV H [] []:=⟨rfl,fun i v p e=>by simp at e⟩
def b4n(p:Pl):c6l:=.tuple [.int p.1,.int p.2]
theorem datPl_ok(p:Pl)(n:Nat):c3t (n+1) (b4n p)=true:=by
 have h:∀ i:Int,c3t n (.int i)=true:=fun i=>by cases n<;>simp[c3t]
 simp[b4n,c3t,h]
theorem dnPl{K:c2f}{H:Hp}{a:Addr}{p:Pl}(h:H a=some (.tup [.int p.1,.int p.2])):Dn K H (b4n p) (.ref a):=by
 unfold b4n
 simp only[Dn,a5t]
 exact⟨a,_,rfl,SqT.of h,_,_,rfl,rfl,_,_,rfl,rfl,rfl⟩
def a5x(pl:List Pl):c6l:=.list (pl.map b4n)
theorem a4l(pl:List Pl)(n:Nat):c3t (n+2) (a5x pl)=true:=by
 have h:∀ p:Pl,c3t (n+1) (b4n p)=true:=fun p=>datPl_ok p n
 simp[a5x,c3t,h]
theorem b2s{K:c2f}{H:Hp}:∀ {pl:List Pl} {vs:List V},PlsV H vs pl→a5t K H (pl.map b4n) vs
 | [],vs,h=>by
   have:vs=[]:=List.length_eq_zero_iff.mp h.len
   subst this
   simp[a5t]
 | p::pl,vs,h=>by
   cases vs with
   | nil=>have:=h.len;simp at this
   | cons v vs=>
     simp only[c4u,a5t]
     obtain⟨a,rfl,ha⟩:=h.get 0 v p rfl rfl
     exact⟨_,vs,rfl,dnPl ha,b2s ⟨by have:=h.len;simpa using this,fun i w q e1 e2=>h.get (i+1) w q (by simpa using e1) (by simpa using e2)⟩⟩
theorem b2r{K:c2f}{H:Hp}{a:Addr}{vs:List V}{pl:List Pl}(hs:H a=some (.lst vs))(h:PlsV H vs pl):Dn K H (a5x pl) (.ref a):=by
 unfold a5x
 simp only[Dn]
 exact⟨a,vs,rfl,SqL.of hs,b2s h⟩
theorem PlsV.append{H:Hp}{vs ws:List V}{p q:List Pl}(h1:PlsV H vs p)(h2:PlsV H ws q):PlsV H (vs++ws) (p++q):=by
 have l1:=h1.len
 have l2:=h2.len
 refine⟨by rw[c2k,c2k];omega,fun i v r e1 e2=>?_⟩
 by_cases hi:i<vs.length
 · rw[c2v hi] at e1
   rw[c2v (by omega)] at e2
   exact h1.get i v r e1 e2
 · rw[c2w (by omega)] at e1 e2
   rw[← l1] at e2
   exact h2.get _ v r e1 e2
theorem c1j(xs:List V)(k:Int)(n:Nat)(e:k=(n:Int))(h:n≤xs.length):cutV xs (some k) none=xs.drop n:=by
 have:=b2t (fun v:V=>v) xs k n e h
 simpa using this
end Cv
namespace Cv
open PySem PySem.Spec PyProof.Rows L2
theorem PlsV.take{H:Hp}{vs:List V}{pl:List Pl}(h:PlsV H vs pl)(n:Nat):PlsV H (vs.take n) (pl.take n):=by
 refine⟨by rw[c3j,c3j,h.len],fun i v p e1 e2=>?_⟩
 rw[c6q] at e1 e2
 by_cases hi:i<n
 · rw[if_pos hi] at e1 e2
   exact h.get i v p e1 e2
 · rw[if_neg hi] at e1;cases e1
end Cv
namespace Cv
open PySem PySem.Spec PyProof.Rows L2
def b8p(K:c2f):Sp:=fun vs H Q _=>∃ (a:Addr) (ws:List V) (qs:List Rat) (D:Int) (m:Nat),vs=[.ref a]∧SqL K H a ws∧ShL H ws qs∧0<D∧Sz 9000 D∧(∀ q∈qs,(q.den:Int)∣D∧Bd m q)∧m≤9000∧qs.length≤40∧
 ∀ v tops bs H',Same H H'→AxV H' v (m+9000) tops bs→axR tops bs=qs→bs.length≤qs.length→a1b bs∣D→Q v H'
def b8q(K:c2f):Sp:=fun vs H Q _=>∃ (a:Addr) (ws:List V) (ps:List Pt) (D:Int) (m:Nat),vs=[.ref a]∧SqL K H a ws∧PtsV H ws ps∧0<D∧Sz 9000 D∧(∀ p∈ps,((p.1.den:Int)∣D∧Bd m p.1)∧(p.2.den:Int)∣D∧Bd m p.2)∧m≤9000∧ps.length≤40∧
 ∀ c x y t1 b1 t2 b2 H',Same H H'→H' c=some (.tup [x,y])→AxV H' x (m+9000) t1 b1→AxV H' y (m+9000) t2 b2→axR t1 b1=ps.map (·.1)→axR t2 b2=ps.map (·.2)→b1.length≤ps.length→b2.length≤ps.length→a1b b1∣D→a1b b2∣D→Q (.ref c) H'
end Cv
namespace Cv
def hvN(c:List Pl):List Pl:=List.zipWith (fun p q=>((p.1+q.1) / 2,(p.2+q.2) / 2)) c (c.drop 1)
def hrow(c:List Pl):Nat→List Pl
 | 0=>c
 | r+1=>hvN (hrow c r)
def toP(dx dy:Int)(c:List Pl):List Pt:=c.map fun p=>(c2i p.1 dx,c2i p.2 dy)
def Dvs(k:Nat)(c:List Pl):Prop:=∀ p∈c,(2:Int)^k∣p.1∧(2:Int)^k∣p.2
def SzQ(n:Nat)(c:List Pl):Prop:=∀ p∈c,Sz n p.1∧Sz n p.2
theorem a9a(c:List Pl):(hvN c).length=c.length - 1:=by
 unfold hvN
 rw[c5v,c3k];omega
theorem a4r(c:List Pl):∀ r,(hrow c r).length=c.length - r
 | 0=>rfl
 | r+1=>by
   show (hvN (hrow c r)).length=_
   rw[a9a,a4r c r];omega
theorem b4h{c:List Pl}{i:Nat}{p q:Pl}(h1:c[i]?=some p)(h2:c[i+1]?=some q):(hvN c)[i]?=some ((p.1+q.1) / 2,(p.2+q.2) / 2):=by
 unfold hvN
 rw[c5m,c6a,h1,Nat.add_comm 1 i,h2]
theorem c0t{c:List Pl}{z:Pl}(h:z∈hvN c):∃ p q,p∈c∧q∈c∧z=((p.1+q.1) / 2,(p.2+q.2) / 2):=by
 obtain⟨i,hi,rfl⟩:=c3a h
 have hl:=a9a c
 have e1:c[i]?=some (c[i]'(by omega (config:={}))):=c2e _
 have e2:c[i+1]?=some (c[i+1]'(by omega (config:={}))):=c2e _
 have e3:=b4h e1 e2
 rw[c2e hi] at e3
 exact⟨_,_,c4c _,c4c _,c2u.inj e3⟩
theorem b5y{k:Nat}{x u:Int}(h1:(2:Int)^(k+1)∣x)(h2:(2:Int)^(k+1)∣u):(2:Int)^k∣(x+u) / 2:=by
 obtain⟨a,rfl⟩:=h1
 obtain⟨b,rfl⟩:=h2
 refine⟨a+b,?_⟩
 rw[Int.pow_succ]
 have e:(2:Int)^k*2*a+2^k*2*b=2*((2:Int)^k*(a+b)):=by
   rw[Int.mul_add,Int.mul_add]
   have e1:(2:Int)^k*2*a=2*(2^k*a):=by rw[c5c ((2:Int)^k) 2,Int.mul_assoc]
   have e2:(2:Int)^k*2*b=2*(2^k*b):=by rw[c5c ((2:Int)^k) 2,Int.mul_assoc]
   rw[e1,e2]
 rw[e,c5e _ (by decide)]
theorem hv_dvs{k:Nat}{c:List Pl}(h:Dvs (k+1) c):Dvs k (hvN c):=fun z hz=>by
 obtain⟨p,q,hp,hq,rfl⟩:=c0t hz
 exact⟨b5y (h p hp).1 (h q hq).1,b5y (h p hp).2 (h q hq).2⟩
theorem c0x{n:Nat}{x u:Int}(h1:Sz n x)(h2:Sz n u):Sz n ((x+u) / 2):=⟨by
 have a:=h1.lt
 have b:=h2.lt
 generalize 2^n=N at a b
 show ((x+u) / 2).natAbs<N
 omega⟩
theorem hv_sz{n:Nat}{c:List Pl}(h:SzQ n c):SzQ n (hvN c):=fun z hz=>by
 obtain⟨p,q,hp,hq,rfl⟩:=c0t hz
 exact⟨c0x (h p hp).1 (h q hq).1,c0x (h p hp).2 (h q hq).2⟩
theorem b4i{n:Nat}{c:List Pl}(h:SzQ n c):∀ r,SzQ n (hrow c r)
 | 0=>h
 | r+1=>hv_sz (b4i h r)
theorem b5z{x u d:Int}(h1:(2:Int)∣x)(h2:(2:Int)∣u):c2i ((x+u) / 2) d=btw (1 / 2) (c2i x d) (c2i u d):=by
 obtain⟨a,rfl⟩:=h1
 obtain⟨b,rfl⟩:=h2
 rw[← Int.mul_add,c5e _ (by decide)]
 unfold btw
 simp only[a9d,c3o,c6c]
 have e2:((2:Int):Rat)=2:=rfl
 rw[e2]
 grind
theorem a4f(dx dy:Int)(c:List Pl):(toP dx dy c).length=c.length:=by unfold toP;rw[c2h]
theorem hv_toP{dx dy:Int}{c:List Pl}(h:Dvs 1 c):toP dx dy (hvN c)=nxP (1 / 2) (toP dx dy c):=by
 refine c4r fun i=>?_
 by_cases hi:i+1<c.length
 · have e1:c[i]?=some (c[i]'(by omega (config:={}))):=c2e _
   have e2:c[i+1]?=some (c[i+1]'(by omega (config:={}))):=c2e _
   have d1:=h _ (c2m e1)
   have d2:=h _ (c2m e2)
   have f1:(toP dx dy c)[i]?=some (c2i (c[i]'(by omega (config:={}))).1 dx,c2i (c[i]'(by omega (config:={}))).2 dy):=by unfold toP;rw[c2p,e1];rfl
   have f2:(toP dx dy c)[i+1]?=some (c2i (c[i+1]'(by omega (config:={}))).1 dx,c2i (c[i+1]'(by omega (config:={}))).2 dy):=by unfold toP;rw[c2p,e2];rfl
   rw[a2u _ _ i f1 f2]
   unfold toP
   rw[c2p,b4h e1 e2]
   show some (_,_)=some (_,_)
   rw[b5z d1.1 d2.1,b5z d1.2 d2.2]
 · rw[c3c (by rw[a4f,a9a];omega),c3c (by rw[a2t,a4f];omega)]
theorem b7z{j k:Nat}(h:j≤k):(2:Int)^j∣2^k:=⟨2^(k - j),by rw[← Int.pow_add];congr 1;omega⟩
theorem Dvs.mono{k j:Nat}{c:List Pl}(h:Dvs k c)(hj:j≤k):Dvs j c:=fun p hp=>
 ⟨Int.dvd_trans (b7z hj) (h p hp).1,Int.dvd_trans (b7z hj) (h p hp).2⟩
theorem a7z{M:Nat}{c:List Pl}(h:Dvs M c):∀ r,r≤M→Dvs (M - r) (hrow c r)
 | 0,_=>h
 | r+1,hr=>by
   have:=a7z h r (by omega)
   refine hv_dvs ?_
   rw[show M - (r+1)+1=M - r by omega];exact this
theorem b1g{dx dy:Int}{M:Nat}{c:List Pl}(h:Dvs M c):∀ r,r≤M→toP dx dy (hrow c r)=rowP (1 / 2) (toP dx dy c) r
 | 0,_=>rfl
 | r+1,hr=>by
   show toP dx dy (hvN (hrow c r))=nxP (1 / 2) (rowP (1 / 2) (toP dx dy c) r)
   rw[hv_toP ((a7z h r (by omega)).mono (by omega)),b1g h r (by omega)]
def fhI(c:List Pl):List Pl:=(c4a c.length).map fun r=>((hrow c r)[0]?).getD (0,0)
def lhI(c:List Pl):List Pl:=(c4a c.length).map fun k=>((hrow c (c.length - 1 - k))[k]?).getD (0,0)
theorem fhI_len(c:List Pl):(fhI c).length=c.length:=by unfold fhI;rw[c2h,c4l]
theorem lhI_len(c:List Pl):(lhI c).length=c.length:=by unfold lhI;rw[c2h,c4l]
theorem b4t(dx dy:Int)(c:List Pl)(i:Nat):((toP dx dy c)[i]?).getD (0,0)=(c2i ((c[i]?).getD (0,0)).1 dx,c2i ((c[i]?).getD (0,0)).2 dy):=by
 unfold toP
 rw[c2p]
 cases c[i]? with
 | none=>show ((0:Rat),(0:Rat))=(c2i 0 dx,c2i 0 dy);rw[Rat.zero_divInt,Rat.zero_divInt]
 | some p=>rfl
theorem fh_toP{dx dy:Int}{M:Nat}{c:List Pl}(h:Dvs M c)(hM:c.length≤M+1):toP dx dy (fhI c)=a4k (1 / 2) (toP dx dy c):=by
 unfold a4k fhI
 rw[a4f]
 show List.map _ (List.map _ _)=_
 rw[c7b]
 refine c5w fun r hr=>?_
 have hr:=c4t.mp hr
 rw[← b1g h r (by omega),b4t];rfl
theorem lh_toP{dx dy:Int}{M:Nat}{c:List Pl}(h:Dvs M c)(hM:c.length≤M+1):toP dx dy (lhI c)=a7b (1 / 2) (toP dx dy c):=by
 unfold a7b lhI
 rw[a4f]
 show List.map _ (List.map _ _)=_
 rw[c7b]
 refine c5w fun k hk=>?_
 have hk:=c4t.mp hk
 rw[← b1g h (c.length - 1 - k) (by omega),b4t];rfl
theorem b1h{P:Pl→Prop}{c:List Pl}(h0:P (0,0))(h:∀ p∈c,P p)(i:Nat):P ((c[i]?).getD (0,0)):=by
 cases e:c[i]? with
 | none=>exact h0
 | some p=>exact h p (c2m e)
theorem fh_dvs{M:Nat}{c:List Pl}(h:Dvs M c)(hM:c.length≤M+1):Dvs (M - (c.length - 1)) (fhI c):=fun p hp=>by
 unfold fhI at hp
 obtain⟨r,hr,rfl⟩:=c3w.mp hp
 have hr:=c4t.mp hr
 exact b1h (P:=fun p=>(2:Int)^(M - (c.length - 1))∣p.1∧(2:Int)^(M - (c.length - 1))∣p.2) ⟨⟨0,by simp⟩,⟨0,by simp⟩⟩ (fun p hp=>((a7z h r (by omega)).mono (by omega)) p hp) 0
theorem lh_dvs{M:Nat}{c:List Pl}(h:Dvs M c)(hM:c.length≤M+1):Dvs (M - (c.length - 1)) (lhI c):=fun p hp=>by
 unfold lhI at hp
 obtain⟨k,hk,rfl⟩:=c3w.mp hp
 have hk:=c4t.mp hk
 exact b1h (P:=fun p=>(2:Int)^(M - (c.length - 1))∣p.1∧(2:Int)^(M - (c.length - 1))∣p.2) ⟨⟨0,by simp⟩,⟨0,by simp⟩⟩ (fun p hp=>((a7z h (c.length - 1 - k) (by omega)).mono (by omega)) p hp) k
theorem b0s(n:Nat):Sz n 0:=⟨by simpa using c7o n⟩
theorem fh_sz{n:Nat}{c:List Pl}(h:SzQ n c):SzQ n (fhI c):=fun p hp=>by
 unfold fhI at hp
 obtain⟨r,hr,rfl⟩:=c3w.mp hp
 exact b1h (P:=fun p=>Sz n p.1∧Sz n p.2) ⟨b0s n,b0s n⟩ (fun p hp=>b4i h r p hp) 0
theorem lh_sz{n:Nat}{c:List Pl}(h:SzQ n c):SzQ n (lhI c):=fun p hp=>by
 unfold lhI at hp
 obtain⟨k,hk,rfl⟩:=c3w.mp hp
 exact b1h (P:=fun p=>Sz n p.1∧Sz n p.2) ⟨b0s n,b0s n⟩ (fun p hp=>b4i h _ p hp) k
def a1h(css:List (List Pl)):List (List Pl):=css.flatMap fun c=>[fhI c,lhI c]
theorem a6e:∀ (css:List (List Pl)) (i:Nat),(a1h css)[2*i]?=(css[i]?).map fhI∧(a1h css)[2*i+1]?=(css[i]?).map lhI
 | [],i=>by simp[a1h]
 | c::css,0=>by simp[a1h]
 | c::css,i+1=>by
   have ih:=a6e css i
   unfold a1h at ih ⊢
   rw[List.flatMap_cons]
   show ((fhI c::lhI c::css.flatMap _))[2*(i+1)]?=_∧((fhI c::lhI c::css.flatMap _))[2*(i+1)+1]?=_
   rw[show 2*(i+1)=2*i+1+1 by omega,c5f,c5f,c5f,c5f,c5f]
   exact ih
theorem b0m(css:List (List Pl)):(a1h css).length=2*css.length:=by
 unfold a1h
 induction css with
 | nil=>rfl
 | cons c css ih=>rw[List.flatMap_cons,c2k,ih];show 2+2*css.length=2*(css.length+1);omega
theorem b4j(css:List (List Pl))(c:List Pl):a1h (css++[c])=a1h css++[fhI c,lhI c]:=by
 unfold a1h
 rw[c7j];simp
def lvI(c:List Pl):Nat→List (List Pl)
 | 0=>[c]
 | d+1=>a1h (lvI c d)
theorem a8t(c:List Pl):∀ d,(lvI c d).length=2^d
 | 0=>rfl
 | d+1=>by
   show (a1h (lvI c d)).length=_
   rw[b0m,a8t c d,c6o];omega
def hp:Nat→Rat
 | 0=>1
 | d+1=>hp d*(1 / 2)
def tq(d i:Nat)(u:Rat):Rat:=(((i:Int):Rat)+u)*hp d
structure LvOk(dx dy:Int)(ps:List Pt)(n m d:Nat)(css:List (List Pl)):Prop where
 len:∀ c∈css,c.length=ps.length
 sz:∀ c∈css,SzQ n c
 dv:∀ c∈css,Dvs m c
 pt:∀ i c,css[i]?=some c→∀ u,ptP u (toP dx dy c)=ptP (tq d i u) ps
theorem lv_step{dx dy:Int}{ps:List Pt}{n m d:Nat}{css:List (List Pl)}(h1:1≤ps.length)(h:LvOk dx dy ps n (m+(ps.length - 1)) d css):LvOk dx dy ps n m (d+1) (a1h css):=by
 have mem:∀ e∈a1h css,∃ c∈css,e=fhI c∨e=lhI c:=fun e he=>by
   unfold a1h at he
   obtain⟨c,hc,hm⟩:=List.mem_flatMap.mp he
   exact⟨c,hc,by simpa using hm⟩
 refine⟨fun e he=>?_,fun e he=>?_,fun e he=>?_,fun i e he u=>?_⟩
 · obtain⟨c,hc,rfl | rfl⟩:=mem e he
   · rw[fhI_len];exact h.len c hc
   · rw[lhI_len];exact h.len c hc
 · obtain⟨c,hc,rfl | rfl⟩:=mem e he
   · exact fh_sz (h.sz c hc)
   · exact lh_sz (h.sz c hc)
 · obtain⟨c,hc,rfl | rfl⟩:=mem e he
   · have hl:=h.len c hc
     exact (fh_dvs (h.dv c hc) (by omega)).mono (by omega)
   · have hl:=h.len c hc
     exact (lh_dvs (h.dv c hc) (by omega)).mono (by omega)
 · obtain⟨j,hj⟩ : ∃ j,i=2*j∨i=2*j+1:=⟨i / 2,by omega⟩
   rcases hj with rfl | rfl
   · rw[(a6e css j).1] at he
     cases ec:css[j]? with
     | none=>rw[ec] at he;cases he
     | some c=>
       rw[ec] at he
       obtain rfl:fhI c=e:=c2u.inj he
       have hc:=c2m ec
       have hl:=h.len c hc
       rw[fh_toP (h.dv c hc) (by omega),b6d u (1 / 2) _ (by rw[a4f];omega),h.pt j c ec]
       congr 1
       unfold tq
       show _=_*(hp d*(1 / 2))
       rw[show ((2*j:Nat):Int)=2*(j:Int) by omega,c3o]
       have e2:((2:Int):Rat)=2:=rfl
       rw[e2]
       grind
   · rw[(a6e css j).2] at he
     cases ec:css[j]? with
     | none=>rw[ec] at he;cases he
     | some c=>
       rw[ec] at he
       obtain rfl:lhI c=e:=c2u.inj he
       have hc:=c2m ec
       have hl:=h.len c hc
       rw[lh_toP (h.dv c hc) (by omega),c0n u (1 / 2) _ (by rw[a4f];omega),h.pt j c ec]
       congr 1
       unfold tq btw
       show _=_*(hp d*(1 / 2))
       rw[show ((2*j+1:Nat):Int)=2*(j:Int)+1 by omega,c6c,c3o]
       have e2:((2:Int):Rat)=2:=rfl
       have e1:((1:Int):Rat)=1:=rfl
       rw[e2,e1]
       grind
theorem b5u{dx dy:Int}{ps:List Pt}{n:Nat}{c:List Pl}(h1:1≤ps.length)(hc:toP dx dy c=ps)(hz:SzQ n c):∀ L d,d≤L→Dvs (L*(ps.length - 1)) c→LvOk dx dy ps n ((L - d)*(ps.length - 1)) d (lvI c d)
 | L,0,_,hd=>by
   have hl:c.length=ps.length:=by rw[← hc,a4f]
   refine⟨fun e he=>?_,fun e he=>?_,fun e he=>?_,fun i e he u=>?_⟩
   · rw[c3h.mp he];exact hl
   · rw[c3h.mp he];exact hz
   · rw[c3h.mp he];exact hd
   · cases i with
     | zero=>
       cases he
       rw[hc]
       congr 1
       unfold tq
       show u=(0+u)*1
       grind
     | succ i=>simp[lvI] at he
 | L,d+1,hd,hv=>by
   have ih:=b5u h1 hc hz L d (by omega) hv
   refine lv_step h1 ?_
   rw[show (L - (d+1))*(ps.length - 1)+(ps.length - 1)=(L - d)*(ps.length - 1) by
     rw[show L - d=(L - (d+1))+1 by omega,Nat.succ_mul]]
   exact ih
end Cv
namespace Cv
open PySem PySem.Spec PyProof.Rows L2
def wcI(R:Int)(t1 t2:List Int):List Pl:=List.zipWith (fun x y=>(x*R,y*R)) t1 t2
def spRoom:Sp:=fun vs H Q _=>∃ n L:Nat,vs=[.int (n:Int),.int (L:Int)]∧1≤n∧n≤1000∧L≤1000∧Q (.int (2^(L*(n - 1)))) H
def b5a:Sp:=fun vs H Q _=>∃ x y n t1 b1 t2 b2 R,vs=[x,y,.int R]∧AxV H x n t1 b1∧AxV H y n t2 b2∧t1.length=t2.length∧Sz 100 R∧n≤100000∧
 ∀ (l:Addr) (us:List V) (H':Hp),Same H H'→H l=none→H' l=some (.lst us)→PlsV H' us (wcI R t1 t2)→Q (.ref l) H'
def b5e:Sp:=fun vs H Q _=>∃ (a:Addr) (ws:List V) (c:List Pl),vs=[.ref a]∧H a=some (.lst ws)∧PlsV H ws c∧c.length≤1000∧
 ∀ (p l1 l2:Addr) (u1 u2:List V) (H':Hp),Same H H'→H' p=some (.tup [.ref l1,.ref l2])→H l1=none→H l2=none→H' l1=some (.lst u1)→H' l2=some (.lst u2)→PlsV H' u1 (fhI c)→PlsV H' u2 (lhI c)→Q (.ref p) H'
structure CsV(H:Hp)(D:Option Addr)(ys:List V)(css:List (List Pl)):Prop where
 len:ys.length=css.length
 get:∀ (i:Nat) (v:V) (c:List Pl),ys[i]?=some v→css[i]?=some c→∃ (l:Addr) (us:List V),v=.ref l∧some l≠D∧H l=some (.lst us)∧PlsV H us c
theorem CsV.same{H H':Hp}{D:Option Addr}{ys:List V}{css:List (List Pl)}(h:CsV H D ys css)(s:Same H H'):CsV H' D ys css:=
 ⟨h.len,fun i v c e1 e2=>by obtain⟨l,us,r1,r2,r3,r4⟩:=h.get i v c e1 e2;exact⟨l,us,r1,r2,s _ _ r3,r4.same s⟩⟩
theorem CsV.at{H:Hp}{D:Option Addr}{ys:List V}{css:List (List Pl)}(h:CsV H D ys css){i:Nat}{c:List Pl}(hc:css[i]?=some c):∃ (l:Addr) (us:List V),ys[i]?=some (.ref l)∧H l=some (.lst us)∧PlsV H us c:=by
 have hi:i<css.length:=(c2q.mp hc).1
 have e:ys[i]?=some (ys[i]'(by rw[h.len];exact hi)):=c2e _
 obtain⟨l,us,r1,r2,r3,r4⟩:=h.get i _ c e hc
 exact⟨l,us,by rw[e,r1],r3,r4⟩
def b5f(K:c2f):Sp:=fun vs H Q _=>∃ (a:Addr) (ys:List V) (css:List (List Pl)),vs=[.ref a]∧H a=some (.lst ys)∧CsV H none ys css∧css.length≤1000∧(∀ c∈css,c.length≤1000)∧
 ∀ (l:Addr) (us:List V) (H':Hp),Same H H'→H l=none→H' l=some (.lst us)→CsV H' none us (a1h css)→Q (.ref l) H'
theorem b0u{α:Type}{ys:List α}{v w:α}{j:Nat}(e:(ys++[v])[j]?=some w):(j<ys.length∧ys[j]?=some w)∨(j=ys.length∧w=v):=by
 by_cases hj:j<ys.length
 · rw[c2v hj] at e
   exact .inl ⟨hj,e⟩
 · rw[c2w (by omega)] at e
   have hj0:j - ys.length=0:=by
     cases q:j - ys.length with
     | zero=>rfl
     | succ k=>rw[q] at e;simp at e
   rw[hj0] at e
   exact .inr ⟨by omega,by simpa using e.symm⟩
theorem CsV.snoc{H:Hp}{D:Option Addr}{ys:List V}{css:List (List Pl)}{l:Addr}{us:List V}{c:List Pl}(h:CsV H D ys css)(hl:some l≠D)(h1:H l=some (.lst us))(h2:PlsV H us c):CsV H D (ys++[.ref l]) (css++[c]):=by
 refine⟨by rw[c2k,c2k,h.len];rfl,fun i v c' e1 e2=>?_⟩
 rcases b0u e1 with⟨q1,q2⟩ | ⟨q1,rfl⟩
 · rcases b0u e2 with⟨p1,p2⟩ | ⟨p1,_⟩
   · exact h.get i v c' q2 p2
   · have:=h.len;omega
 · rcases b0u e2 with⟨p1,p2⟩ | ⟨p1,rfl⟩
   · have:=h.len;omega
   · exact⟨l,us,rfl,hl,h1,h2⟩
theorem CsV.upd{H:Hp}{D:Addr}{ys zs ws:List V}{css:List (List Pl)}(h:CsV H (some D) ys css)(hD:H D=some (.lst zs)):CsV (upd H D (.lst ws)) (some D) ys css:=by
 refine⟨h.len,fun i v c e1 e2=>?_⟩
 obtain⟨l,us,r1,r2,r3,r4⟩:=h.get i v c e1 e2
 have n:l≠D:=fun z=>r2 (by rw[z])
 exact⟨l,us,r1,r2,by rw[a0j n];exact r3,r4.tup (Tup.lst hD)⟩
theorem b4k{K:c2f}{a:Addr}{xs:List V}{css:List (List Pl)}{H1:Hp}{wi2:TI}{te:TE}{cs:L2.St}{Q:VK}(hS:H1 a=some (.lst xs))(hC:CsV H1 none xs css)(hn:css.length≤1000)(hh:∀ (l:Addr) (us:List V) (c:List Pl) (o:Option V) (H2:Hp) (R:It→Hp→Prop),c∈css→H2 l=some (.lst us)→PlsV H2 us c→(∀ p l1 l2 u1 u2 H3,Same H2 H3→H3 p=some (.tup [.ref l1,.ref l2])→H2 l1=none→H2 l2=none→H3 l1=some (.lst u1)→H3 l2=some (.lst u2)→PlsV H3 u1 (fhI c)→PlsV H3 u2 (lhI c)→R (Itt K p) H3)→wi2 (some (.ref l)::o::cs) H2 R)(ht:∀ (v:V) (o:Option V) (H2:Hp) (k:VK),k v H2→te (o::some v::cs) H2 k)(hq:∀ D ys H2,H1 D=none→Same H1 H2→H2 D=some (.lst ys)→CsV H2 none ys (a1h css)→Q (.ref D) H2) :
   b3i 2 (Itl K a) H1 (a3l 0) wi2 (a3l 1) te cs Q:=by
 intro D hD
 have nil0:CsV (upd H1 D (.lst [])) (some D) [] (a1h (css.take 0)):=⟨by rw[List.take_zero];rfl,fun i v c e=>by simp at e⟩
 have hxl:=hC.len
 refine⟨fun i m ys H2=>m=css.length - i∧i≤css.length∧Same H1 H2∧H2 D=some (.lst ys)∧CsV H2 (some D) ys (a1h (css.take i)),⟨css.length,by simp,c4d _,Same.new hD,a0d,nil0⟩,?_⟩
 rintro i m ys H2 ⟨rfl,hi,s2,d2,r2⟩
 by_cases hlt:i<css.length
 · have ec:css[i]?=some css[i]:=c2e hlt
   obtain⟨l,us,el,hl,hP⟩:=(hC.same s2).at ec
   refine .inr ⟨⟨xs,_,SqL.of (s2 _ _ hS),el⟩,fun x H' y own ho=>?_⟩
   obtain⟨rfl,hy⟩:=y
   have hx:=hy xs (SqL.of (s2 _ _ hS))
   rw[el] at hx
   obtain rfl:V.ref l=x:=c2u.inj hx
   obtain⟨o1,o2,rfl⟩ : ∃ o1 o2,own=[o1,o2]:=by
     match own,ho with
     | [o1,o2],_=>exact⟨o1,o2,rfl⟩
   refine⟨[some (.ref l),o2],rfl,rfl,hh l us _ o2 H' _ (c4c hlt) hl hP fun p l1 l2 u1 u2 H3 s3 hp f1 f2 g1 g2 P1 P2=>?_⟩
   have n1:l1≠D:=fun z=>by rw[z,d2] at f1;cases f1
   have n2:l2≠D:=fun z=>by rw[z,d2] at f2;cases f2
   have e12:a1h (css.take (i+1))=a1h (css.take i)++[fhI css[i]]++[lhI css[i]]:=by
     rw[b1y ec,b4j];simp
   have hsz:=r2.len
   rw[b0m,c3j] at hsz
   have hfree:H1 D=none:=hD
   refine⟨fun j m2 ys2 own2 H6=>m2=2 - j∧j≤2∧(∃ o,own2=[some (.ref l),o])∧Same H1 H6∧H6 p=some (.tup [.ref l1,.ref l2])∧H6 l1=some (.lst u1)∧H6 l2=some (.lst u2)∧PlsV H6 u1 (fhI css[i])∧PlsV H6 u2 (lhI css[i])∧H6 D=some (.lst ys2)∧ys2.length=ys.length+j∧CsV H6 (some D) ys2 (a1h (css.take i)++([fhI css[i],lhI css[i]].take j)),
     ⟨2,rfl,by decide,⟨o2,rfl⟩,s2.trans s3,hp,g1,g2,P1,P2,s3 _ _ d2,rfl,by rw[List.take_zero,c5d];exact r2.same s3⟩,?_⟩
   rintro j m2 ys2 own2 H6 ⟨rfl,hj,⟨o,rfl⟩,s6,hp6,h61,h62,Q1,Q2,d6,hl6,r6⟩
   have stepU:∀ ws,Same H1 (upd H6 D (.lst ws)):=fun ws b q e=>by rw[a0j (a0l e hD)];exact s6 _ _ e
   have npD:p≠D:=fun z=>by rw[z,d6] at hp6;cases hp6
   by_cases hj2:j<2
   · refine .inr ⟨⟨_,_,SqT.of hp6,c2e (by exact hj2)⟩,fun x2 H7 y2 ho2=>?_⟩
     obtain⟨rfl,hy2⟩:=y2
     have hx2:=hy2 _ (SqT.of hp6)
     refine⟨[some (.ref l),some x2],rfl,rfl,ht _ _ _ _ ?_⟩
     refine⟨d6,a0v (by omega),2 - (j+1),by omega,rfl,by omega,⟨_,rfl⟩,stepU _,by rw[a0j npD];exact hp6,by rw[a0j n1];exact h61,by rw[a0j n2];exact h62,Q1.tup (Tup.lst d6),Q2.tup (Tup.lst d6),a0d,by rw[c2k,hl6];rfl,?_⟩
     have hj3:j=0∨j=1:=by omega
     rcases hj3 with rfl | rfl
     · obtain rfl:V.ref l1=x2:=c2u.inj hx2
       show CsV _ _ _ (a1h (css.take i)++[fhI css[i]])
       exact (CsV.upd (by simpa using r6) d6).snoc (fun z=>n1 (c2u.inj z)) (by rw[a0j n1];exact h61) (Q1.tup (Tup.lst d6))
     · obtain rfl:V.ref l2=x2:=c2u.inj hx2
       show CsV _ _ _ (a1h (css.take i)++[fhI css[i],lhI css[i]])
       have:=(CsV.upd r6 d6 (ws:=ys2++[.ref l2])).snoc (l:=l2) (fun z=>n2 (c2u.inj z)) (by rw[a0j n2];exact h62) (Q2.tup (Tup.lst d6))
       rw[c3f] at this
       exact this
   · have hj3:j=2:=by omega
     subst hj3
     refine .inl ⟨⟨_,SqT.of hp6,by show 2≤2;decide⟩,css.length - (i+1),by omega,rfl,by omega,s6,d6,?_⟩
     rw[e12,c3f]
     exact r6
 · have e:i=css.length:=by omega
   subst e
   rw[List.take_length] at r2
   refine .inl ⟨⟨xs,SqL.of (s2 _ _ hS),by omega⟩,hq D ys H2 hD s2 d2 ⟨r2.len,fun i v c e1 e2=>?_⟩⟩
   obtain⟨l,us,q1,q2,q3,q4⟩:=r2.get i v c e1 e2
   exact⟨l,us,q1,fun z=>(by cases z),q3,q4⟩
end Cv
namespace Cv
open PySem PySem.Spec PyProof.Rows L2
theorem a9n.congr{K:c2f}{J:It}{H1:Hp}{n m:Nat}{f g f' g':Nat→V}(h:a9n K J H1 n f g)(hn:n=m)(hf:∀ i,i<n→f i=f' i)(hg:∀ i,i<n→g i=g' i):a9n K J H1 m f' g':=fun H2 s i=>by
 subst hn
 refine⟨fun hi=>⟨((h H2 s i).1 hi).1,fun x H' y=>?_⟩,(h H2 s i).2⟩
 have q:=((h H2 s i).1 hi).2 x H' y
 rw[hf i hi,hg i hi] at q
 exact q
def adr:V→Addr
 | .ref a=>a
 | _=>0
theorem comp_hv{K:c2f}{a b:Addr}{rs:List V}{c:List Pl}{H1:Hp}{te:TE}{cs:L2.St}{Q:VK}(h1:H1 a=some (.lst rs))(hP:PlsV H1 rs c)(h2:H1 b=some (.lst (rs.drop 1)))(hn:c.length≤100000)(he:∀ (H2:Hp) (k:VK) (x y u v:Int),Same H1 H2→(∀ w H3,Same H2 H3→RwV H3 w ((x+u) / 2) ((y+v) / 2)→k w H3)→te (some (.int x)::some (.int y)::some (.int u)::some (.int v)::cs) H2 k)(hq:∀ D ys H2,H1 D=none→Same H1 H2→H2 D=some (.lst ys)→PlsV H2 ys (hvN c)→Q (.ref D) H2) :
   a5p 4 (Itz K a b) H1 (gTup K 2 (a5s (gTup K 2 (a5s (a3l 0) (a5s (a3l 1) gNil))) (a5s (gTup K 2 (a5s (a3l 2) (a5s (a3l 3) gNil))) gNil))) te cs Q:=by
 have hl:=hP.len
 have g0:∀ i,i<c.length→rs[i]?=some (.ref (adr ((rs[i]?).getD .non)))∧H1 (adr ((rs[i]?).getD .non))=some (.tup [.int ((c[i]?).getD (0,0)).1,.int ((c[i]?).getD (0,0)).2]):=fun i hi=>by
   obtain⟨z,ez,hz⟩:=hP.at (c2e hi)
   rw[ez,c2e hi]
   exact⟨rfl,hz⟩
 have J:=(b2h (SqL.of (K:=K) h1) (SqL.of (K:=K) h2)).congr (m:=c.length - 1) (f':=fun i=>.ref (adr ((rs[i]?).getD .non))) (g':=fun i=>.ref (adr ((rs[i+1]?).getD .non))) (by rw[c3k];omega)
   (fun i hi=>by rw[c3k] at hi;show (rs[i]?).getD .non=_;rw[(g0 i (by omega)).1];rfl)
   (fun i hi=>by rw[c3k] at hi;show ((rs.drop 1)[i]?).getD .non=_;rw[c6a,Nat.add_comm 1 i,(g0 (i+1) (by omega)).1];rfl)
 refine comp22 (fa:=fun i=>adr ((rs[i]?).getD .non)) (ga:=fun i=>adr ((rs[i+1]?).getD .non)) (x:=fun i=>.int ((c[i]?).getD (0,0)).1) (y:=fun i=>.int ((c[i]?).getD (0,0)).2) (u:=fun i=>.int ((c[i+1]?).getD (0,0)).1) (v:=fun i=>.int ((c[i+1]?).getD (0,0)).2) J
   (fun i hi=>SqT.of (g0 i (by omega)).2) (fun i hi=>SqT.of (g0 (i+1) (by omega)).2) (by omega)
   (fun i v H=>RwV H v ((((c[i]?).getD (0,0)).1+((c[i+1]?).getD (0,0)).1) / 2) ((((c[i]?).getD (0,0)).2+((c[i+1]?).getD (0,0)).2) / 2)) (fun _ _ _ _ t h=>h.tup t)
   (fun i H2 k hi s2 hk=>he H2 k _ _ _ _ s2 fun w H3 s3 hw=>hk w H3 s3 hw) (fun D ys H2 hD s2 hd hyl hr=>hq D ys H2 hD s2 hd ⟨by rw[a9a];exact hyl,fun i v p e1 e2=>?_⟩)
 have hi:i<ys.length:=(c2q.mp e1).1
 have q:=hr i v e1
 have f1:c[i]?=some (c[i]'(by omega (config:={}))):=c2e _
 have f2:c[i+1]?=some (c[i+1]'(by omega (config:={}))):=c2e _
 rw[b4h f1 f2] at e2
 cases e2
 rw[f1,f2] at q
 exact q
def muR(σ:L2.St)(H:Hp):Nat:=match (show List (Option V) from σ)[3]? with
 | some (some (V.ref l))=>(match H l with | some (.lst xs)=>xs.length | _=>0)
 | _=>0
theorem muR_eq{a b c:Option V}{l:Addr}{H:Hp}{xs:List V}(h:H l=some (.lst xs)):muR [a,b,c,some (.ref l)] H=xs.length:=by
 unfold muR
 show (match H l with | some (.lst xs)=>xs.length | _=>0)=_
 rw[h]
theorem PlsV.rev{H:Hp}{us:List V}{pl:List Pl}(h:PlsV H us pl):PlsV H us.reverse pl.reverse:=by
 have hl:=h.len
 refine⟨by rw[c4y,c4y,hl],fun i w q e1 e2=>?_⟩
 have hi:i<us.length:=by have:=(c2q.mp e1).1;rwa [c4y] at this
 rw[c6x hi] at e1
 rw[c6x (by omega)] at e2
 rw[hl] at e1
 exact h.get _ w q e1 e2
theorem lh_rev(c:List Pl):((c4a c.length).map fun r=>((hrow c r)[c.length - 1 - r]?).getD (0,0)).reverse=lhI c:=by
 unfold lhI
 refine c4r fun i=>?_
 by_cases hi:i<c.length
 · rw[c6x (by simp;omega),c2p,c2p,c6h hi,c2h,c4l,c6h (by omega)]
   show some (((hrow c (c.length - 1 - i))[c.length - 1 - (c.length - 1 - i)]?).getD (0,0))=some (((hrow c (c.length - 1 - i))[i]?).getD (0,0))
   rw[show c.length - 1 - (c.length - 1 - i)=i by omega]
 · rw[c3c (by simp;omega),c3c (by simp;omega)]
theorem row_last{c:List Pl}{r:Nat}(h:r<c.length){rs:List V}{H:Hp}(hP:PlsV H rs (hrow c r)):∃ v,rs[rs.length - 1]?=some v∧RwV H v (((hrow c r)[c.length - 1 - r]?).getD (0,0)).1 (((hrow c r)[c.length - 1 - r]?).getD (0,0)).2:=by
 have hl:=hP.len
 have hr:=a4r c r
 have e:(hrow c r)[c.length - 1 - r]?=some ((hrow c r)[c.length - 1 - r]'(by omega (config:={}))):=c2e _
 obtain⟨a,ea,ha⟩:=hP.at e
 rw[e]
 refine⟨_,by rw[hl,hr,show c.length - r - 1=c.length - 1 - r by omega];exact ea,a,rfl,ha⟩
end Cv
namespace Cv
open PySem PySem.Spec PyProof.Rows L2
theorem top_szW{x W D:Int}{m:Nat}(hW:0<W)(hD:0<D)(hWD:W∣D)(ho:Ov D m (c2i x W)):Sz m x:=by
 obtain⟨c,rfl⟩:=hWD
 have hc:0<c:=by
   rcases Int.lt_trichotomy c 0 with h | h | h
   · have:=Int.mul_neg_of_pos_of_neg hW h;omega
   · rw[h,Int.mul_zero] at hD;omega
   · exact h
 have w0:(W:Rat)≠0:=fun z=>by have:=Rat.intCast_inj.mp (z.trans (Rat.intCast_zero).symm);omega
 obtain⟨a,ea,za⟩:=ho
 rw[a9d,c3o] at ea
 have e:((x*c:Int):Rat)=(a:Rat):=by
   rw[← ea,c3o]
   grind
 have z:Sz m (x*c):=by rw[Rat.intCast_inj.mp e];exact za
 exact z.le (by rw[Int.natAbs_mul];exact Nat.le_mul_of_pos_right _ (by omega))
theorem wc_len{R:Int}{t1 t2:List Int}(h:t1.length=t2.length):(wcI R t1 t2).length=t1.length:=by unfold wcI;rw[c5v];omega
theorem wc_toP{R:Int}(hR:R≠0){t1 t2 b1 b2:List Int}{ps:List Pt}(e1:axR t1 b1=ps.map (·.1))(e2:axR t2 b2=ps.map (·.2)):toP (a1b b1*R) (a1b b2*R) (wcI R t1 t2)=ps:=by
 have l1:t1.length=ps.length:=by have:=congrArg c6v e1;rw[b1r,c2h] at this;exact this
 have l2:t2.length=ps.length:=by have:=congrArg c6v e2;rw[b1r,c2h] at this;exact this
 refine c4r fun i=>?_
 by_cases hi:i<ps.length
 · have f1:t1[i]?=some (t1[i]'(by omega (config:={}))):=c2e _
   have f2:t2[i]?=some (t2[i]'(by omega (config:={}))):=c2e _
   have g1:=congrArg (fun l=>l[i]?) e1
   have g2:=congrArg (fun l=>l[i]?) e2
   simp only[axR,c2p,f1,f2,c2e hi,Option.map_some,c2u.injEq] at g1 g2
   unfold toP wcI
   rw[c2p,c5m,f1,f2,c2e hi]
   show some (c2i _ _,c2i _ _)=_
   rw[Rat.divInt_mul_right hR,Rat.divInt_mul_right hR,g1,g2]
 · rw[c3c (by rw[a4f,wc_len (by omega)];omega),c3c (by omega)]
theorem wc_mem{R:Int}{t1 t2:List Int}{p:Pl}(h:p∈wcI R t1 t2):∃ x y,x∈t1∧y∈t2∧p=(x*R,y*R):=by
 unfold wcI at h
 obtain⟨i,hi,rfl⟩:=c3a h
 rw[c5v] at hi
 rw[List.getElem_zipWith]
 exact⟨_,_,c4c _,c4c _,rfl⟩
theorem wc_dvs(k:Nat)(t1 t2:List Int):Dvs k (wcI (2^k) t1 t2):=fun p hp=>by
 obtain⟨x,y,_,_,rfl⟩:=wc_mem hp
 exact⟨⟨x,c5c _ _⟩,⟨y,c5c _ _⟩⟩
theorem b0z(k:Nat):Sz (k+1) ((2:Int)^k):=⟨by
 have e:((2:Int)^k).natAbs=2^k:=by
   rw[Int.natAbs_pow];rfl
 rw[e,c6o]
 have:=c7o k
 omega⟩
theorem wc_sz{k m:Nat}{t1 t2:List Int}(h1:∀ x∈t1,Sz m x)(h2:∀ x∈t2,Sz m x):SzQ (m+(k+1)) (wcI (2^k) t1 t2):=fun p hp=>by
 obtain⟨x,y,hx,hy,rfl⟩:=wc_mem hp
 exact⟨(h1 x hx).mul (b0z k),(h2 y hy).mul (b0z k)⟩
theorem b8d{t b:List Int}{qs:List Rat}{D:Int}{m:Nat}(hW:0<a1b b)(hD:0<D)(hWD:a1b b∣D)(e:axR t b=qs)(ho:∀ q∈qs,Ov D m q):∀ x∈t,Sz m x:=fun x hx=>by
 refine top_szW hW hD hWD (ho _ ?_)
 rw[← e]
 exact c3w.mpr ⟨x,hx,rfl⟩
theorem b5q(k:Nat):(0:Int)<2^k:=by
 have:=c7o k
 have e:((2^k:Nat):Int)=(2:Int)^k:=by simp
 rw[← e];omega
end Cv
namespace Cv
open PySem PySem.Spec PyProof.Rows L2
theorem PlsV.cons{H:Hp}{us:List V}{pl:List Pl}{v:V}{x y:Int}(hv:RwV H v x y)(h:PlsV H us pl):PlsV H (v::us) ((x,y)::pl):=by
 refine⟨by rw[c3r,c3r,h.len],fun i w q e1 e2=>?_⟩
 cases i with
 | zero=>cases e1;cases e2;exact hv
 | succ i=>exact h.get i w q (by simpa using e1) (by simpa using e2)
theorem CsV.drop{H:Hp}{D:Option Addr}{ys:List V}{css:List (List Pl)}(h:CsV H D ys css):CsV H none ys css:=
 ⟨h.len,fun i v c e1 e2=>by obtain⟨l,us,q1,q2,q3,q4⟩:=h.get i v c e1 e2;exact⟨l,us,q1,(fun z=>by cases z),q3,q4⟩⟩
end Cv
namespace Cv
def cr(p q:Int×Int):Int:=p.1*q.2 - p.2*q.1
def dt(w d:Int×Int):Int:=w.1*d.1+w.2*d.2
theorem b1k(p:Int×Int):cr p p=0:=by unfold cr;grind
theorem c1k(p q:Int×Int):cr q p=- cr p q:=by unfold cr;grind
def amid(r l:Int×Int):Int×Int:=(l.2 - r.2,r.1 - l.1)
theorem c1x(r l f:Int×Int):dt (amid r l) f=cr r f+cr f l:=by unfold dt amid cr;grind
theorem cone_eq1(r l f d:Int×Int):cr r l*cr d f=cr d l*cr r f+cr r d*cr l f:=by unfold cr;grind
theorem cone_eq2(r l f d:Int×Int):cr r l*cr f d=cr d l*cr f r+cr r d*cr f l:=by unfold cr;grind
theorem b0j{a b:Int}(ha:0<a)(h:0≤a*b):0≤b:=by
 rcases Int.lt_or_le b 0 with z | z
 · have:=Int.mul_neg_of_pos_of_neg ha z;omega
 · exact z
theorem c1l{r l f d:Int×Int}(h:0<cr r l)(h1:0<cr r f)(h2:cr f l<0)(d1:0≤cr r d)(d2:0≤cr d l):0≤cr d f:=by
 refine b0j h ?_
 rw[cone_eq1]
 have a:=c5y d2 (show 0≤cr r f by omega)
 have b:=c5y d1 (show 0≤cr l f by rw[c1k];omega)
 omega
theorem b7m{r l f d:Int×Int}(h:0<cr r l)(h1:0<cr f l)(h2:cr r f<0)(d1:0≤cr r d)(d2:0≤cr d l):0≤cr f d:=by
 refine b0j h ?_
 rw[cone_eq2]
 have a:=c5y d2 (show 0≤cr f r by rw[c1k];omega)
 have b:=c5y d1 (show 0≤cr f l by omega)
 omega
def cone(r l d:Int×Int):Bool:=decide (0≤cr r d) && decide (0≤cr d l)
theorem b6i{α:Type}{p q:α→Bool}{L:List α}{f:α}(h:∀ d∈L,p d=true→q d=true)(hf:f∈L)(hq:q f=true)(hp:p f=false):L.countP p<L.countP q:=by
 induction L with
 | nil=>cases hf
 | cons a L ih=>
   have le:L.countP p≤L.countP q:=List.countP_mono_left (fun d hd z=>h d (c3q _ hd) z)
   rw[List.countP_cons,List.countP_cons]
   rcases c2x.mp hf with rfl | hf'
   · rw[hp,hq];simp;omega
   · have:=ih (fun d hd=>h d (c3q _ hd)) hf'
     have ha:=h a c5z
     cases hpa:p a with
     | false=>simp;split<;>omega
     | true=>rw[ha hpa];simp;omega
def muP(L:List (Int×Int))(same:Bool)(r l:Int×Int):Nat:=if same then L.length+1 else L.length - L.countP (cone r l)
theorem b5s{L:List (Int×Int)}{r l r' l':Int×Int}:muP L false r' l' < muP L true r l:=by
 unfold muP
 simp
 omega
theorem mu_left{L:List (Int×Int)}{r l f:Int×Int}(hf:f∈L)(h:0<cr r l)(hw:dt (amid r l) f≤0)(h1:0<cr r f):muP L false r f<muP L false r l:=by
 rw[c1x] at hw
 have h2:cr f l<0:=by omega
 have lt:=b6i (p:=cone r l) (q:=cone r f) (L:=L) (f:=f) (fun d _ z=>by
   unfold cone at z ⊢
   simp only[c4k,decide_eq_true_eq] at z ⊢
   exact⟨z.1,c1l h h1 h2 z.1 z.2⟩) hf (by unfold cone;simp[b1k];omega) (by unfold cone;simp;intro _;omega)
 have b:=List.countP_le_length (p:=cone r f) (l:=L)
 unfold muP
 simp
 omega
theorem mu_right{L:List (Int×Int)}{r l f:Int×Int}(hf:f∈L)(h:0<cr r l)(hw:dt (amid r l) f≤0)(h1:0<cr f l):muP L false f l<muP L false r l:=by
 rw[c1x] at hw
 have h2:cr r f<0:=by omega
 have lt:=b6i (p:=cone r l) (q:=cone f l) (L:=L) (f:=f) (fun d _ z=>by
   unfold cone at z ⊢
   simp only[c4k,decide_eq_true_eq] at z ⊢
   exact⟨b7m h h1 h2 z.1 z.2,z.2⟩) hf (by unfold cone;simp[b1k];omega) (by unfold cone;simp;intro z;omega)
 have b:=List.countP_le_length (p:=cone f l) (l:=L)
 unfold muP
 simp
 omega
end Cv
namespace Cv
open PySem PySem.Spec PyProof.Rows L2
section
variable {X:Cx}
def rIndex:V→List V→Hp→VK→Prop:=fun x vs H Q=>∃ (l:Addr) (ms:List Int) (y:Int) (j:Nat),x=.ref l∧vs=[.int y]∧H l=some (.lst (ms.map V.int))∧ms[j]?=some y∧(∀ m,m<j→ms[m]?≠some y)∧Q (.int (j:Int)) H
def isI(y:Int):Value→Bool
 | .int i _=>i == y
 | _=>false
theorem b5t:MtM X "list.index" rIndex:=by
 intro pins s σ H x vs v us Q I rx rv h
 obtain⟨l,ms,y,j,rfl,rfl,hH,hj,hno,q⟩:=h
 cases rx
 obtain⟨u,rfl,ru⟩:=rv.one
 obtain⟨tk,rfl⟩:=ru
 obtain⟨z,its,n,r,hl,e⟩:=I.lstM hH
 rw[c2h] at hl z
 have hat:∀ (m:Nat) (i:Int),ms[m]?=some i→∃ t,its[m]?=some (.int i t):=fun m i hm=>by
   obtain⟨u,e1,e2⟩:=Vals.get r (show (ms.map V.int)[m]?=some (.int i) by rw[c2p,hm];rfl)
   obtain⟨t,rfl⟩:=e2
   exact⟨t,e1⟩
 have hjl:j<ms.length:=(c2q.mp hj).1
 have hss:sizeLine<2^62:=by decide
 refine call_meets F.slot_list_index ⟨_,e,rfl⟩ F.entry_list_index (F.args_list_index_2 _ _) (PySem.SeqAt.list_indexAt l its.toArray n none #[] (.int y tk) (isI y) j (by rw[c3b];omega) (by omega) ?_ ?_) ⟨e,?_,?_⟩
 · obtain⟨t,et⟩:=hat j y hj
   have:its.toArray[j]'(by rw[c3b];omega)=.int y t:=by
     rw[List.getElem_toArray]
     exact (c2q.mp et).2
   rw[this]
   simp[isI]
 · intro m hm hmj
   rw[c3b] at hm
   obtain⟨t,et⟩:=hat m (ms[m]'(by omega (config:={}))) (c2e _)
   have:its.toArray[m]'(by rw[c3b];omega)=.int (ms[m]'(by omega (config:={}))) t:=by
     rw[List.getElem_toArray]
     exact (c2q.mp et).2
   rw[this]
   have hne:=hno m hmj
   rw[c2e (by omega)] at hne
   simp only[isI]
   exact beq_eq_false_iff_ne.mpr (fun z=>hne (by rw[z]))
 · intro w hw
   obtain⟨m,hm,rfl⟩:=c3a (List.mem_toArray.mp hw)
   obtain⟨t,et⟩:=hat m (ms[m]'(by omega (config:={}))) (c2e _)
   rw[(c2q.mp et).2]
   exact (MeetsSeq.EqGives.int _ _ _ _).at _ _
 · exact⟨.int (j:Int),_,I.tok _,⟨_,rfl⟩,q⟩
def tAsg2(te:TE)(g1 g2:TG):TS:=fun D σ H=>te σ H fun x H1=>g1 x σ H1 fun σ' H'=>g2 x σ' H' D.nx
theorem ps_asg2{t1 t2 e:Expr}{te:TE}{g1 g2:TG}{pos:Pos}(he:PE X e te)(hg1:PG X t1 g1)(hg2:PG X t2 g2)(hs:swapsWithSole [t1,t2] e pos.line X.env=pure false:=by rfl)(hw:swappedStores [t1,t2] e X.env=pure none:=by rfl)(h1:(assignEach [t1,t2] X.env).map (·.2)=[assign t1 X.env,assign t2 X.env]:=by rfl):PS X (.Assign [t1,t2] e pos) (tAsg2 te g1 g2):=by
 intro pins s σ H D I h
 refine wpAny_Assign_stores (thn (he pins s σ H _ I h) fun v s1 ⟨x,H1,I1,r1,q1⟩=>?_) hs hw
 rw[h1]
 exact wpAny_bind (wpAny_holding (thn (hg1 pins s1 σ H1 x v _ I1 r1 q1) fun _ s2 ⟨σ2,H2,I2,q2⟩=>thn (hg2 pins s2 σ2 H2 x v _ I2 r1 q2) fun _ s3 q=>q))
theorem ps_asg2I{t1 t2 e:Expr}{te:TE}{g1 g2:TG}{pos:Pos}(he:PEi X e te)(hg1:PGi X t1 g1)(hg2:PGi X t2 g2)(hs:swapsWithSole [t1,t2] e pos.line X.env=pure false:=by rfl)(hw:swappedStores [t1,t2] e X.env=pure none:=by rfl)(h1:(assignEach [t1,t2] X.env).map (·.2)=[assign t1 X.env,assign t2 X.env]:=by rfl):PSi X (.Assign [t1,t2] e pos) (tAsg2 te g1 g2):=by with_unfolding_all exact ps_asg2 (he:=he) (hg1:=hg1) (hg2:=hg2) (hs:=hs) (hw:=hw) (h1:=h1)
end
theorem kPair{K:c2f}{H:Hp}{B:Addr}{d:Option Addr}{s:Array (Option Value)}{n:Nat}{i j:Int}{t1 t2:Tok}(l:K.lookup B=some ⟨.type "tuple",d,.seq #[.int i t1,.int j t2] n,s⟩):SqT K H B [.int i,.int j]:=
 .inr ⟨_,_,_,l,rfl,rfl,by show 2≤sizeLine;decide,.cons ⟨_,rfl⟩ (.cons ⟨_,rfl⟩ .nil)⟩
theorem kFour{K:c2f}{H:Hp}{A B1 B2 B3 B4:Addr}{d:Option Addr}{s:Array (Option Value)}{n:Nat}(l:K.lookup A=some ⟨.type "tuple",d,.seq #[.ref B1,.ref B2,.ref B3,.ref B4] n,s⟩):SqT K H A [.ref B1,.ref B2,.ref B3,.ref B4]:=
 .inr ⟨_,_,_,l,rfl,rfl,by show 4≤sizeLine;decide,.cons rfl (.cons rfl (.cons rfl (.cons rfl .nil)))⟩
end Cv
namespace Cv
open PySem PySem.Spec PyProof.Rows L2
def SzW(n:Nat)(p:Pl):Prop:=Sz n p.1∧Sz n p.2
def b8r(K:c2f):Sp:=fun vs H Q _=>∃ (a b:Addr) (ws:List V) (pl:List Pl) (w:Pl),vs=[.ref a,.ref b]∧H a=some (.lst ws)∧PlsV H ws pl∧SqT K H b [.int w.1,.int w.2]∧SzQ 2000 pl∧SzW 2010 w∧pl.length≤1000∧
 ∀ (l:Addr) (H':Hp),Same H H'→H l=none→H' l=some (.lst ((pl.map (dt w)).map V.int))→Q (.ref l) H'
def b3n(K:c2f):Sp:=fun vs H Q _=>∃ (a b:Addr) (ws us:List V) (pl ql:List Pl) (i j:Nat) (p q:Pl),vs=[.ref a,.ref b,.int (i:Int),.int (j:Int)]∧H a=some (.lst ws)∧PlsV H ws pl∧H b=some (.lst us)∧PlsV H us ql∧pl[i]?=some p∧ql[j]?=some q∧
 ∀ (c:Addr) (H':Hp),Same H H'→H' c=some (.tup [.int (q.1 - p.1),.int (q.2 - p.2),.int (i:Int),.int (j:Int)])→Q (.ref c) H'
def b8k(K:c2f):Sp:=fun vs H Q _=>∃ (a b:Addr) (p q:Pl) (i j m n:Int),vs=[.ref a,.ref b]∧H a=some (.tup [.int p.1,.int p.2,.int i,.int j])∧H b=some (.tup [.int q.1,.int q.2,.int m,.int n])∧SzW 2010 p∧SzW 2010 q∧Q (.int (cr p q)) H
def b8m(K:c2f):Sp:=fun vs H Q _=>∃ (a b d:Addr) (ws us:List V) (pl ql:List Pl) (w:Pl),vs=[.ref a,.ref b,.ref d]∧H a=some (.lst ws)∧PlsV H ws pl∧H b=some (.lst us)∧PlsV H us ql∧SqT K H d [.int w.1,.int w.2]∧SzQ 2000 pl∧SzQ 2000 ql∧SzW 2010 w∧1≤pl.length∧1≤ql.length∧pl.length≤1000∧ql.length≤1000∧
 ∀ (c f:Addr) (i j:Nat) (p q:Pl) (H':Hp),Same H H'→H' c=some (.tup [.int (dt w p),.int (dt w q),.ref f])→H' f=some (.tup [.int (q.1 - p.1),.int (q.2 - p.2),.int (i:Int),.int (j:Int)])→pl[i]?=some p→ql[j]?=some q→(∀ p'∈pl,dt w p'≤dt w p)→(∀ q'∈ql,dt w q≤dt w q')→Q (.ref c) H'
theorem b6e{ms:List Int}{y:Int}(h:y∈ms):∃ j:Nat,ms[j]?=some y∧∀ m,m<j→ms[m]?≠some y:=by
 induction ms with
 | nil=>cases h
 | cons a ms ih=>
   by_cases e:a=y
   · exact⟨0,by rw[e];rfl,fun m hm=>by omega⟩
   · rcases c2x.mp h with z | z
     · exact absurd z.symm e
     · obtain⟨j,h1,h2⟩:=ih z
       refine⟨j+1,by simpa using h1,fun m hm=>?_⟩
       cases m with
       | zero=>simpa using e
       | succ m=>have:=h2 m (by omega);simpa using this
theorem ints_dt{us:List V}{pl:List Pl}{w:Pl}(hl:us.length=pl.length)(h:∀ (i:Nat) v,us[i]?=some v→v=V.int (dt w ((pl[i]?).getD (0,0)))):us=(pl.map (dt w)).map V.int:=by
 refine c4r fun i=>?_
 rw[c2p,c2p]
 by_cases hi:i<us.length
 · have e:us[i]?=some us[i]:=c2e hi
   have e2:pl[i]?=some (pl[i]'(by omega (config:={}))):=c2e _
   have:=h i _ e
   rw[e2] at this
   rw[e,this,e2];rfl
 · rw[c3c (by omega),c3c (by omega)];rfl
abbrev Stp:=Pl×Int×Int
def StV(H:Hp)(v:V)(s:Stp):Prop:=∃ a:Addr,v=.ref a∧H a=some (.tup [.int s.1.1,.int s.1.2,.int s.2.1,.int s.2.2])
def a9e(s:Stp):c6l:=.tuple [.int s.1.1,.int s.1.2,.int s.2.1,.int s.2.2]
theorem a6r{s t:Stp}:a9e s=a9e t↔s=t:=by
 obtain⟨⟨a,b⟩,c,d⟩:=s
 obtain⟨⟨a',b'⟩,c',d'⟩:=t
 unfold a9e
 simp
 constructor
 · rintro⟨h1,h2,h3,h4⟩;exact⟨⟨h1,h2⟩,h3,h4⟩
 · rintro⟨⟨h1,h2⟩,h3,h4⟩;exact⟨h1,h2,h3,h4⟩
theorem a8b(s:Stp)(n:Nat):c3t (n+2) (a9e s)=true:=by
 simp[a9e,c3t]
theorem dnSt{K:c2f}{H:Hp}{v:V}{s:Stp}(h:StV H v s):Dn K H (a9e s) v:=by
 obtain⟨a,rfl,h⟩:=h
 unfold a9e
 simp only[Dn,a5t]
 exact⟨a,_,rfl,SqT.of h,_,_,rfl,rfl,_,_,rfl,rfl,_,_,rfl,rfl,_,_,rfl,rfl,rfl⟩
def wayA(r l:Stp):Pl:=if r=l then r.1 else amid r.1 l.1
def spAmid(K:c2f):Sp:=fun vs H Q _=>∃ (x y:V) (r l:Stp),vs=[x,y]∧StV H x r∧StV H y l∧
 ∀ (c:Addr) (H':Hp),Same H H'→H' c=some (.tup [.int (wayA r l).1,.int (wayA r l).2])→Q (.ref c) H'
structure StsV(H:Hp)(vs:List V)(ss:List Stp):Prop where
 len:vs.length=ss.length
 get:∀ (i:Nat) v s,vs[i]?=some v→ss[i]?=some s→StV H v s
def b6l(ss:List Stp):Prop:=(∃ r,ss=[r]∧r.1=(0,0))∨(∃ r f,ss=[r,f]∧cr r.1 f.1=0∧dt r.1 f.1≤0∧r.1≠(0,0))∨(∃ r l f,ss=[r,l,f]∧0<cr r.1 l.1∧cr r.1 f.1≤0∧cr f.1 l.1≤0)
def a5y(pl ql:List Pl)(s:Stp):Prop:=∃ (i j:Nat) (p q:Pl),pl[i]?=some p∧ql[j]?=some q∧s=((q.1 - p.1,q.2 - p.2),(i:Int),(j:Int))
def b5c(K:c2f):Sp:=fun vs H Q _=>∃ (a b:Addr) (ws us:List V) (pl ql:List Pl) (n:Nat),vs=[.ref a,.ref b]∧H a=some (.lst ws)∧PlsV H ws pl∧H b=some (.lst us)∧PlsV H us ql∧SzQ n pl∧SzQ n ql∧1≤n∧n≤2000∧1≤pl.length∧1≤ql.length∧pl.length≤1000∧ql.length≤1000∧
 (∀ (c d e:Addr) (w p q:Pl) (H':Hp),Same H H'→H' c=some (.tup [.ref d,.ref e])→H' d=some (.tup [.int w.1,.int w.2,.int (dt w p+dt w q)])→H' e=some (.lst [])→SzW (n+2) w→p∈pl→q∈ql→dt w p<dt w q→(∀ p'∈pl,dt w p'≤dt w p)→(∀ q'∈ql,dt w q≤dt w q')→Q (.ref c) H')∧
 (∀ (c e:Addr) (vs:List V) (ss:List Stp) (H':Hp),Same H H'→H' c=some (.tup [.non,.ref e])→H' e=some (.lst vs)→StsV H' vs ss→(∀ s∈ss,a5y pl ql s)→b6l ss→Q (.ref c) H')
end Cv
namespace Cv
open PySem PySem.Spec PyProof.Rows L2
theorem while_gh{c:TT}{tb:TS}{D:Ends}{σ:L2.St}{H:Hp}(Pv:Nat→L2.St→Hp→Prop){m0:Nat}(h0:Pv m0 σ H)(hs:∀ m σ H,Pv m σ H→c σ H fun b H1=>if b=true then tb { D with nx:=fun σ' H'=>∃ m',m' < m∧Pv m' σ' H',ct:=fun σ' H'=>∃ m',m' < m∧Pv m' σ' H',bk:=D.nx } σ H1 else D.nx σ H1)(mono:∀ σ H Q Q',(∀ b H1,Q b H1→Q' b H1)→c σ H Q→c σ H Q'):b4v c tb D σ H:=by
 refine⟨Pv,⟨_,h0⟩,?_⟩
 intro m σ H p
 refine mono σ H _ _ (fun b H1 q=>?_) (hs m σ H p)
 cases b with
 | true=>exact⟨_,fun σ' H' z=>z,q⟩
 | false=>exact q
def allSt(pl ql:List Pl):List Pl:=pl.flatMap fun p=>ql.map fun q=>(q.1 - p.1,q.2 - p.2)
theorem a5y.mem{pl ql:List Pl}{s:Stp}(h:a5y pl ql s):s.1∈allSt pl ql:=by
 obtain⟨i,j,p,q,h1,h2,rfl⟩:=h
 exact List.mem_flatMap.mpr ⟨p,c2m h1,c3w.mpr ⟨q,c2m h2,rfl⟩⟩
theorem a5y.sz{n:Nat}{pl ql:List Pl}{s:Stp}(h:a5y pl ql s)(zp:SzQ n pl)(zq:SzQ n ql):SzW (n+1) s.1:=by
 obtain⟨i,j,p,q,h1,h2,rfl⟩:=h
 have a:=zp _ (c2m h1)
 have b:=zq _ (c2m h2)
 exact⟨Sz.mono (Sz.sub b.1 a.1) (by omega),Sz.mono (Sz.sub b.2 a.2) (by omega)⟩
def RLok(r l:Stp):Prop:=(r=l∧r.1≠(0,0))∨0<cr r.1 l.1
def mS(L:List Pl)(r l:Stp):Nat:=muP L (decide (r=l)) r.1 l.1
theorem RLok.ne{r l:Stp}(h:0<cr r.1 l.1):r≠l:=fun e=>by subst e;rw[b1k] at h;omega
theorem wayA_sz{n:Nat}{r l:Stp}(hr:SzW n r.1)(hl:SzW n l.1):SzW (n+1) (wayA r l):=by
 unfold wayA
 split
 · exact⟨Sz.mono hr.1 (by omega),Sz.mono hr.2 (by omega)⟩
 · exact⟨Sz.mono (Sz.sub hl.2 hr.2) (by omega),Sz.mono (Sz.sub hr.1 hl.1) (by omega)⟩
theorem dt_sub(w p q:Pl):dt w (q.1 - p.1,q.2 - p.2)=dt w q - dt w p:=by unfold dt;grind
theorem b8j{L:List Pl}{r l f:Stp}(hf:f.1∈L)(h:RLok r l)(hw:dt (wayA r l) f.1≤0)(h1:0<cr r.1 f.1):RLok r f∧mS L r f<mS L r l:=by
 refine⟨.inr h1,?_⟩
 have e1:decide (r=f)=false:=decide_eq_false (RLok.ne h1)
 rcases h with⟨rfl,h0⟩ | h
 · unfold mS
   rw[e1,decide_eq_true rfl]
   exact b5s
 · have e2:decide (r=l)=false:=decide_eq_false (RLok.ne h)
   have e3:wayA r l=amid r.1 l.1:=if_neg (RLok.ne h)
   unfold mS
   rw[e1,e2]
   rw[e3] at hw
   exact mu_left hf h hw h1
theorem b6o{L:List Pl}{r l f:Stp}(hf:f.1∈L)(h:RLok r l)(hw:dt (wayA r l) f.1≤0)(h1:0<cr f.1 l.1):RLok f l∧mS L f l<mS L r l:=by
 refine⟨.inr h1,?_⟩
 have e1:decide (f=l)=false:=decide_eq_false (RLok.ne h1)
 rcases h with⟨rfl,h0⟩ | h
 · unfold mS
   rw[e1,decide_eq_true rfl]
   exact b5s
 · have e2:decide (r=l)=false:=decide_eq_false (RLok.ne h)
   have e3:wayA r l=amid r.1 l.1:=if_neg (RLok.ne h)
   unfold mS
   rw[e1,e2]
   rw[e3] at hw
   exact mu_right hf h hw h1
theorem end_two{r f:Stp}(h:RLok r r)(hw:dt (wayA r r) f.1≤0)(h1:¬ 0<cr r.1 f.1)(h2:¬ 0<cr f.1 r.1):b6l [r,f]:=by
 rcases h with⟨_,h0⟩ | h
 · have e3:wayA r r=r.1:=if_pos rfl
   rw[e3] at hw
   rw[c1k] at h2
   exact .inr (.inl ⟨r,f,rfl,by omega,hw,h0⟩)
 · rw[b1k] at h;omega
theorem c1e{r l f:Stp}(h:RLok r l)(hn:r≠l)(h1:¬ 0<cr r.1 f.1)(h2:¬ 0<cr f.1 l.1):b6l [r,l,f]:=by
 rcases h with⟨h0,_⟩ | h
 · exact absurd h0 hn
 · exact .inr (.inr ⟨r,l,f,rfl,h,by omega,by omega⟩)
theorem SzQ.mono{n m:Nat}{c:List Pl}(h:SzQ n c)(e:n≤m):SzQ m c:=fun p hp=>⟨(h p hp).1.mono e,(h p hp).2.mono e⟩
theorem datPl2(x y:Int)(n:Nat):c3t (n+2) (.tuple [.int x,.int y])=true:=by simp[c3t]
theorem dnPl2{K:c2f}{H:Hp}{a:Addr}{x y:Int}(h:SqT K H a [.int x,.int y]):Dn K H (.tuple [.int x,.int y]) (.ref a):=by
 simp only[Dn,a5t]
 exact⟨a,_,rfl,h,_,_,rfl,rfl,_,_,rfl,rfl,rfl⟩
end Cv
namespace Cv
open PySem PySem.Spec PyProof.Rows L2
theorem sq_nn(a:Int):0≤a*a:=by
 rcases Int.le_total 0 a with h | h
 · exact c5y h h
 · have:=c5y (show 0≤-a by omega) (show 0≤-a by omega);grind
theorem b3y{a b:Int}(ha:0<a)(h:0<a*b):0<b:=by
 rcases Int.lt_or_le 0 b with z | z
 · exact z
 · have:=Int.mul_le_mul_of_nonneg_left z (show 0≤a by omega);simp at this;omega
end Cv
namespace Cv
open PySem PySem.Spec PyProof.Rows L2
def b0b:Sp:=fun vs H Q _=>∃ (d:Addr) (w:Pl) (c bx bY rm:Int),vs=[.ref d,.int bx,.int bY,.int rm]∧H d=some (.tup [.int w.1,.int w.2,.int c])∧SzW 9000 w∧Sz 9000 bx∧Sz 9000 bY∧Sz 8000 rm∧0<rm∧
 ∀ (t:Addr) (v1 v2 v3:V) (H':Hp),Same H H'→H' t=some (.tup [v1,v2,v3])→ShV H' v1 ((w.1*bx:Int):Rat)→ShV H' v2 ((w.2*bY:Int):Rat)→ShV H' v3 (c2i c (2*rm))→Q (.ref t) H'
theorem b0n{x:Int}{X:Int}(h:0<X):c2i x X*(X:Rat)=(x:Rat):=by
 have hn:(X:Rat)≠0:=cast_ne h
 rw[c5h];grind
theorem dvd_sz{X D:Int}{z:Nat}(h0:0<X)(hD:0<D)(h:X∣D)(zD:Sz z D):Sz z X:=zD.le (by have:=Int.le_of_dvd hD h;omega)
theorem dt_sz{n m:Nat}{w p:Pl}(hw:SzW n w)(h1:Sz m p.1)(h2:Sz m p.2):Sz (n+m+1) (dt w p):=(Sz.add (Sz.mul hw.1 h1) (Sz.mul hw.2 h2)).mono (by omega)
theorem bd_int{n:Nat}{x:Int}(h:Sz n x)(hn:1≤n):Bd n (x:Rat):=⟨by rw[Rat.num_intCast];exact h,by rw[Rat.den_intCast];exact Sz.one.mono hn⟩
end Cv
namespace Cv
open PySem PySem.Spec PyProof.Rows L2
structure b4s(ps qs:List Pt)(q1 q2 q3:Rat):Prop where
 lo:∀ p∈ps,q1*p.1+q2*p.2<q3
 hi:∀ p∈qs,q3<q1*p.1+q2*p.2
end Cv
namespace Cv
def lxP(a b:Pl):Prop:=a.1<b.1∨(a.1=b.1∧a.2<b.2)
end Cv
namespace Cv
open PySem PySem.Spec PyProof.Rows L2
def a7o(h:Heap)(vs:List Value)(pl:List Pl):Prop:=vs.length=pl.length∧∀ (i:Nat) (v:Value) (p:Pl),vs[i]?=some v→pl[i]?=some p→
 ∃ (t:Addr) (o:Obj) (t1 t2:Tok) (n:Nat),v=.ref t∧h.get? t=some o∧o.cls=.type "tuple" ∧ o.data=.seq #[.int p.1 t1,.int p.2 t2] n
instance lxDec (a b:Pl):Decidable (lxP a b):=inferInstanceAs (Decidable (a.1<b.1∨(a.1=b.1∧a.2<b.2)))
section
variable {prog:Program} {w:World} {A:Around} {E:Value→Shared→Prop} {s:Shared}
theorem c1v{vs:List Value}{pl:List Pl}(h:a7o s.heap vs pl){i j:Nat}(hi:i<pl.length)(hj:j<pl.length){C:Bool→Shared→Prop}(q:C (decide (lxP (pl.getD i (0,0)) (pl.getD j (0,0)))) s):PySem.W.kas_ask prog w A (tuples' true) vs i j C s:=by
 unfold PySem.W.kas_ask
 have ei:pl[i]?=some (pl[i]'hi):=c2e _
 have ej:pl[j]?=some (pl[j]'hj):=c2e _
 have vi:vs[i]?=some (vs[i]'(by rw[h.1];exact hi)):=c2e _
 have vj:vs[j]?=some (vs[j]'(by rw[h.1];exact hj)):=c2e _
 obtain⟨a,oa,t1,t2,n1,ea,ha,ca,da⟩:=h.2 i _ _ vi ei
 obtain⟨b,ob,u1,u2,n2,eb,hb,cb,db⟩:=h.2 j _ _ vj ej
 have e1:vs.getD i .none=.ref a:=by rw[c4b,vi,ea];rfl
 have e2:vs.getD j .none=.ref b:=by rw[c4b,vj,eb];rfl
 have e3:pl.getD i (0,0)=pl[i]'hi:=by rw[c4b,ei];rfl
 have e4:pl.getD j (0,0)=pl[j]'hj:=by rw[c4b,ej];rfl
 rw[e1,e2]
 rw[e3,e4] at q
 generalize pl[i]'hi=p at *
 generalize pl[j]'hj=r at *
 refine PySem.W.kat_lt ha da hb db ?_
 refine PySem.W.kat_cons (wpAny_eqBool_int ?_)
 refine PySem.W.kat_go (fun e=>PySem.W.kat_yes ?_) (fun e=>PySem.W.kat_no ?_)
 · have e':p.1=r.1:=by simpa using e
   refine PySem.W.kat_cons (wpAny_eqBool_int ?_)
   refine PySem.W.kat_go (fun f=>PySem.W.kat_yes (PySem.W.kat_nil ?_)) (fun f=>PySem.W.kat_no ?_)
   · have f':p.2=r.2:=by simpa using f
     have:decide (lxP p r)=false:=decide_eq_false (by unfold lxP;omega)
     rw[this] at q
     simpa using q
   · have f':p.2≠r.2:=by simpa using f
     have:decide (lxP p r)=decide (p.2<r.2):=decide_eq_decide.mpr (by unfold lxP;omega)
     rw[this] at q
     exact PySem.W.kat_one _ _ (lt_int q)
 · have e':p.1≠r.1:=by simpa using e
   have:decide (lxP p r)=decide (p.1<r.1):=decide_eq_decide.mpr (by unfold lxP;omega)
   rw[this] at q
   exact oneLt_int q
theorem prs_keep{h h':Heap}{vs:List Value}{pl:List Pl}(H:a7o h vs pl){a:Addr}(k:∀ b o,b≠a→h.get? b=some o→h'.get? b=some o)(ha:∀ v∈vs,v≠.ref a):a7o h' vs pl:=
 ⟨H.1,fun i v p e1 e2=>by
   obtain⟨t,o,t1,t2,n,ev,ht,ct,dt⟩:=H.2 i v p e1 e2
   exact⟨t,o,t1,t2,n,ev,k t o (fun z=>ha v (c2m e1) (by rw[ev,z])) ht,ct,dt⟩⟩
theorem b5w{h:Heap}:∀ {vs:List Value} {pl:List Pl},a7o h vs pl→∃ fs,PySem.W.KatTups h vs fs∧fs.length=vs.length∧∀ f∈fs,∃ i t,f=.int i t
 | [],[],_=>⟨[],PySem.W.KatTups.nil,rfl,fun f h=>nomatch h⟩
 | [],_::_,H=>absurd H.1 (by simp)
 | _::_,[],H=>absurd H.1 (by simp)
 | v::vs,p::pl,H=>by
   obtain⟨t,o,t1,t2,n,rfl,ht,ct,dt⟩:=H.2 0 v p rfl rfl
   obtain⟨fs,h1,h2,h3⟩:=b5w (h:=h) (vs:=vs) (pl:=pl) ⟨by simpa using H.1,fun i v p e1 e2=>H.2 (i+1) v p e1 e2⟩
   refine⟨.int p.1 t1::fs,PySem.W.KatTups.cons ht ct dt rfl h1,by simp[h2],fun f hf=>?_⟩
   rcases c2x.mp hf with rfl | hf
   · exact⟨_,_,rfl⟩
   · exact h3 f hf
end
end Cv
namespace Cv
open PySem PySem.Spec PyProof.Rows L2
def prOf(h:Heap):Value→Pl
 | .ref t=>match h.get? t with
   | some o=>match o.data with
     | .seq xs _=>match xs.toList with
       | [.int a _,.int b _]=>(a,b)
       | _=>(0,0)
     | _=>(0,0)
   | none=>(0,0)
 | _=>(0,0)
theorem a4w{h:Heap}{vs:List Value}{pl:List Pl}(H:a7o h vs pl){i:Nat}{v:Value}{p:Pl}(e1:vs[i]?=some v)(e2:pl[i]?=some p):prOf h v=p:=by
 obtain⟨t,o,t1,t2,n,rfl,ht,ct,dt⟩:=H.2 i v p e1 e2
 unfold prOf
 simp only[ht,dt]
theorem b5p{h:Heap}{vs:List Value}{pl:List Pl}(H:a7o h vs pl):vs.map (prOf h)=pl:=by
 refine c4r fun i=>?_
 rw[c2p]
 by_cases hi:i<vs.length
 · have hi':i<pl.length:=by rw[← H.1];exact hi
   rw[c2e hi,c2e hi']
   exact congrArg some (a4w H (c2e hi) (c2e hi'))
 · rw[c3c (by omega),c3c (by rw[← H.1];omega)];rfl
section
variable {prog:Program} {w:World} {A:Around} {E:Value→Shared→Prop} {s:Shared}
def ItP(vs:List Value)(x:Keyed):Prop:=x.1∈vs
def ltP(h:Heap)(x y:Keyed):Bool:=decide (lxP (prOf h x.1) (prOf h y.1))
theorem b7u{vs:List Value}{pl:List Pl}(H:a7o s.heap vs pl):Asks (model prog w) A E s (tuples' true) (ItP vs) (ltP s.heap):=by
 refine⟨fun x y st Q ix iy hk q=>?_,fun x y _ _ h=>?_,fun x y z _ _ _ h1 h2=>?_⟩
 · obtain⟨i,hi,ei⟩:=c3a ix
   obtain⟨j,hj,ej⟩:=c3a iy
   have hl:=H.1
   have a:=c1v (prog:=prog) (w:=w) (A:=A) H (i:=i) (j:=j) (by omega) (by omega) (C:=fun b s'=>s'=s∧b=ltP s.heap x y) ⟨rfl,by
     unfold ltP
     rw[a4w H (i:=i) (v:=x.1) (p:=pl.getD i (0,0)) (by rw[c2e hi,ei]) (by rw[c4b,c2e (show i<pl.length by omega)];rfl),a4w H (i:=j) (v:=y.1) (p:=pl.getD j (0,0)) (by rw[c2e hj,ej]) (by rw[c4b,c2e (show j<pl.length by omega)];rfl)]⟩
   unfold PySem.W.kas_ask at a
   have e1:vs.getD i .none=x.1:=by rw[c4b,c2e hi,ei];rfl
   have e2:vs.getD j .none=y.1:=by rw[c4b,c2e hj,ej];rfl
   rw[e1,e2] at a
   rw[lt'_eq]
   refine wpS_bind (wpS_get ?_)
   refine wpS_bind (wpS_lift ?_)
   rw[hk]
   refine wpAny_attempt (wpAny_mono a (fun b s' hb=>?_) fun _ _ f=>f.elim)
   obtain⟨rfl,rfl⟩:=hb
   exact⟨rfl,wpS_pure q⟩
 · unfold ltP at *
   rw[decide_eq_true_iff] at h
   exact decide_eq_false (by unfold lxP at *;omega)
 · unfold ltP at *
   have h1:=of_decide_eq_false h1
   have h2:=of_decide_eq_false h2
   exact decide_eq_false (by unfold lxP at *;omega)
theorem a9u{a:Addr}{vs:List Value}{pl:List Pl}{n0:Nat}{P:PySem.Fin→Shared→Prop}(hS:s.heap.get? a=some (seqObj "list" vs.toArray n0))(hv:a7o s.heap vs pl)(hnd:pl.Nodup)(h2:2≤pl.length)(hmx:pl.length≤100000)(hQ:∀ (h':Heap) (out:List Value) (c:Nat),(∀ b o,b≠a→s.heap.get? b=some o→h'.get? b=some o)→h'.get? a=some (seqObj "list" out.toArray c)→out.Perm vs→(out.map (prOf s.heap)).Pairwise lxP→P (Fin.done (Flow.ret .none)) { s with heap:=h' }) :
   wpAny (model prog w) A (Builtin.«list.sort» ⟨[.ref a],[]⟩) P E s:=by
 have hl:vs.length=pl.length:=hv.1
 have hva:∀ v∈vs,v≠.ref a:=fun v hm e=>by
   obtain⟨i,hi,ei⟩:=c3a hm
   obtain⟨t,o,t1,t2,n,ev,ht,ct,dt⟩:=hv.2 i v (pl[i]'(by omega (config:={}))) (by rw[c2e hi,ei]) (c2e _)
   rw[e] at ev
   cases ev
   rw[hS] at ht
   cases ht
   exact absurd (show Value.type "list" = Value.type "tuple" from ct) (by decide)
 have sl:pl.length<sizeLine:=a0v (by omega)
 rw[list_sort_plain]
 refine wpAny_bind ?_
 unfold Builtin.List.listItems
 refine wpAny_bind (wpAny_seqItems hS rfl (wpAny_pure ?_))
 refine wpAny_bind ?_
 show wpAny _ _ (updateSeq a (fun _=>#[])) _ _ _
 refine wpAny_updateSeq hS rfl ?_ (by simp;omega) (by simp)
 have hS1:=Heap.get?_update_self (Obj.mapSeq (fun _=>(#[]:Array Value))) hS rfl
 have k1:∀ b o,b≠a→s.heap.get? b=some o→(s.heap.update a (Obj.mapSeq (fun _=>(#[]:Array Value)))).get? b=some o:=fun b o hb e=>(Heap.get?_update_other _ _ (Ne.symm hb)).trans e
 generalize hH1:s.heap.update a (Obj.mapSeq (fun _=>(#[]:Array Value)))=H1 at *
 refine wpAny_bind ?_
 unfold seqEpoch
 refine wpAny_bind (wpAny_load hS1 ?_)
 refine wpAny_pure ?_
 refine wpAny_bind (wpAny_newTuple ?_ (by simp;omega))
 refine wpAny_bind (wpAny_newList ?_)
 refine wpAny_holding ?_
 dsimp only
 have hlt:¬ vs.toArray.size<2:=by simp;omega
 rw[if_neg hlt,if_neg hlt]
 have hS2:((H1.push { cls:=.type "tuple",data:=.seq vs.toArray.toList.toArray }).push { cls:=.type "list",data:=.seq #[] }).get? a=some (Obj.mapSeq (fun _=>(#[]:Array Value)) (seqObj "list" vs.toArray n0)):=Heap.get?_push_of_some _ (Heap.get?_push_of_some _ hS1)
 have k2:∀ b o,b≠a→s.heap.get? b=some o→((H1.push { cls:=.type "tuple",data:=.seq vs.toArray.toList.toArray }).push { cls:=.type "list",data:=.seq #[] }).get? b=some o:=fun b o hb e=>Heap.get?_push_of_some _ (Heap.get?_push_of_some _ (k1 b o hb e))
 generalize ((H1.push { cls:=.type "tuple",data:=.seq vs.toArray.toList.toArray }).push { cls:=.type "list",data:=.seq #[] })=H2 at *
 have hv2:a7o H2 vs pl:=prs_keep hv k2 hva
 obtain⟨fs,f1,f2,f3⟩:=b5w hv2
 refine wpAny_bind (PySem.W.kat_kind (s:={ s with heap:=H2 }) (T:=.type "int") f1 (by omega) (fun v hm=>?_) rfl ?_)
 · obtain⟨i,t,rfl⟩:=f3 v hm
   exact fun A Q E s _ q=>wpAny_pure q
 have e0:(vs.toArray.zip vs.toArray).toList=vs.zip vs:=by simp
 have emap:∀ v∈vs,prOf H2 v=prOf s.heap v:=fun v hm=>by
   obtain⟨i,hi,ei⟩:=c3a hm
   have a1:=a4w hv2 (i:=i) (v:=v) (p:=pl[i]'(by omega (config:={}))) (by rw[c2e hi,ei]) (c2e _)
   have a2:=a4w hv (i:=i) (v:=v) (p:=pl[i]'(by omega (config:={}))) (by rw[c2e hi,ei]) (c2e _)
   rw[a1,a2]
 have hit:∀ x∈vs.zip vs,ItP vs x:=fun x hx=>(mem_zip_self hx).2
 have hfst:(vs.zip vs).map (fun x=>prOf H2 x.1)=pl:=by
   have:(vs.zip vs).map (fun x=>prOf H2 x.1)=((vs.zip vs).map Prod.fst).map (prOf H2):=by rw[c7b];rfl
   rw[this,List.map_fst_zip (c2o _),b5p hv2]
 have hD:Dst (ltP H2) (vs.zip vs):=by
   unfold Dst
   have nd:((vs.zip vs).map (fun x=>prOf H2 x.1)).Nodup:=by rw[hfst];exact hnd
   refine (List.pairwise_map.mp nd).imp fun {x y} h=>?_
   unfold ltP
   rw[decide_eq_true_iff,decide_eq_true_iff]
   unfold lxP
   by_cases e1:(prOf H2 x.1).1=(prOf H2 y.1).1
   · by_cases e2:(prOf H2 x.1).2=(prOf H2 y.1).2
     · exact absurd (Prod.ext e1 e2) h
     · omega
   · omega
 have run:=b3j (b7u (prog:=prog) (w:=w) (A:=A) (E:=E) (s:={ s with heap:=H2 }) hv2) (l₀:=vs.zip vs) (st:=SortSt.mk' (tuples' true) (vs.toArray.zip vs.toArray) #[] 7 none) hit hD ⟨rfl,rfl,by show (vs.toArray.zip vs.toArray).toList.Perm _;rw[e0]⟩ rfl (by rw[List.length_zip];omega) (Q:=fun _ st'=>SB (tuples' true) (vs.zip vs) st'∧(arrOf st').toList.Pairwise (fun x y=>ltP H2 y x=false)) fun st' h1 h2=>⟨h1,h2⟩
 unfold wpS at run
 refine wpAny_bind (wpAny_mono run (fun r s' hr=>?_) (fun _ _ x=>x))
 obtain⟨⟨⟩,st⟩:=r
 obtain⟨rfl,hB,hP⟩:=hr
 dsimp only at hB hP ⊢
 refine wpAny_bind (wpAny_bind (wpAny_load hS2 ?_))
 refine wpAny_pure ?_
 have hsz:(arrOf st).size=pl.length:=by rw[hB.size,List.length_zip];omega
 refine wpAny_bind ?_
 show wpAny _ _ (updateSeq a (fun _=>Array.map (fun x=>x.snd) (arrOf st))) _ _ _
 refine wpAny_updateSeq hS2 rfl ?_ (by simp) (by rw[Array.size_map,hsz];omega)
 have hS3:=Heap.get?_update_self (Obj.mapSeq (fun _=>Array.map (fun x=>x.snd) (arrOf st))) hS2 rfl
 have k3:∀ b o,b≠a→s.heap.get? b=some o→(H2.update a (Obj.mapSeq (fun _=>Array.map (fun x=>x.snd) (arrOf st)))).get? b=some o:=fun b o hb e=>(Heap.get?_update_other _ _ (Ne.symm hb)).trans (k2 b o hb e)
 have hmem:∀ x∈(arrOf st).toList,x.1=x.2∧x.1∈vs:=fun x hx=>mem_zip_self (hB.perm.mem_iff.mp hx)
 obtain⟨out,hout⟩ : ∃ out:List Value,out=(arrOf st).toList.map (fun x:Keyed=>x.2):=⟨_,rfl⟩
 have eo:Array.map (fun x=>x.snd) (arrOf st)=out.toArray:=by
   refine Array.ext' ?_
   rw[Array.toList_map,hout]
 rw[eo] at hS3 k3 ⊢
 generalize H2.update a (Obj.mapSeq (fun _=>out.toArray))=H3 at *
 rw[hB.fail]
 dsimp only
 rw[if_neg (by simp)]
 refine wpAny_pure (hQ H3 out _ k3 hS3 ?_ ?_)
 · rw[hout]
   refine (hB.perm.map _).trans (c6d.of_eq ?_)
   rw[show (fun x:Keyed=>x.2)=Prod.snd from rfl,List.map_snd_zip (c2o _)]
 · rw[hout,c7b,List.pairwise_map]
   have d2:=hD.perm hB.perm
   have both:=hP.and d2
   refine (c7i.and_mem.mp both).imp fun {x y} h=>?_
   obtain⟨hx,hy,h1,h2⟩:=h
   show lxP (prOf s.heap x.2) (prOf s.heap y.2)
   rw[← (hmem x hx).1,← (hmem y hy).1,← emap _ (hmem x hx).2,← emap _ (hmem y hy).2]
   rcases h2 with h2 | h2
   · exact of_decide_eq_true h2
   · rw[h1] at h2;cases h2
end
end Cv
namespace Cv
open PySem PySem.Spec PyProof.Rows L2
section
variable {prog:Program} {w:World} {A:Around} {E:Value→Shared→Prop} {s:Shared}
theorem a8u{a:Addr}{vs:List Value}{n0:Nat}{P:PySem.Fin→Shared→Prop}(hS:s.heap.get? a=some (seqObj "list" vs.toArray n0))(h2:vs.length<2)(hQ:∀ (h':Heap) (c:Nat),(∀ b o,b≠a→s.heap.get? b=some o→h'.get? b=some o)→h'.get? a=some (seqObj "list" vs.toArray c)→P (Fin.done (Flow.ret .none)) { s with heap:=h' }) :
   wpAny (model prog w) A (Builtin.«list.sort» ⟨[.ref a],[]⟩) P E s:=by
 rw[list_sort_plain]
 refine wpAny_bind ?_
 unfold Builtin.List.listItems
 refine wpAny_bind (wpAny_seqItems hS rfl (wpAny_pure ?_))
 refine wpAny_bind ?_
 show wpAny _ _ (updateSeq a (fun _=>#[])) _ _ _
 refine wpAny_updateSeq hS rfl ?_ (by simp;exact c5k (a0v (by omega))) (by simp)
 have hS1:=Heap.get?_update_self (Obj.mapSeq (fun _=>(#[]:Array Value))) hS rfl
 have k1:∀ b o,b≠a→s.heap.get? b=some o→(s.heap.update a (Obj.mapSeq (fun _=>(#[]:Array Value)))).get? b=some o:=fun b o hb e=>(Heap.get?_update_other _ _ (Ne.symm hb)).trans e
 generalize s.heap.update a (Obj.mapSeq (fun _=>(#[]:Array Value)))=H1 at *
 refine wpAny_bind ?_
 unfold seqEpoch
 refine wpAny_bind (wpAny_load hS1 ?_)
 refine wpAny_pure ?_
 refine wpAny_bind (wpAny_newTuple ?_ (by simp;exact c5k (a0v (by omega))))
 refine wpAny_bind (wpAny_newList ?_)
 refine wpAny_holding ?_
 dsimp only
 have hlt:vs.toArray.size<2:=by simp;omega
 rw[if_pos hlt,if_pos hlt]
 have hS2:((H1.push { cls:=.type "tuple",data:=.seq vs.toArray.toList.toArray }).push { cls:=.type "list",data:=.seq #[] }).get? a=some (Obj.mapSeq (fun _=>(#[]:Array Value)) (seqObj "list" vs.toArray n0)):=Heap.get?_push_of_some _ (Heap.get?_push_of_some _ hS1)
 have k2:∀ b o,b≠a→s.heap.get? b=some o→((H1.push { cls:=.type "tuple",data:=.seq vs.toArray.toList.toArray }).push { cls:=.type "list",data:=.seq #[] }).get? b=some o:=fun b o hb e=>Heap.get?_push_of_some _ (Heap.get?_push_of_some _ (k1 b o hb e))
 generalize ((H1.push { cls:=.type "tuple",data:=.seq vs.toArray.toList.toArray }).push { cls:=.type "list",data:=.seq #[] })=H2 at *
 refine wpAny_bind (wpAny_pure ?_)
 refine wpAny_bind (wpAny_pure ?_)
 dsimp only
 refine wpAny_bind (wpAny_bind (wpAny_load hS2 ?_))
 refine wpAny_pure ?_
 have eo:Array.map (fun x=>x.snd) (arrOf (SortSt.mk' general' (vs.toArray.zip vs.toArray) #[] 7 none))=vs.toArray:=by
   show Array.map (fun x=>x.snd) (vs.toArray.zip vs.toArray)=_
   refine Array.ext' ?_
   rw[Array.toList_map,Array.toList_zip,List.map_snd_zip (c2o _)]
 refine wpAny_bind ?_
 show wpAny _ _ (updateSeq a (fun _=>Array.map (fun x=>x.snd) (arrOf (SortSt.mk' general' (vs.toArray.zip vs.toArray) #[] 7 none)))) _ _ _
 rw[eo]
 refine wpAny_updateSeq hS2 rfl ?_ (by simp) (by simp;exact Nat.le_succ_of_le (c5k (a0v (by omega))))
 have hS3:=Heap.get?_update_self (Obj.mapSeq (fun _=>vs.toArray)) hS2 rfl
 have k3:∀ b o,b≠a→s.heap.get? b=some o→(H2.update a (Obj.mapSeq (fun _=>vs.toArray))).get? b=some o:=fun b o hb e=>(Heap.get?_update_other _ _ (Ne.symm hb)).trans (k2 b o hb e)
 generalize H2.update a (Obj.mapSeq (fun _=>vs.toArray))=H3 at *
 show wpAny _ _ (if _ then _ else _) _ _ _
 rw[if_neg (by simp)]
 exact wpAny_pure (hQ H3 _ k3 hS3)
end
end Cv
namespace Cv
open PySem PySem.Spec PyProof.Rows L2
section
variable {prog:Program} {w:World} {A:Around} {E:Value→Shared→Prop} {s:Shared}
theorem b3o{l:Addr}{vs:List Value}{pl:List Pl}{Q:Value→Shared→Prop}(hl:s.heap.IsList l vs.toArray)(hv:a7o s.heap vs pl)(hnd:pl.Nodup)(hmx:pl.length≤100000)(hQ:∀ (hA h':Heap) (out:List Value) (n:Nat),(∀ b o,s.heap.get? b=some o→hA.get? b=some o)→(∀ b o,hA.get? b=some o→h'.get? b=some o)→h'.get? hA.objs.size=some (seqObj "list" out.toArray n)→out.Perm vs→(out.map (prOf s.heap)).Pairwise lxP→Q (.ref hA.objs.size) { s with heap:=h' }) :
   wpAny (model prog w) A (call (.builtin "sorted") [.ref l]) Q E s:=by
 have hl2:vs.length=pl.length:=hv.1
 have sl:pl.length<sizeLine:=a0v (by omega)
 refine Calls.call_function_entry kind_sorted plain_sorted entry_sorted (args_sorted1 _) ?_
 unfold Builtin.«sorted»
 refine wpAny_bind (m:=checkCount "sorted" 1 1 _) (wpAny_pure ?_)
 refine wpAny_bind (collect_list hl ?_ (by omega))
 have k0:∀ b o,s.heap.get? b=some o→((s.heap.push (seqObj "list" #[] 0)).update s.heap.objs.size (Obj.mapSeq (·++vs.toArray))).get? b=some o:=fun b o e=>(Heap.get?_update_other _ _ (Ne.symm (c3e (Heap.lt_size e)))).trans (Heap.get?_push_of_some _ e)
 generalize ((s.heap.push (seqObj "list" #[] 0)).update s.heap.objs.size (Obj.mapSeq (·++vs.toArray)))=hA at *
 refine wpAny_bind (wpAny_newList ?_ (by omega))
 have hS:(hA.push { cls:=.type "list",data:=.seq vs.toArray }).get? hA.objs.size=some (seqObj "list" vs.toArray 0):=Heap.get?_push_size _ rfl
 have k1:∀ b o,s.heap.get? b=some o→(hA.push { cls:=.type "list",data:=.seq vs.toArray }).get? b=some o:=fun b o e=>Heap.get?_push_of_some _ (k0 b o e)
 have hv1:a7o (hA.push { cls:=.type "list",data:=.seq vs.toArray }) vs pl:=⟨hv.1,fun i v p e1 e2=>by
   obtain⟨t,o,t1,t2,n,ev,ht,ct,dt⟩:=hv.2 i v p e1 e2
   exact⟨t,o,t1,t2,n,ev,k1 t o ht,ct,dt⟩⟩
 have emap:∀ v∈vs,prOf (hA.push { cls:=.type "list",data:=.seq vs.toArray }) v=prOf s.heap v:=fun v hm=>by
   obtain⟨i,hi,ei⟩:=c3a hm
   have a1:=a4w hv1 (i:=i) (v:=v) (p:=pl[i]'(by omega (config:={}))) (by rw[c2e hi,ei]) (c2e _)
   have a2:=a4w hv (i:=i) (v:=v) (p:=pl[i]'(by omega (config:={}))) (by rw[c2e hi,ei]) (c2e _)
   rw[a1,a2]
 by_cases h2:2≤pl.length
 · refine wpAny_bind (wpAny_holding (wpAny_call_entry slot_list_sort ⟨_,hS,rfl⟩ entry_list_sort (a9u hS hv1 hnd h2 hmx fun h' out c k2 e1 e2 e3=>⟨_,rfl,wpAny_pure ⟨_,rfl,?_⟩⟩) (args_list_sort _)))
   refine hQ hA h' out c k0 (fun b o e=>k2 b o (c3e (Heap.lt_size e)) (Heap.get?_push_of_some _ e)) e1 e2 ?_
   rw[show out.map (prOf s.heap)=out.map (prOf (hA.push { cls:=.type "list",data:=.seq vs.toArray })) from c5w fun v hm=>(emap v (e2.mem_iff.mp hm)).symm]
   exact e3
 · refine wpAny_bind (wpAny_holding (wpAny_call_entry slot_list_sort ⟨_,hS,rfl⟩ entry_list_sort (a8u hS (by omega) fun h' c k2 e1=>⟨_,rfl,wpAny_pure ⟨_,rfl,?_⟩⟩) (args_list_sort _)))
   refine hQ hA h' vs c k0 (fun b o e=>k2 b o (c3e (Heap.lt_size e)) (Heap.get?_push_of_some _ e)) e1 (c6d.refl _) ?_
   rcases vs with _ | ⟨x,_ | ⟨y,r⟩⟩
   · exact .nil
   · exact c6n _ _
   · simp at hl2;omega
end
section
variable {X:Cx}
theorem b7q(K:c2f)(hK:X.K=K:=by rfl):a5g X (.builtin "sorted") (fun xs H Q=>∃ (a:Addr) (us:List V) (pl:List Pl),xs=[.ref a]∧SqL K H a us∧PlsV H us pl∧pl.Nodup∧pl.length≤100000∧
   ∀ (l:Addr) (vs:List V) (qs:List Pl),H l=none→qs.Perm pl→qs.Pairwise lxP→PlsV H vs qs→Q (.ref l) (upd H l (.lst vs))):=by
 subst hK
 intro pins s σ H xs us' Q I rv h
 obtain⟨a,us,pl,rfl,hS,hP,hnd,hmx,q⟩:=h
 obtain⟨u,rfl,ru⟩:=a5h rv
 cases ru
 obtain⟨its,rits,pll,hz⟩:=I.list hS
 have l1:=hP.len
 have l2:=rits.length
 have hget:∀ (i:Nat) v p,its[i]?=some v→pl[i]?=some p→∃ b,v=.ref b∧H b=some (.tup [.int p.1,.int p.2]):=fun i v p e1 e2=>by
   obtain⟨x,ex⟩ : ∃ x,us[i]?=some x:=⟨us[i]'(by have:=(c2q.mp e2).1;omega),c2e _⟩
   obtain⟨T,rfl,hT⟩:=hP.get i x p ex e2
   obtain⟨v',e',rr⟩:=rits.get ex
   rw[e1] at e'
   cases e'
   cases rr
   exact⟨T,rfl,hT⟩
 have hv:a7o s.heap its pl:=⟨by omega,fun i v p e1 e2=>by
   obtain⟨b,rfl,hb⟩:=hget i v p e1 e2
   obtain⟨_,ia,ra,oa,a1,a2,na,a3⟩:=(show a5f X.prog X.w H s.heap b (.tup [.int p.1,.int p.2]) from I.hok _ _ hb)
   obtain⟨w1,w2,rfl,⟨t1,rfl⟩,⟨t2,rfl⟩⟩:=b0r ra
   exact⟨b,oa,t1,t2,na,rfl,a1,a2,a3⟩⟩
 refine b3o pll.isList hv hnd hmx fun hA h' out n k1 k2 e1 e2 e3=>?_
 have I1:Inv X pins σ H { s with heap:=hA,toks:=s.toks }:=I.kept k1
 have hmem:∀ v∈out,∃ b,v=.ref b∧H b=some (.tup [.int (prOf s.heap v).1,.int (prOf s.heap v).2]):=fun v hv'=>by
   obtain⟨j,hj,ej⟩:=c3a (e2.mem_iff.mp hv')
   have hj2:j<pl.length:=by omega
   have e4:=a4w hv (i:=j) (v:=v) (p:=pl[j]'hj2) (by rw[c2e hj,ej]) (c2e _)
   obtain⟨b,eb,hb⟩:=hget j v (pl[j]'hj2) (by rw[c2e hj,ej]) (c2e _)
   exact⟨b,eb,by rw[e4];exact hb⟩
 obtain⟨ws,hw1,hw2⟩ : ∃ ws:List V,Vals ws out∧PlsV H ws (out.map (prOf s.heap)):=by
   clear e1 e2 e3
   induction out with
   | nil=>exact⟨[],.nil,rfl,fun i v p e=>by simp at e⟩
   | cons v out ih=>
     obtain⟨b,rfl,hb⟩:=hmem v (by simp)
     obtain⟨ws,w1,w2⟩:=ih fun x hx=>hmem x (c3q _ hx)
     refine⟨.ref b::ws,.cons rfl w1,⟨by simp[w2.len],fun i x p e1 e2=>?_⟩⟩
     cases i with
     | zero=>cases e1;cases e2;exact⟨b,rfl,hb⟩
     | succ i=>exact w2.get i x p e1 e2
 have hpm:(out.map (prOf s.heap)).Perm pl:=by
   have:=e2.map (prOf s.heap)
   rwa [b5p hv] at this
 refine⟨.ref hA.objs.size,_,I1.laid (a:=hA.objs.size) (o:=.lst ws) (t':=s.toks) k2 (c2o _) ⟨by rw[hw2.len,hpm.length_eq];exact c5k (a0v (by omega)),out,n,hw1,e1⟩,rfl,q _ ws _ I1.fresh hpm e3 hw2⟩
end
end Cv
namespace Cv
open PySem PySem.Spec PyProof.Rows L2
section
variable {X:Cx}
theorem b6s{tg elt iter tg2 iter2 tg3 iter3:Expr}{os:List Str}{pos:Pos}{scope:Scope}{wi wi2 wi3:TI}{g g2 g3:TG}{te:TE}{caps:List (Nat×Str)}(N:List Str)(sc:Scope)(hi:PIi X tg iter wi)(hg:∀ cl C s0 H0 fp,PGi (a0h X scope cl (os++caps.map (·.2)) C s0 H0 fp) tg g)(hi2:∀ cl C s0 H0 fp,PIi (a0h X scope cl (os++caps.map (·.2)) C s0 H0 fp) tg2 iter2 wi2)(hg2:∀ cl C s0 H0 fp,PGi (a0h X scope cl (os++caps.map (·.2)) C s0 H0 fp) tg2 g2)(hi3:∀ cl C s0 H0 fp,PIi (a0h X scope cl (os++caps.map (·.2)) C s0 H0 fp) tg3 iter3 wi3)(hg3:∀ cl C s0 H0 fp,PGi (a0h X scope cl (os++caps.map (·.2)) C s0 H0 fp) tg3 g3)(he:∀ cl C s0 H0 fp,PEi (a0h X scope cl (os++caps.map (·.2)) C s0 H0 fp) elt te)(ok:a3v N sc scope caps=true)(hN:X.N=N:=by rfl)(hsc:X.env.scope=sc:=by rfl)(hc:X.calm=true:=by rfl)(hfs:∀ v,foldedSetIterable iter X.env v=pure v:=by intro _;rfl)(hfs2:∀ cl C v,foldedSetIterable iter2 (compEnvC scope cl C X.env) v=pure v:=by intro _ _ _;rfl)(hfs3:∀ cl C v,foldedSetIterable iter3 (compEnvC scope cl C X.env) v=pure v:=by intro _ _ _;rfl) :
 PEi X (.ListComp elt [⟨tg,iter,[],0⟩,⟨tg2,iter2,[],0⟩,⟨tg3,iter3,[],0⟩] scope pos) (b4x os.length wi g wi2 g2 wi3 g3 te (caps.map (·.1))):=by with_unfolding_all exact b9n (N:=N) (sc:=sc) (hi:=hi) (hg:=hg) (hi2:=hi2) (hg2:=hg2) (hi3:=hi3) (hg3:=hg3) (he:=he) (ok:=ok) (hN:=hN) (hsc:=hsc) (hc:=hc) (hfs:=hfs) (hfs2:=hfs2) (hfs3:=hfs3)
end
def bel(p:Pl):List Pl:=[(2*p.1,2*p.2),(2*p.1,2*p.2+1),(2*p.1+1,2*p.2),(2*p.1+1,2*p.2+1)]
def below(pl:List Pl):List Pl:=pl.flatMap bel
theorem a5e(pl:List Pl):(below pl).length=4*pl.length:=by
 induction pl with
 | nil=>rfl
 | cons p r ih=>
   show (bel p++below r).length=_
   rw[c2k,ih,c3r]
   show 4+_=_
   omega
theorem b4p{p q:Pl}:q∈bel p↔q.1 / 2=p.1∧q.2 / 2=p.2:=by
 unfold bel
 simp only[c2x,c3u,or_false,Prod.ext_iff]
 omega
theorem a5d{pl:List Pl}{q:Pl}:q∈below pl↔(q.1 / 2,q.2 / 2)∈pl:=by
 unfold below
 rw[List.mem_flatMap]
 constructor
 · rintro⟨p,hp,hq⟩
   obtain⟨h1,h2⟩:=b4p.mp hq
   rw[h1,h2];exact hp
 · intro h
   exact⟨_,h,b4p.mpr ⟨rfl,rfl⟩⟩
theorem c1q(p:Pl):(bel p).Nodup:=by
 unfold bel
 simp only[c6r,c2x,c3u,or_false,Prod.ext_iff,not_false_eq_true,List.nodup_nil,and_true]
 omega
theorem a6g{pl:List Pl}(h:pl.Nodup):(below pl).Nodup:=by
 induction pl with
 | nil=>exact List.nodup_nil
 | cons p r ih=>
   obtain⟨h1,h2⟩:=c6r.mp h
   show (bel p++below r).Nodup
   refine List.nodup_append.mpr ⟨c1q p,ih h2,fun a ha b hb e=>?_⟩
   subst e
   obtain⟨e1,e2⟩:=b4p.mp ha
   have:=a5d.mp hb
   rw[e1,e2] at this
   exact h1 this
theorem b7s(pl:List Pl)(p:Pl):below (pl++[p])=below pl++bel p:=by unfold below;rw[c7j];simp
end Cv
namespace Cv
open PySem PySem.Spec PyProof.Rows L2
def b8o(K:c2f):Sp:=fun vs H Q _=>∃ (a:Addr) (us:List V) (pl:List Pl),vs=[.ref a]∧H a=some (.lst us)∧PlsV H us pl∧pl.Nodup∧pl.length≤1000∧(∀ p∈pl,Sz 100 p.1∧Sz 100 p.2)∧
 ∀ (l:Addr) (vs:List V) (qs:List Pl) (H':Hp),Same H H'→H l=none→H' l=some (.lst vs)→PlsV H' vs qs→qs.Perm (below pl)→qs.Pairwise lxP→Q (.ref l) H'
theorem a7v{H:Hp}{vs:List V}{pl:List Pl}{t:Addr}{p:Pl}(h:PlsV H vs pl)(ht:H t=some (.tup [.int p.1,.int p.2])):PlsV H (vs++[.ref t]) (pl++[p]):=by
 refine⟨by simp[h.len],fun i v q e1 e2=>?_⟩
 have hl:=h.len
 by_cases hi:i<vs.length
 · rw[c2v hi] at e1
   rw[c2v (by omega)] at e2
   exact h.get i v q e1 e2
 · rw[c2w (by omega)] at e1 e2
   rw[hl] at e1
   cases hz:i - pl.length with
   | zero=>rw[hz] at e1 e2;cases e1;cases e2;exact⟨t,rfl,ht⟩
   | succ k=>rw[hz] at e1;simp at e1
theorem b7t{K:c2f}{a:Addr}{us:List V}{pl:List Pl}{H1:Hp}{g:TG}{wi:TI}{te:TE}{cs:L2.St}{Q:VK}(hS:H1 a=some (.lst us))(hP:PlsV H1 us pl)(hn:pl.length≤1000)(hg:∀ (v:V) (p:Pl) (o1 o2 o3 o4:Option V) (H2:Hp) (R:L2.St→Hp→Prop),p∈pl→RwV H2 v p.1 p.2→R ([some (.int p.1),some (.int p.2),o3,o4]++cs) H2→g v ([o1,o2,o3,o4]++cs) H2 R)(hw:∀ (σ:L2.St) (H2:Hp) (R:It→Hp→Prop),(∀ t,H2 t=none→R (Itt K t) (upd H2 t (.tup [.int 0,.int 1])))→wi σ H2 R)(ht:∀ (p:Pl) (x y:Int) (H2:Hp) (R:VK),p∈pl→(∀ t,H2 t=none→R (.ref t) (upd H2 t (.tup [.int (2*p.1+x),.int (2*p.2+y)])))→te ([some (.int p.1),some (.int p.2),some (.int x),some (.int y)]++cs) H2 R)(hq:∀ D ys H2,H1 D=none→Same H1 H2→H2 D=some (.lst ys)→PlsV H2 ys (below pl)→Q (.ref D) H2) :
   b3h 4 (Itl K a) H1 g wi (a3l 2) wi (a3l 3) te cs Q:=by
 intro D hD
 have hul:=hP.len
 refine⟨fun i m ys H2=>m=pl.length - i∧i≤pl.length∧Same H1 H2∧H2 D=some (.lst ys)∧PlsV H2 ys (below (pl.take i)),⟨pl.length,rfl,c4d _,Same.new hD,a0d,by simp[below],fun i v p e=>by simp at e⟩,?_⟩
 rintro i m ys H2 ⟨rfl,hi,s2,d2,r2⟩
 by_cases hlt:i<pl.length
 · have ep:pl[i]?=some pl[i]:=c2e hlt
   obtain⟨b,eb,hb⟩:=(hP.same s2).at ep
   have hmem:pl[i]∈pl:=c4c hlt
   have eS:pl.take (i+1)=pl.take i++[pl[i]]:=by rw[List.take_succ,ep];rfl
   have hbl:(below (pl.take i)).length≤4000:=by rw[a5e,c3j];omega
   generalize pl[i]=p at *
   refine .inr ⟨⟨us,_,SqL.of (s2 _ _ hS),eb⟩,fun x H' y own ho=>?_⟩
   obtain⟨rfl,hy⟩:=y
   have hx:=hy us (SqL.of (s2 _ _ hS))
   rw[eb] at hx
   obtain rfl:V.ref b=x:=c2u.inj hx
   obtain⟨o1,o2,o3,o4,rfl⟩ : ∃ o1 o2 o3 o4,own=[o1,o2,o3,o4]:=by
     match own,ho with
     | [o1,o2,o3,o4],_=>exact⟨o1,o2,o3,o4,rfl⟩
   refine hg (.ref b) p o1 o2 o3 o4 H' _ hmem ⟨b,rfl,hb⟩ ⟨[some (.int p.1),some (.int p.2),o3,o4],rfl,rfl,hw _ _ _ fun t ht0=>?_⟩
   have ntD:t≠D:=fun z=>by rw[z,d2] at ht0;cases ht0
   refine⟨fun j m2 ys2 own2 H6=>m2=2 - j∧j≤2∧(∃ o3 o4,own2=[some (.int p.1),some (.int p.2),o3,o4])∧Same H1 H6∧H6 t=some (.tup [.int 0,.int 1])∧H6 D=some (.lst ys2)∧PlsV H6 ys2 (below (pl.take i)++(bel p).take (2*j)),
     ⟨2,rfl,by decide,⟨o3,o4,rfl⟩,s2.trans (Same.new ht0),a0d,by rw[a0j (Ne.symm ntD)];exact d2,by simpa using r2.same (Same.new ht0)⟩,?_⟩
   rintro j m2 ys2 own2 H6 ⟨rfl,hj,⟨o3',o4',rfl⟩,s6,t6,d6,r6⟩
   by_cases hj2:j<2
   · refine .inr ⟨⟨_,_,SqT.of t6,c2e (by exact hj2)⟩,fun x2 H7 y2 ho2=>?_⟩
     obtain⟨rfl,hy2⟩:=y2
     have hx2:=hy2 _ (SqT.of t6)
     have ex2:x2=.int (j:Int):=by
       have hj3:j=0∨j=1:=by omega
       rcases hj3 with rfl | rfl
       · exact (c2u.inj hx2).symm
       · exact (c2u.inj hx2).symm
     subst ex2
     refine⟨[some (.int p.1),some (.int p.2),some (.int (j:Int)),o4'],rfl,rfl,hw _ _ _ fun u hu0=>?_⟩
     have nuD:u≠D:=fun z=>by rw[z,d6] at hu0;cases hu0
     have nut:u≠t:=fun z=>by rw[z,t6] at hu0;cases hu0
     refine⟨fun l m3 ys3 own4 H9=>m3=2 - l∧l≤2∧(∃ o4,own4=[some (.int p.1),some (.int p.2),some (.int (j:Int)),o4])∧Same H1 H9∧H9 t=some (.tup [.int 0,.int 1])∧H9 u=some (.tup [.int 0,.int 1])∧H9 D=some (.lst ys3)∧PlsV H9 ys3 (below (pl.take i)++(bel p).take (2*j+l)),
       ⟨2,rfl,by decide,⟨o4',rfl⟩,s6.trans (Same.new hu0),by rw[a0j (Ne.symm nut)];exact t6,a0d,by rw[a0j (Ne.symm nuD)];exact d6,r6.same (Same.new hu0)⟩,?_⟩
     rintro l m3 ys3 own4 H9 ⟨rfl,hl,⟨o4'',rfl⟩,s9,t9,u9,d9,r9⟩
     by_cases hl2:l<2
     · refine .inr ⟨⟨_,_,SqT.of u9,c2e (by exact hl2)⟩,fun x3 H10 y3 ho3=>?_⟩
       obtain⟨rfl,hy3⟩:=y3
       have hx3:=hy3 _ (SqT.of u9)
       have ex3:x3=.int (l:Int):=by
         have hl3:l=0∨l=1:=by omega
         rcases hl3 with rfl | rfl
         · exact (c2u.inj hx3).symm
         · exact (c2u.inj hx3).symm
       subst ex3
       refine⟨[some (.int p.1),some (.int p.2),some (.int (j:Int)),some (.int (l:Int))],rfl,rfl,ht p j l _ _ hmem fun q hq0=>?_⟩
       have nqD:q≠D:=fun z=>by rw[z,d9] at hq0;cases hq0
       have nqt:q≠t:=fun z=>by rw[z,t9] at hq0;cases hq0
       have nqu:q≠u:=fun z=>by rw[z,u9] at hq0;cases hq0
       have ntD:t≠D:=fun z=>by rw[z,d9] at t9;cases t9
       have nuD:u≠D:=fun z=>by rw[z,d9] at u9;cases u9
       have hdq:(upd H10 q (.tup [.int (2*p.1+(j:Int)),.int (2*p.2+(l:Int))])) D=some (.lst ys3):=by rw[a0j (Ne.symm nqD)];exact d9
       have hy9:ys3.length≤4004:=by
         rw[r9.len,c2k,c3j]
         have:(bel p).length=4:=rfl
         omega
       refine⟨hdq,a0v (by omega),2 - (l+1),by omega,rfl,by omega,⟨_,rfl⟩,fun c o e=>?_,?_,?_,a0d,?_⟩
       · rw[a0j (a0l e hD),a0j (fun z=>by rw[z] at e;have:=s9 _ _ e;rw[hq0] at this;cases this)]
         exact s9 _ _ e
       · rw[a0j ntD,a0j (Ne.symm nqt)];exact t9
       · rw[a0j nuD,a0j (Ne.symm nqu)];exact u9
       · have r10:PlsV (upd (upd H10 q (.tup [.int (2*p.1+(j:Int)),.int (2*p.2+(l:Int))])) D (.lst (ys3++[.ref q]))) ys3 (below (pl.take i)++(bel p).take (2*j+l)):=(r9.same (Same.new hq0)).tup (Tup.lst hdq)
         have:=a7v (p:=(2*p.1+(j:Int),2*p.2+(l:Int))) r10 (t:=q) (by rw[a0j nqD,a0d])
         have e4:below (pl.take i)++(bel p).take (2*j+(l+1))=below (pl.take i)++(bel p).take (2*j+l)++[(2*p.1+(j:Int),2*p.2+(l:Int))]:=by
           rw[c3f]
           congr 1
           have hj3:j=0∨j=1:=by omega
           have hl3:l=0∨l=1:=by omega
           rcases hj3 with rfl | rfl<;>rcases hl3 with rfl | rfl<;>simp[bel]
         rw[e4];exact this
     · have hl3:l=2:=by omega
       subst hl3
       exact .inl ⟨⟨_,SqT.of u9,by show 2≤2;decide⟩,2 - (j+1),by omega,rfl,by omega,⟨_,_,rfl⟩,s9,t9,d9,by rw[show 2*(j+1)=2*j+2 by omega];exact r9⟩
   · have hj3:j=2:=by omega
     subst hj3
     refine .inl ⟨⟨_,SqT.of t6,by show 2≤2;decide⟩,pl.length - (i+1),by omega,rfl,by omega,s6,d6,?_⟩
     rw[eS,b7s]
     exact r6
 · have e:i=pl.length:=by omega
   subst e
   rw[List.take_length] at r2
   exact .inl ⟨⟨us,SqL.of (s2 _ _ hS),by omega⟩,hq D ys H2 hD s2 d2 r2⟩
end Cv
namespace Cv
open PySem PySem.Spec PyProof.Rows L2
section
variable {X:Cx} {pos:Pos} {o:Expr} {to:TE}
def gFld(K:c2f)(to:TE)(f:Str):TG:=fun v σ H Q=>to σ H fun x H2=>∃ a C dx fs,x=.ref a∧H2 a=some (.ins C dx fs)∧Cls K C∧a2c K C f∧fs.length<1000∧Q σ (upd H2 a (.ins C dx (putF f v fs)))
theorem pg_fld{f:Str}(ho:PE X o to):PG X (.Attribute o f pos) (gFld X.K to f):=by
 intro pins s σ H v u Q I r h
 refine wpAny_bind (wpAny_holding (thn (ho pins s σ H _ I h) fun ov s1 ⟨x,H1,I1,rx,a,C,dx,fs,ex,ea,c,n,l,q⟩=>?_))
 subst ex
 obtain rfl:ov=Value.ref a:=rx
 refine wpAny_bind (wpAny_standAt (wpAny_bind (wpAny_holding (b0e I1 ea c n l r fun s3 I3=>wpAny_release ⟨σ,_,I3,q⟩))))
theorem a6x{f:Str}(K:c2f)(ho:PEi X o to)(hK:X.K=K:=by rfl):PGi X (.Attribute o f pos) (gFld K to f):=by subst hK;with_unfolding_all exact pg_fld ho
end
end Cv
namespace Cv
open PySem PySem.Spec PyProof.Rows L2
def grF(R:Int)(lx ly lo lt:Addr):List (Str×V):=putF "others" (.ref lt) (putF "ones" (.ref lo) (putF "y_bottoms" (.ref ly) (putF "x_bottoms" (.ref lx) (putF "room" (.int R) []))))
def Ins(H H':Hp):Prop:=(∀ b xs,H b=some (.lst xs)→H' b=some (.lst xs))∧Tup H H'
theorem Ins.upd{H:Hp}{x C dx:Addr}{fs:List (Str×V)}{o:HO}(h:H x=some (.ins C dx fs)):Ins H (upd H x o):=
 ⟨fun b xs e=>by rw[a0j (fun z=>by rw[z,h] at e;cases e)];exact e,fun b xs e=>by rw[a0j (fun z=>by rw[z,h] at e;cases e)];exact e⟩
theorem Ins.trans{H H1 H2:Hp}(a:Ins H H1)(b:Ins H1 H2):Ins H H2:=⟨fun c xs e=>b.1 c xs (a.1 c xs e),a.2.trans b.2⟩
theorem Ins.same{H H':Hp}(s:Same H H'):Ins H H':=⟨fun b xs e=>s _ _ e,s.tup⟩
theorem AxV.ins{H H':Hp}{v:V}{n:Nat}{tops bs:List Int}(h:AxV H v n tops bs)(i:Ins H H'):AxV H' v n tops bs:=by
 obtain⟨a,lt,lb,e,h1,h2,h3,h4⟩:=h
 exact⟨a,lt,lb,e,i.2 _ _ h1,i.1 _ _ h2,i.1 _ _ h3,h4⟩
def ButX(x:Addr)(H H':Hp):Prop:=∀ b o,b≠x→H b=some o→H' b=some o
theorem ButX.same{x:Addr}{H H':Hp}(s:Same H H'):ButX x H H':=fun b o _ e=>s b o e
theorem ButX.upd{x:Addr}{H:Hp}{o:HO}:ButX x H (upd H x o):=fun b q hb e=>by rw[a0j hb];exact e
theorem ButX.trans{x:Addr}{H H1 H2:Hp}(a:ButX x H H1)(b:ButX x H1 H2):ButX x H H2:=fun c o hc e=>b c o hc (a c o hc e)
theorem ButX.back{x:Addr}{H H':Hp}{o:HO}(a:ButX x H H')(h:H x=some o):Same H (L2.upd H' x o):=fun b q e=>by
 by_cases z:b=x
 · subst z;rw[a0d];rw[← e,h]
 · rw[a0j z];exact a b q z e
theorem CsV.ins{H H':Hp}{D:Option Addr}{ys:List V}{css:List (List Pl)}(h:CsV H D ys css)(s:Ins H H'):CsV H' D ys css:=
 ⟨h.len,fun i v c e1 e2=>by obtain⟨l,us,r1,r2,r3,r4⟩:=h.get i v c e1 e2;exact⟨l,us,r1,r2,s.1 _ _ r3,r4.tup s.2⟩⟩
theorem ButX.free{x l:Addr}{H H':Hp}{o:HO}(a:ButX x H H')(hx:H' x=some o)(h:H' l=none):H l=none:=by
 cases e:H l with
 | none=>rfl
 | some q=>
   by_cases z:l=x
   · rw[z,hx] at h;cases h
   · rw[a l q z e] at h;cases h
theorem wc_take{R:Int}{t1 t2 b1 b2:List Int}{ps qs:List Pt}(h:toP (a1b b1*R) (a1b b2*R) (wcI R t1 t2)=ps++qs):toP (a1b b1*R) (a1b b2*R) ((wcI R t1 t2).take ps.length)=ps∧toP (a1b b1*R) (a1b b2*R) ((wcI R t1 t2).drop ps.length)=qs:=by
 unfold toP at *
 rw[List.map_take,List.map_drop,h]
 simp
theorem plsdrop{H:Hp}{vs:List V}{pl:List Pl}(h:PlsV H vs pl)(n:Nat):PlsV H (vs.drop n) (pl.drop n):=by
 refine⟨by rw[c3k,c3k,h.len],fun i v p e1 e2=>?_⟩
 rw[c6a] at e1 e2
 exact h.get _ v p e1 e2
theorem cs_one{H:Hp}{l:Addr}{us:List V}{c:List Pl}(h:H l=some (.lst us))(hP:PlsV H us c):CsV H none [.ref l] [c]:=⟨rfl,fun i v e e1 e2=>by
 cases i with
 | zero=>cases e1;cases e2;exact⟨l,us,rfl,(fun z=>by cases z),h,hP⟩
 | succ i=>simp at e1⟩
theorem b6a(R:Int)(lx ly lo lt l:Addr):putF "ones" (.ref l) (grF R lx ly lo lt)=grF R lx ly l lt:=by
 first | rfl | kernel_rfl
theorem b7d(R:Int)(lx ly lo lt l:Addr):putF "others" (.ref l) (grF R lx ly lo lt)=grF R lx ly lo l:=by
 first | rfl | kernel_rfl
theorem c0y(R:Int)(lx ly lo lt:Addr):(grF R lx ly lo lt).length=5:=by
 first | rfl | kernel_rfl
theorem a7h(R:Int)(lx ly lo lt:Addr):(grF R lx ly lo lt).lookup (Str.ofString "ones")=some (.ref lo):=by
 unfold grF;rw[a0q,if_neg (by decide),a0q,if_pos rfl]
theorem a5w(R:Int)(lx ly lo lt:Addr):(grF R lx ly lo lt).lookup (Str.ofString "others")=some (.ref lt):=by
 unfold grF;rw[a0q,if_pos rfl]
theorem b2o(R:Int)(lx ly lo lt:Addr):(grF R lx ly lo lt).lookup (Str.ofString "room")=some (.int R):=by
 unfold grF;rw[a0q,if_neg (by decide),a0q,if_neg (by decide),a0q,if_neg (by decide),a0q,if_neg (by decide),a0q,if_pos rfl]
theorem c1a(R:Int)(lx ly lo lt:Addr):(grF R lx ly lo lt).lookup (Str.ofString "x_bottoms")=some (.ref lx):=by
 unfold grF;rw[a0q,if_neg (by decide),a0q,if_neg (by decide),a0q,if_neg (by decide),a0q,if_pos rfl]
theorem c0z(R:Int)(lx ly lo lt:Addr):(grF R lx ly lo lt).lookup (Str.ofString "y_bottoms")=some (.ref ly):=by
 unfold grF;rw[a0q,if_neg (by decide),a0q,if_neg (by decide),a0q,if_pos rfl]
def b8n(K:c2f)(C:Addr):Sp:=fun vs H Q _=>∃ (g dx lx ly lo lt:Addr) (R:Int) (yo yt:List V) (As Bs:List (List Pl)),vs=[.ref g]∧H g=some (.ins C dx (grF R lx ly lo lt))∧H lo=some (.lst yo)∧CsV H none yo As∧H lt=some (.lst yt)∧CsV H none yt Bs∧As.length≤1000∧(∀ c∈As,c.length≤1000)∧Bs.length≤1000∧(∀ c∈Bs,c.length≤1000)∧
 ∀ (lo' lt':Addr) (yo' yt':List V) (H':Hp),Same H H'→H lo'=none→H lt'=none→H' lo'=some (.lst yo')→CsV H' none yo' (a1h As)→H' lt'=some (.lst yt')→CsV H' none yt' (a1h Bs)→Q .non (upd H' g (.ins C dx (grF R lx ly lo' lt')))
end Cv
namespace Cv
open PySem PySem.Spec PyProof.Rows L2
def gC(css:List (List Pl))(i:Int):List Pl:=(css[i.toNat]?).getD []
def Lined(X Y R:Int)(A B:List Pl)(q1 q2 q3:Rat):Prop:=∃ w p q:Pl,q1=((w.1*X:Int):Rat)∧q2=((w.2*Y:Int):Rat)∧q3=c2i (dt w p+dt w q) (2*R)∧p∈A∧q∈B∧dt w p<dt w q∧(∀ p'∈A,dt w p'≤dt w p)∧(∀ q'∈B,dt w q≤dt w q')
def Meet(A B:List Pl):Prop:=∃ ss:List Stp,(∀ s∈ss,a5y A B s)∧b6l ss
structure ThV(H:Hp)(vs:List V)(tl:List Pl)(Ln:Pl→Rat→Rat→Rat→Prop):Prop where
 len:vs.length=tl.length
 get:∀ (i:Nat) (v:V) (p:Pl),vs[i]?=some v→tl[i]?=some p→∃ (t:Addr) (w1 w2 w3:V) (q1 q2 q3:Rat),v=.ref t∧H t=some (.tup [.int p.1,.int p.2,w1,w2,w3])∧ShV H w1 q1∧ShV H w2 q2∧ShV H w3 q3∧Ln p q1 q2 q3
theorem ThV.tup{H H':Hp}{vs:List V}{tl:List Pl}{Ln:Pl→Rat→Rat→Rat→Prop}(h:ThV H vs tl Ln)(s:Tup H H'):ThV H' vs tl Ln:=
 ⟨h.len,fun i v p e1 e2=>by obtain⟨t,w1,w2,w3,q1,q2,q3,r1,r2,r3,r4,r5,r6⟩:=h.get i v p e1 e2;exact⟨t,w1,w2,w3,q1,q2,q3,r1,s _ _ r2,r3.tup s,r4.tup s,r5.tup s,r6⟩⟩
theorem ThV.snoc{H:Hp}{vs:List V}{tl:List Pl}{Ln:Pl→Rat→Rat→Rat→Prop}{t:Addr}{p:Pl}{w1 w2 w3:V}{q1 q2 q3:Rat}(h:ThV H vs tl Ln)(ht:H t=some (.tup [.int p.1,.int p.2,w1,w2,w3]))(h1:ShV H w1 q1)(h2:ShV H w2 q2)(h3:ShV H w3 q3)(hl:Ln p q1 q2 q3):ThV H (vs++[.ref t]) (tl++[p]) Ln:=by
 refine⟨by simp[h.len],fun i v q e1 e2=>?_⟩
 have hl':=h.len
 by_cases hi:i<vs.length
 · rw[c2v hi] at e1
   rw[c2v (by omega)] at e2
   exact h.get i v q e1 e2
 · rw[c2w (by omega)] at e1 e2
   rw[hl'] at e1
   cases hz:i - tl.length with
   | zero=>rw[hz] at e1 e2;cases e1;cases e2;exact⟨t,w1,w2,w3,q1,q2,q3,rfl,ht,h1,h2,h3,hl⟩
   | succ k=>rw[hz] at e1;simp at e1
inductive Prt:List Pl→List Pl→List Pl→Prop
 | nil:Prt [] [] []
 | fst {l f t:List Pl} (p:Pl):Prt l f t→Prt (l++[p]) (f++[p]) t
 | snd {l f t:List Pl} (p:Pl):Prt l f t→Prt (l++[p]) f (t++[p])
theorem Prt.perm{l f t:List Pl}(h:Prt l f t):(f++t).Perm l:=by
 induction h with
 | nil=>exact c6d.refl _
 | fst p _ ih=>
   rw[c3f]
   exact (c6d.append_left _ List.perm_append_comm).trans (by rw[← c3f];exact ih.append_right [p])
 | snd p _ ih=>rw[← c3f];exact ih.append_right [p]
theorem Prt.sub{l f t:List Pl}(h:Prt l f t):f.Sublist l∧t.Sublist l:=by
 induction h with
 | nil=>exact⟨List.Sublist.refl _,List.Sublist.refl _⟩
 | fst p _ ih=>exact⟨ih.1.append (List.Sublist.refl _),ih.2.trans (List.sublist_append_left _ _)⟩
 | snd p _ ih=>exact⟨ih.1.trans (List.sublist_append_left _ _),ih.2.append (List.Sublist.refl _)⟩
theorem gC_at{H:Hp}{ys:List V}{css:List (List Pl)}{i:Int}(h:CsV H none ys css)(h0:0≤i)(h1:i<css.length):∃ (l:Addr) (us:List V),ys[i.toNat]?=some (.ref l)∧H l=some (.lst us)∧PlsV H us (gC css i)∧gC css i∈css:=by
 have hi:i.toNat<css.length:=by omega
 have e:css[i.toNat]?=some css[i.toNat]:=c2e hi
 have eg:gC css i=css[i.toNat]:=by unfold gC;rw[e];rfl
 obtain⟨l,us,r1,r2,r3⟩:=h.at e
 exact⟨l,us,r1,r2,by rw[eg];exact r3,by rw[eg];exact c4c hi⟩
def LnOf(X Y R:Int)(As Bs:List (List Pl))(p:Pl)(q1 q2 q3:Rat):Prop:=Lined X Y R (gC As p.1) (gC Bs p.2) q1 q2 q3
end Cv
namespace Cv
open PySem PySem.Spec PyProof.Rows L2
inductive Told (M:Nat→Pl→Prop):Nat→List Pl→List (Nat×Pl)→Prop
 | zero {f t:List Pl}:Prt [((0:Int),(0:Int))] f t→(∀ p∈f,M 0 p)→(∀ p∈t,¬ M 0 p)→Told M 0 f (t.map (c6u 0))
 | step {d:Nat} {f:List Pl} {tt:List (Nat×Pl)} {qs f' t':List Pl}:Told M d f tt→qs.Perm (below f)→qs.Pairwise lxP→Prt qs f' t'→(∀ p∈f',M (d+1) p)→(∀ p∈t',¬ M (d+1) p)→Told M (d+1) f' (tt++t'.map (c6u (d+1)))
theorem Told.sort{M:Nat→Pl→Prop}{d:Nat}{f:List Pl}{tt:List (Nat×Pl)}(h:Told M d f tt):f.Pairwise lxP:=by
 cases h with
 | zero p _ _=>exact c7i.sublist p.sub.1 (c6n _ _)
 | step _ _ s p _ _=>exact c7i.sublist p.sub.1 s
theorem Told.all{M:Nat→Pl→Prop}{d:Nat}{f:List Pl}{tt:List (Nat×Pl)}(h:Told M d f tt):∀ p∈f,M d p:=by
 cases h with
 | zero _ m _=>exact m
 | step _ _ _ _ m _=>exact m
theorem Told.nodup{M:Nat→Pl→Prop}{d:Nat}{f:List Pl}{tt:List (Nat×Pl)}(h:Told M d f tt):f.Nodup:=by
 induction h with
 | zero p _ _=>exact c3x.sublist p.sub.1 (by simp)
 | step _ hp _ p _ _ ih=>exact c3x.sublist p.sub.1 (hp.nodup_iff.mpr (a6g ih))
theorem Told.len{M:Nat→Pl→Prop}{d:Nat}{f:List Pl}{tt:List (Nat×Pl)}(h:Told M d f tt):f.length≤4^d:=by
 induction h with
 | zero p _ _=>exact p.sub.1.length_le
 | step _ hp _ p _ _ ih=>
   have h1:=p.sub.1.length_le
   rw[hp.length_eq,a5e] at h1
   rw[c6o];omega
def InL(d:Nat)(p:Pl):Prop:=0≤p.1∧p.1<2^d∧0≤p.2∧p.2<2^d
theorem InL.below{d:Nat}{q:Pl}(h:InL d (q.1 / 2,q.2 / 2)):InL (d+1) q:=by
 obtain⟨a,b,c,e⟩:=h
 have:(2:Int)^(d+1)=2*2^d:=by rw[Int.pow_succ,c5c]
 refine⟨?_,?_,?_,?_⟩<;>simp only at *<;>omega
theorem Told.ins{M:Nat→Pl→Prop}{d:Nat}{f:List Pl}{tt:List (Nat×Pl)}(h:Told M d f tt):(∀ p∈f,InL d p)∧∀ r∈tt,r.1≤d∧InL r.1 r.2:=by
 induction h with
 | zero p _ _=>
   have z:InL 0 ((0:Int),(0:Int)):=⟨by decide,by decide,by decide,by decide⟩
   refine⟨fun q hq=>?_,fun r hr=>?_⟩
   · rw[c3h.mp (p.sub.1.subset hq)];exact z
   · obtain⟨q,hq,rfl⟩:=c3w.mp hr
     refine⟨c2o _,?_⟩
     show InL 0 q
     rw[c3h.mp (p.sub.2.subset hq)];exact z
 | step _ hp _ p _ _ ih=>
   have up:∀ q,q∈_→InL _ q:=fun q hq=>(ih.1 _ (a5d.mp (hp.subset hq))).below
   refine⟨fun q hq=>up q (p.sub.1.subset hq),fun r hr=>?_⟩
   rcases c3n.mp hr with hr | hr
   · exact⟨Nat.le_succ_of_le (ih.2 r hr).1,(ih.2 r hr).2⟩
   · obtain⟨q,hq,rfl⟩:=c3w.mp hr
     exact⟨c2o _,up q (p.sub.2.subset hq)⟩
def Hid(d:Nat)(s:Pl)(r:Nat×Pl):Bool:=decide (r.2=(s.1 / 2^(d - r.1),s.2 / 2^(d - r.1)))
theorem b4o{f:List Pl}(h:f.Nodup)(s:Pl):(below f).count s=f.count (s.1 / 2,s.2 / 2):=by
 by_cases hm:(s.1 / 2,s.2 / 2)∈f
 · rw[c3x.count h,if_pos hm,c3x.count (a6g h),if_pos (a5d.mpr hm)]
 · rw[c5q hm,c5q fun z=>hm (a5d.mp z)]
theorem b2u(d:Nat)(s:Pl)(t:List Pl):(t.map (c6u d)).countP (Hid d s)=t.count s:=by
 rw[List.countP_map]
 unfold List.count
 apply List.countP_congr
 intro q _
 simp only[Function.comp,Hid,Nat.sub_self,Int.pow_zero,Int.ediv_one,decide_eq_true_eq,beq_iff_eq]
theorem b5x(x:Int)(k:Nat):x / 2 / 2^k=x / 2^(k+1):=by
 rw[Int.ediv_ediv_of_nonneg (by decide),Int.pow_succ,c5c]
theorem Told.fill{M:Nat→Pl→Prop}{d:Nat}{f:List Pl}{tt:List (Nat×Pl)}(h:Told M d f tt):∀ s,InL d s→f.count s+tt.countP (Hid d s)=1:=by
 induction h with
 | zero p _ _=>
   intro s hs
   obtain⟨a,b,c,e⟩:=hs
   rw[b2u,← List.count_append,p.perm.count_eq]
   have e1:s=(0,0):=Prod.ext (by simp at *;omega) (by simp at *;omega)
   rw[e1];rfl
 | @step d f tt qs f' t' ht hp hs p _ _ ih=>
   intro s hs
   have h2:InL d (s.1 / 2,s.2 / 2):=by
     obtain⟨a,b,c,e⟩:=hs
     have:(2:Int)^(d+1)=2*2^d:=by rw[Int.pow_succ,c5c]
     refine⟨?_,?_,?_,?_⟩<;>simp only<;>omega
   have hc:tt.countP (Hid (d+1) s)=tt.countP (Hid d (s.1 / 2,s.2 / 2)):=by
     apply List.countP_congr
     intro r hr
     have hle:=(ht.ins.2 r hr).1
     simp only[Hid,decide_eq_true_eq]
     rw[show d+1 - r.1=(d - r.1)+1 by omega,← b5x,← b5x]
   have h3:=ih _ h2
   have h4:f'.count s+t'.count s=f.count (s.1 / 2,s.2 / 2):=by
     rw[← List.count_append,p.perm.count_eq,hp.count_eq,b4o ht.nodup]
   rw[List.countP_append,b2u,hc]
   omega
theorem a5v{X Y R:Int}{A B:List Pl}{q1 q2 q3:Rat}(h:Lined X Y R A B q1 q2 q3):¬ Meet A B:=by
 rintro⟨ss,ha,hh⟩
 obtain⟨w,p,q,_,_,_,_,_,hlt,hA,hB⟩:=h
 have pos:∀ s∈ss,0<dt w s.1:=fun s hs=>by
   obtain⟨i,j,a,b,e1,e2,rfl⟩:=ha s hs
   have z1:=hA a (c2m e1)
   have z2:=hB b (c2m e2)
   unfold dt at *
   simp only at *
   grind
 rcases hh with⟨r,rfl,h1⟩ | ⟨r,f,rfl,h1,h2,h3⟩ | ⟨r,l,f,rfl,h1,h2,h3⟩
 · have:=pos r (by simp)
   rw[h1] at this
   unfold dt at this
   simp at this
 · have a:=pos r (by simp)
   have b:=pos f (by simp)
   have e:(r.1.1*r.1.1+r.1.2*r.1.2)*dt w f.1=dt w r.1*dt r.1 f.1:=by
     unfold cr at h1
     unfold dt
     grind
   have n1:=sq_nn r.1.1
   have n2:=sq_nn r.1.2
   have rp:0<r.1.1*r.1.1+r.1.2*r.1.2:=by
     rcases Int.lt_or_le 0 (r.1.1*r.1.1+r.1.2*r.1.2) with z | z
     · exact z
     · exfalso
       have y1:r.1.1*r.1.1=0:=by omega
       have y2:r.1.2*r.1.2=0:=by omega
       exact h3 (Prod.ext ((Int.mul_eq_zero.mp y1).elim id id) ((Int.mul_eq_zero.mp y2).elim id id))
   have c1:=c7p rp b
   rw[e] at c1
   have:=b3y a c1
   omega
 · have a:=pos r (by simp)
   have b:=pos l (by simp)
   have c:=pos f (by simp)
   have e:cr r.1 l.1*dt w f.1=cr f.1 l.1*dt w r.1+cr r.1 f.1*dt w l.1:=by
     unfold cr dt
     grind
   have c1:=c7p h1 c
   have c2:=c5y (show 0≤- cr f.1 l.1 by omega) (c7c a)
   have c3:=c5y (show 0≤- cr r.1 f.1 by omega) (c7c b)
   rw[Int.neg_mul] at c2 c3
   omega
structure TdV(H:Hp)(vs:List V)(tt:List (Nat×Pl))(Ln:Nat→Pl→Rat→Rat→Rat→Prop):Prop where
 len:vs.length=tt.length
 get:∀ (i:Nat) (v:V) (r:Nat×Pl),vs[i]?=some v→tt[i]?=some r→∃ (t:Addr) (w1 w2 w3:V) (q1 q2 q3:Rat),v=.ref t∧H t=some (.tup [.int (r.1:Int),.int r.2.1,.int r.2.2,w1,w2,w3])∧ShV H w1 q1∧ShV H w2 q2∧ShV H w3 q3∧Ln r.1 r.2 q1 q2 q3
theorem TdV.tup{H H':Hp}{vs:List V}{tt:List (Nat×Pl)}{Ln:Nat→Pl→Rat→Rat→Rat→Prop}(h:TdV H vs tt Ln)(s:Tup H H'):TdV H' vs tt Ln:=
 ⟨h.len,fun i v p e1 e2=>by obtain⟨t,w1,w2,w3,q1,q2,q3,r1,r2,r3,r4,r5,r6⟩:=h.get i v p e1 e2;exact⟨t,w1,w2,w3,q1,q2,q3,r1,s _ _ r2,r3.tup s,r4.tup s,r5.tup s,r6⟩⟩
theorem TdV.append{H:Hp}{vs ws:List V}{tt ss:List (Nat×Pl)}{Ln:Nat→Pl→Rat→Rat→Rat→Prop}(h:TdV H vs tt Ln)(k:TdV H ws ss Ln):TdV H (vs++ws) (tt++ss) Ln:=by
 have hl:=h.len
 refine⟨by rw[c2k,c2k,hl,k.len],fun i v r e1 e2=>?_⟩
 by_cases hi:i<vs.length
 · rw[c2v hi] at e1
   rw[c2v (by omega)] at e2
   exact h.get i v r e1 e2
 · rw[c2w (by omega)] at e1 e2
   rw[hl] at e1
   exact k.get _ v r e1 e2
def b1u(c1 c2:List Pl)(d:Nat)(p:Pl):Prop:=Meet (gC (lvI c1 d) p.1) (gC (lvI c2 d) p.2)
def LineL(X Y R:Int)(c1 c2:List Pl)(d:Nat)(p:Pl)(q1 q2 q3:Rat):Prop:=LnOf X Y R (lvI c1 d) (lvI c2 d) p q1 q2 q3
theorem cs_ne{H:Hp}{ys vh:List V}{css:List (List Pl)}{ld:Addr}{tt:List (Nat×Pl)}{Ln:Nat→Pl→Rat→Rat→Rat→Prop}(h:CsV H none ys css)(h1:∀ c∈css,1≤c.length)(hd:H ld=some (.lst vh))(hT:TdV H vh tt Ln):CsV H (some ld) ys css:=by
 refine⟨h.len,fun i v c e1 e2=>?_⟩
 obtain⟨l,us,r1,_,r3,r4⟩:=h.get i v c e1 e2
 refine⟨l,us,r1,fun z=>?_,r3,r4⟩
 cases z
 rw[hd] at r3
 cases r3
 have hc:=h1 c (c2m e2)
 have hl:=r4.len
 have hl2:=hT.len
 have a1:vh[0]?=some (vh[0]'(by omega (config:={}))):=c2e (by omega)
 have a2:c[0]?=some (c[0]'(by omega (config:={}))):=c2e (by omega)
 have a3:tt[0]?=some (tt[0]'(by omega (config:={}))):=c2e (by omega)
 obtain⟨t,w1,w2,w3,_,_,_,b1,b2,_⟩:=hT.get 0 _ _ a1 a3
 obtain⟨b,c1,c2⟩:=r4.get 0 _ _ a1 a2
 rw[b1] at c1
 cases c1
 rw[b2] at c2
 simp at c2
theorem b7e(R:Int)(lx ly lo lt:Addr):(grF R lx ly lo lt).lookup (Str.ofString "go_down")=none:=by
 unfold grF;rw[a0q,if_neg (by decide),a0q,if_neg (by decide),a0q,if_neg (by decide),a0q,if_neg (by decide),a0q,if_neg (by decide)];rfl
theorem a8j{f f':List Pl}(h:f.Pairwise lxP)(h':f'.Pairwise lxP)(ir:∀ p,¬ lxP p p)(as:∀ p q,lxP p q→lxP q p→False)(e:∀ p,p∈f↔p∈f'):f=f':=by
 induction f generalizing f' with
 | nil=>
   cases f' with
   | nil=>rfl
   | cons b r=>exact absurd ((e b).mpr (by simp)) (by simp)
 | cons a l ih=>
   cases f' with
   | nil=>exact absurd ((e a).mp (by simp)) (by simp)
   | cons b r=>
     rw[List.pairwise_cons] at h h'
     have ab:a=b:=by
       rcases c2x.mp ((e a).mp (by simp)) with z | z
       · exact z
       · rcases c2x.mp ((e b).mpr (by simp)) with y | y
         · exact y.symm
         · exact (as _ _ (h.1 b y) (h'.1 a z)).elim
     subst ab
     congr 1
     refine ih h.2 h'.2 fun p=>⟨fun hp=>?_,fun hp=>?_⟩
     · rcases c2x.mp ((e p).mp (by simp[hp])) with z | z
       · subst z;exact (ir _ (h.1 _ hp)).elim
       · exact z
     · rcases c2x.mp ((e p).mpr (by simp[hp])) with z | z
       · subst z;exact (ir _ (h'.1 _ hp)).elim
       · exact z
end Cv
namespace Cv
open PySem PySem.Spec PyProof.Rows L2
def lvP(ps:List Pt):Nat→List (List Pt)
 | 0=>[ps]
 | d+1=>(lvP ps d).flatMap fun c=>[a4k (1 / 2) c,a7b (1 / 2) c]
theorem b0l{dx dy:Int}{M:Nat}:∀ css:List (List Pl),(∀ c∈css,Dvs M c∧c.length≤M+1)→(a1h css).map (toP dx dy)=(css.map (toP dx dy)).flatMap fun c=>[a4k (1 / 2) c,a7b (1 / 2) c]
 | [],_=>rfl
 | c::r,h=>by
   have ih:=b0l (dx:=dx) (dy:=dy) r fun e he=>h e (c3q _ he)
   obtain⟨a,b⟩:=h c (by simp)
   show (toP dx dy (fhI c))::(toP dx dy (lhI c))::(a1h r).map (toP dx dy)=_
   rw[ih,fh_toP a b,lh_toP a b]
   rfl
theorem c0i{dx dy:Int}{ps:List Pt}{n L:Nat}{c:List Pl}(h1:1≤ps.length)(hc:toP dx dy c=ps)(hz:SzQ n c)(hd:Dvs (L*(ps.length - 1)) c):∀ d,d≤L→(lvI c d).map (toP dx dy)=lvP ps d
 | 0,_=>by show [toP dx dy c]=[ps];rw[hc]
 | d+1,h=>by
   have ih:=c0i h1 hc hz hd d (by omega)
   have O:=b5u h1 hc hz L d (by omega) hd
   have hm:ps.length - 1≤(L - d)*(ps.length - 1):=Nat.le_mul_of_pos_left _ (by omega)
   show (a1h (lvI c d)).map (toP dx dy)=(lvP ps d).flatMap _
   rw[← ih]
   exact b0l (M:=(L - d)*(ps.length - 1)) _ fun e he=>⟨O.dv e he,by rw[O.len e he];omega⟩
end Cv
namespace Cv
open PySem PySem.Spec PyProof.Rows L2
theorem a7r{α:Type}(f:α→Nat)(c:Nat):∀ l:List α,(∀ x∈l,f x=c)→(l.map f).sum=l.length*c
 | [],_=>by simp
 | x::r,h=>by rw[c4u,List.sum_cons,a7r f c r fun y hy=>h y (c3q _ hy),h x (by simp),c3r,Nat.succ_mul];omega
theorem Told.tot{M:Nat→Pl→Prop}{d:Nat}{f:List Pl}{tt:List (Nat×Pl)}(h:Told M d f tt):f.length+(tt.map fun r=>4^(d - r.1)).sum=4^d:=by
 induction h with
 | @zero f t p _ _=>
   have:=p.perm.length_eq
   rw[c2k] at this
   have e:((t.map (c6u 0)).map fun r:Nat×Pl=>4^(0 - r.1)).sum=t.length:=by
     rw[c7b];exact (a7r _ 1 _ fun _ _=>rfl).trans (by omega)
   rw[e];exact this
 | @step d f tt qs f' t' h hp hs p _ _ ih=>
   have a1:=p.perm.length_eq
   rw[c2k] at a1
   have a2:=hp.length_eq
   rw[a5e] at a2
   have e1:((t'.map (c6u (d+1))).map fun r:Nat×Pl=>4^(d+1 - r.1)).sum=t'.length:=by
     rw[c7b,a7r _ 1 _ fun q _=>by show 4^(d+1 - (d+1))=1;rw[Nat.sub_self]];omega
   have e2:∀ l:List (Nat×Pl),(∀ r∈l,r.1≤d)→(l.map fun r=>4^(d+1 - r.1)).sum=4*(l.map fun r=>4^(d - r.1)).sum:=fun l=>by
     induction l with
     | nil=>intro _;rfl
     | cons x r ihl=>
       intro hl
       have hx:=hl x (by simp)
       rw[c4u,List.sum_cons,c4u,List.sum_cons,ihl fun y hy=>hl y (c3q _ hy),show d+1 - x.1=(d - x.1)+1 by omega,c6o]
       omega
   rw[List.map_append,List.sum_append,e1,e2 tt fun r hr=>(h.ins.2 r hr).1,c6o]
   omega
end Cv
namespace Cv
open PySem PySem.Spec PyProof.Rows L2
structure WcOf(ps qs:List Pt)(L:Nat)(X Y R:Int)(c1 c2:List Pl):Prop where
 x:0<X
 y:0<Y
 r:0<R
 p1:toP (X*R) (Y*R) c1=ps
 p2:toP (X*R) (Y*R) c2=qs
 d1:Dvs (L*(max ps.length qs.length - 1)) c1
 d2:Dvs (L*(max ps.length qs.length - 1)) c2
 z:∃ n,SzQ n c1∧SzQ n c2
end Cv
namespace Cv
open PySem PySem.Spec PyProof.Rows L2
def gP(css:List (List Pt))(i:Int):List Pt:=(css[i.toNat]?).getD []
def NoLn(ps qs:List Pt):Prop:=∀ q1 q2 q3,¬ b4s ps qs q1 q2 q3
def MQ(ps qs:List Pt)(d:Nat)(p:Pl):Prop:=NoLn (gP (lvP ps d) p.1) (gP (lvP qs d) p.2)
theorem b4u{dx dy:Int}{As:List (List Pl)}{css:List (List Pt)}(e:As.map (toP dx dy)=css)(i:Int):toP dx dy (gC As i)=gP css i:=by
 subst e
 unfold gC gP
 rw[c2p]
 cases As[i.toNat]? with
 | none=>rfl
 | some a=>rfl
theorem c0h(w:Pl):∀ A:List Pl,A≠[]→∃ p∈A,∀ p'∈A,dt w p'≤dt w p
 | [a],_=>⟨a,by simp,fun p' hp=>by rw[c3h.mp hp];exact Int.le_refl _⟩
 | a::b::r,_=>by
   obtain⟨p,hp,h⟩:=c0h w (b::r) (by simp)
   by_cases hc:dt w p≤dt w a
   · refine⟨a,by simp,fun p' hp'=>?_⟩
     rcases c2x.mp hp' with rfl | z
     · exact Int.le_refl _
     · exact Int.le_trans (h p' z) hc
   · refine⟨p,c3q _ hp,fun p' hp'=>?_⟩
     rcases c2x.mp hp' with rfl | z
     · omega
     · exact h p' z
theorem dt_neg(w p:Pl):dt (-w.1,-w.2) p=- dt w p:=by unfold dt;simp only;grind
theorem min_dt(w:Pl)(A:List Pl)(h:A≠[]):∃ p∈A,∀ p'∈A,dt w p≤dt w p':=by
 obtain⟨p,hp,h⟩:=c0h (-w.1,-w.2) A h
 refine⟨p,hp,fun p' hp'=>?_⟩
 have:=h p' hp'
 rw[dt_neg,dt_neg] at this
 omega
theorem meet_ne{A B:List Pl}(h:Meet A B):A≠[]∧B≠[]:=by
 obtain⟨ss,ha,hh⟩:=h
 have:∃ s,s∈ss:=by
   rcases hh with⟨r,rfl,_⟩ | ⟨r,f,rfl,_⟩ | ⟨r,l,f,rfl,_⟩
   · exact⟨r,by simp⟩
   · exact⟨r,by simp⟩
   · exact⟨r,by simp⟩
 obtain⟨s,hs⟩:=this
 obtain⟨i,j,p,q,e1,e2,_⟩:=ha s hs
 exact⟨fun z=>by rw[z] at e1;simp at e1,fun z=>by rw[z] at e2;simp at e2⟩
theorem b7x(a b:Rat){X Y:Int}(hX:0<X)(hY:0<Y):∃ (w:Pl) (k:Rat),0<k∧∀ P:Pl,(a*c2i P.1 X+b*c2i P.2 Y)*k=((dt w P:Int):Rat):=by
 refine⟨(a.num*(b.den:Int)*Y,b.num*(a.den:Int)*X),((a.den:Int):Rat)*((b.den:Int):Rat)*(X:Rat)*(Y:Rat),?_,fun P=>?_⟩
 · have h1:(0:Rat)<((a.den:Int):Rat):=by exact_mod_cast a.den_pos
   have h2:(0:Rat)<((b.den:Int):Rat):=by exact_mod_cast b.den_pos
   have h3:(0:Rat)<(X:Rat):=by exact_mod_cast hX
   have h4:(0:Rat)<(Y:Rat):=by exact_mod_cast hY
   exact Rat.mul_pos (Rat.mul_pos (Rat.mul_pos h1 h2) h3) h4
 · have e1:=b0n (x:=P.1) hX
   have e2:=b0n (x:=P.2) hY
   have ea:a*((a.den:Int):Rat)=(a.num:Rat):=(a7y a).symm
   have eb:b*((b.den:Int):Rat)=(b.num:Rat):=(a7y b).symm
   unfold dt
   rw[c6c,c3o,c3o,c3o,c3o,c3o,c3o,← ea,← eb,← e1,← e2]
   grind
theorem c0g{X Y:Int}(hX:0<X)(hY:0<Y){A B:List Pl}(h:Meet A B):NoLn (toP X Y A) (toP X Y B):=by
 intro q1 q2 q3 hq
 obtain⟨nA,nB⟩:=meet_ne h
 obtain⟨w,k,k0,hk⟩:=b7x q1 q2 hX hY
 obtain⟨p,hp,hmx⟩:=c0h w A nA
 obtain⟨q,hq',hmn⟩:=min_dt w B nB
 refine a5v (X:=1) (Y:=1) (R:=1) ⟨w,p,q,rfl,rfl,rfl,hp,hq',?_,hmx,hmn⟩ h
 have h1:=hq.lo _ (c3w.mpr ⟨p,hp,rfl⟩)
 have h2:=hq.hi _ (c3w.mpr ⟨q,hq',rfl⟩)
 have h3:=Rat.mul_lt_mul_of_pos_right (show q1*c2i p.1 X+q2*c2i p.2 Y<q1*c2i q.1 X+q2*c2i q.2 Y by grind) k0
 rw[hk,hk] at h3
 exact_mod_cast h3
theorem b7a{X Y R:Int}(hX:0<X)(hY:0<Y)(hR:0<R){A B:List Pl}{q1 q2 q3:Rat}(h:Lined X Y R A B q1 q2 q3):b4s (toP (X*R) (Y*R) A) (toP (X*R) (Y*R) B) q1 q2 q3:=by
 obtain⟨w,p,q,rfl,rfl,rfl,hp,hq,hlt,hmx,hmn⟩:=h
 have R0:(0:Rat)<(R:Rat):=by exact_mod_cast hR
 have key:∀ P:Pl,(((w.1*X:Int):Rat)*c2i P.1 (X*R)+((w.2*Y:Int):Rat)*c2i P.2 (Y*R))*(R:Rat)=((dt w P:Int):Rat):=fun P=>by
   have e1:=b0n (x:=P.1) (c7p hX hR)
   have e2:=b0n (x:=P.2) (c7p hY hR)
   unfold dt
   rw[c6c,c3o,c3o,c3o,c3o,← e1,← e2,c3o,c3o]
   grind
 have e3:c2i (dt w p+dt w q) (2*R)*(2*(R:Rat))=((dt w p+dt w q:Int):Rat):=by
   have:=b0n (x:=dt w p+dt w q) (X:=2*R) (by omega)
   rw[c3o] at this
   exact this
 have fin:∀ (z:Rat) (m:Int),z*(R:Rat)=(m:Rat)→(2*m<dt w p+dt w q→z<c2i (dt w p+dt w q) (2*R))∧(dt w p+dt w q<2*m→c2i (dt w p+dt w q) (2*R)<z):=fun z m hz=>by
   have h2R:(0:Rat)<2*(R:Rat):=by grind
   have hz2:z*(2*(R:Rat))=((2*m:Int):Rat):=by rw[c3o,← hz];grind
   refine⟨fun h=>?_,fun h=>?_⟩
   · have h':((2*m:Int):Rat)<((dt w p+dt w q:Int):Rat):=by exact_mod_cast h
     rw[← hz2,← e3] at h'
     exact Rat.lt_of_mul_lt_mul_right h' (Rat.le_of_lt h2R)
   · have h':((dt w p+dt w q:Int):Rat)<((2*m:Int):Rat):=by exact_mod_cast h
     rw[← hz2,← e3] at h'
     exact Rat.lt_of_mul_lt_mul_right h' (Rat.le_of_lt h2R)
 refine⟨fun x hx=>?_,fun x hx=>?_⟩
 · obtain⟨P,hP,rfl⟩:=c3w.mp hx
   exact (fin _ _ (key P)).1 (by have:=hmx P hP;omega)
 · obtain⟨P,hP,rfl⟩:=c3w.mp hx
   exact (fin _ _ (key P)).2 (by have:=hmn P hP;omega)
theorem WcOf.lv{ps qs:List Pt}{L:Nat}{X Y R:Int}{c1 c2:List Pl}(h1:1≤ps.length)(h2:1≤qs.length)(h:WcOf ps qs L X Y R c1 c2){e:Nat}(he:e≤L):(lvI c1 e).map (toP (X*R) (Y*R))=lvP ps e∧(lvI c2 e).map (toP (X*R) (Y*R))=lvP qs e:=by
 obtain⟨n,z1,z2⟩:=h.z
 have m1:L*(ps.length - 1)≤L*(max ps.length qs.length - 1):=c6k _ (by omega)
 have m2:L*(qs.length - 1)≤L*(max ps.length qs.length - 1):=c6k _ (by omega)
 exact⟨c0i h1 h.p1 z1 (h.d1.mono m1) e he,c0i h2 h.p2 z2 (h.d2.mono m2) e he⟩
theorem WcOf.line{ps qs:List Pt}{L:Nat}{X Y R:Int}{c1 c2:List Pl}(h1:1≤ps.length)(h2:1≤qs.length)(h:WcOf ps qs L X Y R c1 c2){e:Nat}(he:e≤L){p:Pl}{q1 q2 q3:Rat}(hl:LineL X Y R c1 c2 e p q1 q2 q3):b4s (gP (lvP ps e) p.1) (gP (lvP qs e) p.2) q1 q2 q3:=by
 obtain⟨a,b⟩:=h.lv h1 h2 he
 rw[← b4u a,← b4u b]
 exact b7a h.x h.y h.r hl
theorem WcOf.mq{ps qs:List Pt}{L:Nat}{X Y R:Int}{c1 c2:List Pl}(h1:1≤ps.length)(h2:1≤qs.length)(h:WcOf ps qs L X Y R c1 c2){e:Nat}(he:e≤L){p:Pl}(hm:b1u c1 c2 e p):MQ ps qs e p:=by
 obtain⟨a,b⟩:=h.lv h1 h2 he
 unfold MQ
 rw[← b4u a,← b4u b]
 exact c0g (c7p h.x h.r) (c7p h.y h.r) hm
theorem Told.conv{M M':Nat→Pl→Prop}{d:Nat}{f:List Pl}{tt:List (Nat×Pl)}(h:Told M d f tt)(hM:∀ e,e≤d→∀ p,M e p→M' e p)(hT:∀ r∈tt,¬ M' r.1 r.2):Told M' d f tt:=by
 induction h with
 | @zero f t p m n=>exact .zero p (fun q hq=>hM 0 (c2o _) q (m q hq)) fun q hq=>hT (0,q) (c3w.mpr ⟨q,hq,rfl⟩)
 | @step d f tt qs f' t' h hp hs p m n ih=>
   refine .step (ih (fun e he=>hM e (by omega)) fun r hr=>hT r (c3n.mpr (.inl hr))) hp hs p (fun q hq=>hM _ (c2o _) q (m q hq)) fun q hq=>hT (d+1,q) (c3n.mpr (.inr (c3w.mpr ⟨q,hq,rfl⟩)))
def LnQ(ps qs:List Pt)(d:Nat)(p:Pl)(q1 q2 q3:Rat):Prop:=b4s (gP (lvP ps d) p.1) (gP (lvP qs d) p.2) q1 q2 q3
theorem TdV.ln{H:Hp}{vs:List V}{tt:List (Nat×Pl)}{Ln Ln':Nat→Pl→Rat→Rat→Rat→Prop}(h:TdV H vs tt Ln)(k:∀ r∈tt,∀ q1 q2 q3,Ln r.1 r.2 q1 q2 q3→Ln' r.1 r.2 q1 q2 q3):TdV H vs tt Ln':=
 ⟨h.len,fun i v r e1 e2=>by
   obtain⟨t,w1,w2,w3,q1,q2,q3,r1,r2,r3,r4,r5,r6⟩:=h.get i v r e1 e2
   exact⟨t,w1,w2,w3,q1,q2,q3,r1,r2,r3,r4,r5,k r (c2m e2) q1 q2 q3 r6⟩⟩
theorem TdV.ex{H:Hp}{vs:List V}{tt:List (Nat×Pl)}{Ln:Nat→Pl→Rat→Rat→Rat→Prop}(h:TdV H vs tt Ln):∀ r∈tt,∃ q1 q2 q3,Ln r.1 r.2 q1 q2 q3:=fun r hr=>by
 obtain⟨i,hi,e⟩:=c3a hr
 have hl:=h.len
 obtain⟨t,w1,w2,w3,q1,q2,q3,_,_,_,_,_,r6⟩:=h.get i _ r (c2e (by omega)) (by rw[c2e hi,e])
 exact⟨q1,q2,q3,r6⟩
end Cv
namespace Cv
theorem b8x{C:Pt→Prop}{t:Rat}(hC:∀ p q,C p→C q→C (btwP t p q)){ps:List Pt}(h:∀ p∈ps,C p):∀ r,∀ p∈rowP t ps r,C p
 | 0,p,hp=>h p hp
 | r+1,p,hp=>by
   have ih:=b8x hC h r
   obtain⟨i,hi,e⟩:=c3a hp
   have hp0:(rowP t ps (r+1))[i]?=some p:=by rw[c2e hi,e]
   have hp':(nxP t (rowP t ps r))[i]?=some p:=hp0
   unfold nxP at hp'
   rw[c5m] at hp'
   cases e1:(rowP t ps r)[i]? with
   | none=>rw[e1] at hp';cases hp'
   | some a=>
     cases e2:((rowP t ps r).drop 1)[i]? with
     | none=>rw[e1,e2] at hp';cases hp'
     | some b=>
       rw[e1,e2] at hp'
       cases hp'
       exact hC a b (ih a (c2m e1)) (ih b (c4f (c2m e2)))
theorem pt_cvx{C:Pt→Prop}{t:Rat}(hC:∀ p q,C p→C q→C (btwP t p q)){ps:List Pt}(h:∀ p∈ps,C p)(h1:1≤ps.length):C (ptP t ps):=
 b8x hC h (ps.length - 1) _ (by rw[b3x t ps h1];simp)
end Cv
namespace Cv
open PySem PySem.Spec PyProof.Rows L2
def BdL(q1 q2 q3:Rat):Prop:=Bd 1100 q1∧Bd 1100 q2∧Bd 1100 q3
def c2c(X Y R:Int)(As Bs:List (List Pl))(p:Pl)(q1 q2 q3:Rat):Prop:=LnOf X Y R As Bs p q1 q2 q3∧BdL q1 q2 q3
def b0p(X Y R:Int)(c1 c2:List Pl)(d:Nat)(p:Pl)(q1 q2 q3:Rat):Prop:=c2c X Y R (lvI c1 d) (lvI c2 d) p q1 q2 q3
theorem ThV.notB{H:Hp}{vs:List V}{tl:List Pl}{X Y R:Int}{As Bs:List (List Pl)}(h:ThV H vs tl (c2c X Y R As Bs)):∀ p∈tl,¬ Meet (gC As p.1) (gC Bs p.2):=fun p hp=>by
 obtain⟨i,hi,e⟩:=c3a hp
 have hl:=h.len
 obtain⟨_,_,_,_,_,_,_,_,_,_,_,_,l⟩:=h.get i vs[i] p (c2e (by omega)) (by rw[c2e hi,e])
 exact a5v l.1
theorem line_bd{n:Nat}{w p q:Pl}{X Y R:Int}{A B:List Pl}(zw:SzW (n+2) w)(hn:n≤500)(zX:Sz 500 X)(zY:Sz 500 Y)(zR:Sz 41 R)(R0:0<R)(zA:SzQ n A)(zB:SzQ n B)(hp:p∈A)(hq:q∈B):BdL ((w.1*X:Int):Rat) ((w.2*Y:Int):Rat) (c2i (dt w p+dt w q) (2*R)):=by
 have a:=dt_sz zw (zA p hp).1 (zA p hp).2
 have b:=dt_sz zw (zB q hq).1 (zB q hq).2
 have z2:Sz 2 (2:Int):=⟨by decide⟩
 refine⟨(bd_int (zw.1.mul zX) (by omega)).mono (by omega),(bd_int (zw.2.mul zY) (by omega)).mono (by omega),(Bd.of (a.add b) (z2.mul zR) (by omega)).mono (by omega)⟩
def LnQB(ps qs:List Pt)(d:Nat)(p:Pl)(q1 q2 q3:Rat):Prop:=LnQ ps qs d p q1 q2 q3∧BdL q1 q2 q3
theorem toldB{ps qs:List Pt}{L:Nat}{X Y R:Int}{c1 c2 f:List Pl}{tt:List (Nat×Pl)}{H:Hp}{vh:List V}(h1:1≤ps.length)(h2:1≤qs.length)(h:WcOf ps qs L X Y R c1 c2)(hT:TdV H vh tt (b0p X Y R c1 c2))(t:Told (b1u c1 c2) L f tt):TdV H vh tt (LnQB ps qs)∧Told (MQ ps qs) L f tt:=by
 have a:TdV H vh tt (LnQB ps qs):=hT.ln fun r hr q1 q2 q3 hl=>⟨h.line h1 h2 (t.ins.2 r hr).1 hl.1,hl.2⟩
 refine⟨a,t.conv (fun e he p hm=>h.mq h1 h2 he hm) fun r hr hm=>?_⟩
 obtain⟨q1,q2,q3,hl⟩:=a.ex r hr
 exact hm q1 q2 q3 hl.1
theorem c0j{ps:List Pt}:∀ d,(lvP ps d).length=2^d∧∀ c∈lvP ps d,c.length=ps.length
 | 0=>⟨rfl,fun c hc=>by rw[c3h.mp hc]⟩
 | d+1=>by
   obtain⟨a,b⟩:=c0j (ps:=ps) d
   refine⟨?_,fun c hc=>?_⟩
   · show ((lvP ps d).flatMap _).length=_
     rw[List.length_flatMap]
     exact (a7r _ 2 _ fun _ _=>rfl).trans (by rw[a,c6o])
   · obtain⟨e,he,hc⟩:=List.mem_flatMap.mp hc
     simp only[c2x,c3u,or_false] at hc
     rcases hc with rfl | rfl
     · rw[b7j];exact b e he
     · rw[c0p];exact b e he
theorem gP_len{ps:List Pt}{d:Nat}{i:Int}(h0:0≤i)(h1:i<2^d):(gP (lvP ps d) i).length=ps.length:=by
 obtain⟨a,b⟩:=c0j (ps:=ps) d
 have e2:(2:Int)^d=((2^d:Nat):Int):=by rw[Int.natCast_pow];rfl
 have e:(lvP ps d)[i.toNat]?=some ((lvP ps d)[i.toNat]'(by omega (config:={}))):=c2e _
 unfold gP
 rw[e]
 exact b _ (c4c _)
end Cv
namespace Cv
open PySem PySem.Spec PyProof.Rows L2
theorem flat2{α β:Type}(f g:α→β):∀ (l:List α) (i:Nat),(l.flatMap fun c=>[f c,g c])[2*i]?=(l[i]?).map f∧(l.flatMap fun c=>[f c,g c])[2*i+1]?=(l[i]?).map g
 | [],i=>⟨by simp,by simp⟩
 | a::r,0=>⟨rfl,rfl⟩
 | a::r,i+1=>by
   obtain⟨h1,h2⟩:=flat2 f g r i
   rw[List.flatMap_cons,show 2*(i+1)=2*i+2 by omega,show 2*i+2+1=2*i+1+2 by omega]
   exact⟨h1,h2⟩
theorem lv_pt{ps:List Pt}(h1:1≤ps.length):∀ (d i:Nat),i<2^d→∀ u,ptP u (gP (lvP ps d) (i:Int))=ptP (tq d i u) ps
 | 0,i,hi,u=>by
   have:i=0:=by simpa using hi
   subst this
   show ptP u ps=_
   congr 1
   unfold tq hp
   show u=(((0:Int):Rat)+u)*1
   have:((0:Int):Rat)=0:=by decide
   rw[this];grind
 | d+1,i,hi,u=>by
   have p2:(2:Nat)^(d+1)=2*2^d:=by rw[c6o,Nat.mul_comm]
   obtain⟨k,hk⟩ : ∃ k,i=2*k∨i=2*k+1:=⟨i / 2,by omega⟩
   have hk2:k<2^d:=by omega
   obtain⟨ll,lc⟩:=c0j (ps:=ps) d
   have ek:(lvP ps d)[k]?=some ((lvP ps d)[k]'(by omega (config:={}))):=c2e _
   have eg:gP (lvP ps d) (k:Int)=(lvP ps d)[k]'(by omega (config:={})):=by unfold gP;rw[c5a,ek];rfl
   have hl:=lc _ (c4c (show k<(lvP ps d).length by omega))
   have ih:=lv_pt h1 d k hk2
   rw[eg] at ih
   obtain⟨f1,f2⟩:=flat2 (a4k (1 / 2)) (a7b (1 / 2)) (lvP ps d) k
   have hh:hp (d+1)=hp d*(1 / 2):=rfl
   rcases hk with rfl | rfl
   · have e2:gP (lvP ps (d+1)) ((2*k:Nat):Int)=a4k (1 / 2) ((lvP ps d)[k]'(by omega (config:={}))):=by
       unfold gP
       rw[c5a,show (lvP ps (d+1))[2*k]?=_ from f1,ek];rfl
     rw[e2,b6d _ _ _ (by omega),ih]
     congr 1
     unfold tq
     rw[hh,c7q,c3o]
     have:((2:Nat):Int)=(2:Int):=rfl
     rw[this]
     have e3:((2:Int):Rat)=2:=by decide
     rw[e3];grind
   · have e2:gP (lvP ps (d+1)) ((2*k+1:Nat):Int)=a7b (1 / 2) ((lvP ps d)[k]'(by omega (config:={}))):=by
       unfold gP
       rw[c5a,show (lvP ps (d+1))[2*k+1]?=_ from f2,ek];rfl
     rw[e2,c0n _ _ _ (by omega),ih]
     congr 1
     unfold tq btw
     rw[hh,Int.natCast_add,c7q,c6c,c3o]
     have:((2:Nat):Int)=(2:Int):=rfl
     have e3:((2:Int):Rat)=2:=by decide
     have e4:(((1:Nat):Int):Rat)=1:=by decide
     rw[this,e3,e4];grind
theorem b7b{A B:List Pt}{a b c s s':Rat}(h:b4s A B a b c)(hA:1≤A.length)(hB:1≤B.length)(s0:0≤s)(s1:s≤1)(r0:0≤s')(r1:s'≤1)(e:ptP s A=ptP s' B):False:=by
 have cv:∀ (x y t:Rat),0≤t→t≤1→x<c→y<c→x+t*(y - x)<c:=fun x y t t0 t1 hx hy=>by
   rcases (Rat.le_total:x≤y∨y≤x) with z | z
   · have:t*(y - x)≤1*(y - x):=Rat.mul_le_mul_of_nonneg_right t1 (by grind)
     grind
   · have:0≤t*(x - y):=Rat.mul_nonneg t0 (by grind)
     grind
 have cv2:∀ (x y t:Rat),0≤t→t≤1→c<x→c<y→c<x+t*(y - x):=fun x y t t0 t1 hx hy=>by
   rcases (Rat.le_total:x≤y∨y≤x) with z | z
   · have:0≤t*(y - x):=Rat.mul_nonneg t0 (by grind)
     grind
   · have:t*(x - y)≤1*(x - y):=Rat.mul_le_mul_of_nonneg_right t1 (by grind)
     grind
 have lo:a*(ptP s A).1+b*(ptP s A).2<c:=pt_cvx (C:=fun p=>a*p.1+b*p.2<c) (t:=s) (fun p q hp hq=>by
   have:=cv _ _ s s0 s1 hp hq
   unfold btwP btw
   grind) h.lo hA
 have hi:c<a*(ptP s' B).1+b*(ptP s' B).2:=pt_cvx (C:=fun p=>c<a*p.1+b*p.2) (t:=s') (fun p q hp hq=>by
   have:=cv2 _ _ s' r0 r1 hp hq
   unfold btwP btw
   grind) h.hi hB
 rw[e] at lo
 grind
end Cv
namespace Cv
open PySem PySem.Spec PyProof.Rows L2
structure GrdC(ps qs:List Pt)(KK m:Nat)(xb yb:List Int)(c1 c2:List Pl):Prop where
 w1:0<a1b xb
 w2:0<a1b yb
 bx:∀ b∈xb,0<b∧Sz 9000 b
 bY:∀ b∈yb,0<b∧Sz 9000 b
 lx:xb.length≤24
 ly:yb.length≤24
 p1:toP (a1b xb*2^KK) (a1b yb*2^KK) c1=ps
 p2:toP (a1b xb*2^KK) (a1b yb*2^KK) c2=qs
 d1:Dvs KK c1
 d2:Dvs KK c2
 z1:SzQ (m+(KK+1)) c1
 z2:SzQ (m+(KK+1)) c2
 zx:Sz 150 (a1b xb)
 zy:Sz 150 (a1b yb)
def b5g(K:c2f)(C:Addr):Sp:=fun vs H Q _=>∃ (x a b dx:Addr) (us ws:List V) (ps qs:List Pt) (D:Int) (m L:Nat),vs=[.ref x,.ref a,.ref b,.int (L:Int)]∧H x=some (.ins C dx [])∧H a=some (.lst us)∧PtsV H us ps∧H b=some (.lst ws)∧PtsV H ws qs∧1≤ps.length∧ps.length≤12∧1≤qs.length∧qs.length≤12∧0<D∧Sz 150 D∧m≤350∧(∀ p∈ps++qs,OvP D m p)∧L≤6∧L*(max ps.length qs.length - 1)≤40∧
 ∀ (xb yb:List Int) (c1 c2:List Pl) (lx ly lo lt:Addr) (yo yt:List V) (H':Hp),Same H H'→H' lx=some (.lst (xb.map V.int))→H' ly=some (.lst (yb.map V.int))→H' lo=some (.lst yo)→CsV H' none yo [c1]→H' lt=some (.lst yt)→CsV H' none yt [c2]→GrdC ps qs (L*(max ps.length qs.length - 1)) m xb yb c1 c2→H lo=none→H lt=none→Q .non (upd H' x (.ins C dx (grF (2^(L*(max ps.length qs.length - 1))) lx ly lo lt)))
theorem a4y{k j:Int}{n:Nat}(hj:0<j)(z:Sz n k):Ov j n (c2i k j):=⟨k,b0n hj,z⟩
end Cv
namespace Cv
open PySem PySem.Spec PyProof.Rows L2
def b1z(K:c2f)(C T:Addr):Sp:=fun vs H Q E=>∃ (g a dx lx ly lo lt:Addr) (R:Int) (xb yb:List Int) (yo yt us:List V) (As Bs:List (List Pl)) (pl:List Pl) (n:Nat),vs=[.ref g,.ref a]∧H g=some (.ins C dx (grF R lx ly lo lt))∧H lx=some (.lst (xb.map V.int))∧H ly=some (.lst (yb.map V.int))∧H lo=some (.lst yo)∧CsV H none yo As∧H lt=some (.lst yt)∧CsV H none yt Bs∧
 (∀ b∈xb,0<b∧Sz 9000 b)∧(∀ b∈yb,0<b∧Sz 9000 b)∧xb.length≤24∧yb.length≤24∧Sz 500 (a1b xb)∧Sz 500 (a1b yb)∧0<R∧Sz 41 R∧(∀ c∈As,1≤c.length∧c.length≤12∧SzQ n c)∧(∀ c∈Bs,1≤c.length∧c.length≤12∧SzQ n c)∧1≤n∧n≤500∧
 H a=some (.lst us)∧PlsV H us pl∧pl.length≤1024∧(∀ p∈pl,0≤p.1∧p.1<As.length∧0≤p.2∧p.2<Bs.length)∧
 (∀ (c lf lh:Addr) (vf vh:List V) (fl tl:List Pl) (H':Hp),Same H H'→H' c=some (.tup [.ref lf,.ref lh])→H lf=none→H lh=none→H' lf=some (.lst vf)→H' lh=some (.lst vh)→PlsV H' vf fl→ThV H' vh tl (c2c (a1b xb) (a1b yb) R As Bs)→Prt pl fl tl→(∀ p∈fl,Meet (gC As p.1) (gC Bs p.2))→fl.length≤256→Q (.ref c) H')∧
 (∀ (vh:List V) (fl tl:List Pl) (H':Hp),Same H H'→ThV H' vh tl (c2c (a1b xb) (a1b yb) R As Bs)→Prt pl fl tl→(∀ p∈fl,Meet (gC As p.1) (gC Bs p.2))→256<fl.length→E (.ref T) none H')
def Few(ps qs:List Pt)(d:Nat):Prop:=∀ e,e≤d→∃ f tt,Told (MQ ps qs) e f tt∧f.length≤256
def a7s(K:c2f)(T:Addr):Sp:=fun vs H Q E=>∃ (a b:Addr) (us ws:List V) (ps qs:List Pt) (D:Int) (m L:Nat),vs=[.ref a,.ref b,.int (L:Int)]∧H a=some (.lst us)∧PtsV H us ps∧H b=some (.lst ws)∧PtsV H ws qs∧1≤ps.length∧ps.length≤12∧1≤qs.length∧qs.length≤12∧0<D∧Sz 150 D∧m≤350∧(∀ p∈ps++qs,OvP D m p)∧L≤6∧L*(max ps.length qs.length - 1)≤40∧
 (∀ (c lf lh:Addr) (vf vh:List V) (fl:List Pl) (tt:List (Nat×Pl)) (H':Hp),Same H H'→H' c=some (.tup [.ref lf,.ref lh])→H lf=none→H lh=none→H' lf=some (.lst vf)→H' lh=some (.lst vh)→lf≠lh→PlsV H' vf fl→TdV H' vh tt (LnQB ps qs)→Told (MQ ps qs) L fl tt→Few ps qs L→Q (.ref c) H')∧
 (∀ (d:Nat) (fl:List Pl) (tt:List (Nat×Pl)) (H':Hp),d≤L→Same H H'→Told (MQ ps qs) d fl tt→256<fl.length→E (.ref T) none H')
theorem b0g{J:It}{te:TE}{cs:L2.St}{Q:VK}{H1:Hp}{d:Nat}{vh:List V}{tl:List Pl}{Ln:Nat→Pl→Rat→Rat→Rat→Prop}{f:Nat→V}(hJ:b3f J H1 vh.length f)(hf:∀ i v,vh[i]?=some v→f i=v)(hT:ThV H1 vh tl (Ln d))(hn:tl.length≤2000)(he:∀ (t:Addr) (xs:List V) (H2:Hp) (k:VK),H2 t=some (.tup xs)→xs≠[]→xs.length≤6→(∀ c H3,Same H2 H3→H3 c=some (.tup (.int (d:Int)::xs))→k (.ref c) H3)→te (some (.ref t)::cs) H2 k)(hq:∀ D ys H2,H1 D=none→Same H1 H2→H2 D=some (.lst ys)→TdV H2 ys (tl.map (c6u d)) Ln→Q (.ref D) H2):a5p 1 J H1 (a3l 0) te cs Q:=by
 have hl:=hT.len
 refine b2w hJ (by omega) (fun i v H=>∀ p,tl[i]?=some p→∃ (t:Addr) (w1 w2 w3:V) (q1 q2 q3:Rat),v=.ref t∧H t=some (.tup [.int (d:Int),.int p.1,.int p.2,w1,w2,w3])∧ShV H w1 q1∧ShV H w2 q2∧ShV H w3 q3∧Ln d p q1 q2 q3) (fun i v H H' s h p e=>?_) (fun i H2 k hi s2 hk=>?_) (fun D ys H2 hD s2 hd hy hr=>?_)
 · obtain⟨t,w1,w2,w3,q1,q2,q3,r1,r2,r3,r4,r5,r6⟩:=h p e
   exact⟨t,w1,w2,w3,q1,q2,q3,r1,s _ _ r2,r3.tup s,r4.tup s,r5.tup s,r6⟩
 · have e1:vh[i]?=some vh[i]:=c2e hi
   have e2:tl[i]?=some (tl[i]'(by omega (config:={}))):=c2e (by omega)
   obtain⟨t,w1,w2,w3,q1,q2,q3,r1,r2,r3,r4,r5,r6⟩:=hT.get i _ _ e1 e2
   rw[hf i _ e1,r1]
   refine he t _ H2 k (s2 _ _ r2) (by simp) (by simp) (fun c H3 s3 hc=>hk _ _ s3 (fun p hp=>?_))
   rw[e2] at hp
   cases hp
   exact⟨c,w1,w2,w3,q1,q2,q3,rfl,hc,(r3.same s2).same s3,(r4.same s2).same s3,(r5.same s2).same s3,r6⟩
 · refine hq D ys H2 hD s2 hd ⟨by rw[c2h];omega,fun i v r e1 e2=>?_⟩
   rw[c2p] at e2
   cases hz:tl[i]? with
   | none=>rw[hz] at e2;cases e2
   | some p=>
     rw[hz] at e2
     cases e2
     exact hr i v e1 p hz
def ExL(X Y R:Int)(c1 c2:List Pl)(tt:List (Nat×Pl)):Prop:=∀ r∈tt,∃ q1 q2 q3,b0p X Y R c1 c2 r.1 r.2 q1 q2 q3
theorem ThV.ex{H:Hp}{vs:List V}{tl:List Pl}{Ln:Pl→Rat→Rat→Rat→Prop}(h:ThV H vs tl Ln):∀ p∈tl,∃ q1 q2 q3,Ln p q1 q2 q3:=fun p hp=>by
 obtain⟨i,hi,e⟩:=c3a hp
 have hl:=h.len
 obtain⟨t,w1,w2,w3,q1,q2,q3,_,_,_,_,_,r6⟩:=h.get i _ p (c2e (by omega)) (by rw[c2e hi,e])
 exact⟨q1,q2,q3,r6⟩
theorem ExL.add{H:Hp}{vs:List V}{X Y R:Int}{c1 c2 tl:List Pl}{tt:List (Nat×Pl)}{d:Nat}(h:ExL X Y R c1 c2 tt)(hT:ThV H vs tl (b0p X Y R c1 c2 d)):ExL X Y R c1 c2 (tt++tl.map (c6u d)):=fun r hr=>by
 rcases c3n.mp hr with hr | hr
 · exact h r hr
 · obtain⟨p,hp,rfl⟩:=c3w.mp hr
   exact hT.ex p hp
theorem toldE{ps qs:List Pt}{L d:Nat}{X Y R:Int}{c1 c2 f:List Pl}{tt:List (Nat×Pl)}(h1:1≤ps.length)(h2:1≤qs.length)(h:WcOf ps qs L X Y R c1 c2)(hd:d≤L)(hT:ExL X Y R c1 c2 tt)(t:Told (b1u c1 c2) d f tt):Told (MQ ps qs) d f tt:=by
 refine t.conv (fun e he p hm=>h.mq h1 h2 (c4g he hd) hm) fun r hr hm=>?_
 obtain⟨q1,q2,q3,hl⟩:=hT r hr
 exact hm q1 q2 q3 (h.line h1 h2 (c4g (t.ins.2 r hr).1 hd) hl.1)
def FewI(X Y R:Int)(c1 c2:List Pl)(d:Nat):Prop:=∀ e,e≤d→∃ (f:List Pl) (tt:List (Nat×Pl)),ExL X Y R c1 c2 tt∧Told (b1u c1 c2) e f tt∧f.length≤256
theorem FewI.step{X Y R:Int}{c1 c2:List Pl}{d:Nat}{f:List Pl}{tt:List (Nat×Pl)}(h:FewI X Y R c1 c2 d)(hT:ExL X Y R c1 c2 tt)(t:Told (b1u c1 c2) (d+1) f tt)(hn:f.length≤256):FewI X Y R c1 c2 (d+1):=by
 intro e he
 by_cases z:e=d+1
 · subst z
   exact⟨f,tt,hT,t,hn⟩
 · exact h e (by omega)
theorem FewI.few{ps qs:List Pt}{L d:Nat}{X Y R:Int}{c1 c2:List Pl}(h1:1≤ps.length)(h2:1≤qs.length)(h:WcOf ps qs L X Y R c1 c2)(k:FewI X Y R c1 c2 d)(e:d=L):Few ps qs L:=by
 subst e
 intro e he
 obtain⟨f,tt,hT,t,hn⟩:=k e he
 exact⟨f,tt,toldE h1 h2 h he hT t,hn⟩
end Cv
namespace Cv
open PySem PySem.Spec PyProof.Rows L2
theorem Told.out{M:Nat→Pl→Prop}{d:Nat}{f:List Pl}{tt:List (Nat×Pl)}(h:Told M d f tt):∀ r∈tt,¬ M r.1 r.2:=by
 induction h with
 | zero p _ n=>
   intro r hr
   obtain⟨q,hq,rfl⟩:=c3w.mp hr
   exact n q hq
 | step _ _ _ _ _ n ih=>
   intro r hr
   rcases c3n.mp hr with hr | hr
   · exact ih r hr
   · obtain⟨q,hq,rfl⟩:=c3w.mp hr
     exact n q hq
theorem Told.dues{M:Nat→Pl→Prop}{d:Nat}{f:List Pl}{tt:List (Nat×Pl)}(h:Told M d f tt)(hH:∀ e,e≤d→∀ s,InL d s→M d s→M e (s.1 / 2^(d - e),s.2 / 2^(d - e)))(s:Pl):s∈f↔InL d s∧M d s:=by
 refine⟨fun z=>⟨h.ins.1 s z,h.all s z⟩,fun⟨i,m⟩=>?_⟩
 have c:=h.fill s i
 by_cases z:s∈f
 · exact z
 · rw[c5q z,Nat.zero_add] at c
   obtain⟨r,hr,e⟩:=List.countP_pos_iff.mp (by omega:0<tt.countP (Hid d s))
   have e':=of_decide_eq_true e
   refine absurd ?_ (h.out r hr)
   rw[e']
   exact hH r.1 (h.ins.2 r hr).1 s i m
theorem Told.due{M:Nat→Pl→Prop}{d:Nat}{f g:List Pl}{tt:List (Nat×Pl)}(h:Told M d f tt)(hH:∀ e,e≤d→∀ s,InL d s→M d s→M e (s.1 / 2^(d - e),s.2 / 2^(d - e)))(hs:g.Pairwise lxP)(hg:∀ s,s∈g↔InL d s∧M d s):f=g:=
 a8j h.sort hs (fun p z=>by unfold lxP at z;omega) (fun p q z y=>by unfold lxP at z y;omega) fun p=>(h.dues hH p).trans (hg p).symm
theorem Told.alls{M:Nat→Pl→Prop}{d:Nat}{f:List Pl}{tt:List (Nat×Pl)}(h:Told M d f tt)(hM:∀ e p,e≤d→InL e p→M e p):tt=[]∧f.length=4^d:=by
 have:tt=[]:=by
   cases tt with
   | nil=>rfl
   | cons r t=>
     have hr:r∈r::t:=by simp
     exact absurd (hM r.1 r.2 (h.ins.2 r hr).1 (h.ins.2 r hr).2) (h.out r hr)
 refine⟨this,?_⟩
 have c:=h.tot
 rw[this] at c
 simpa using c
def allPr(d:Nat):List Pl:=(c4a (2^d*2^d)).map fun k=>(((k / 2^d:Nat):Int),((k % 2^d:Nat):Int))
theorem a9m{d:Nat}(s:Pl):s∈allPr d↔InL d s:=by
 have h2:0<2^d:=c7o d
 have c:((2^d:Nat):Int)=2^d:=by simp
 unfold allPr InL
 rw[c3w]
 constructor
 · rintro⟨k,hk,rfl⟩
   have hk:=c4t.mp hk
   have a:=Nat.div_lt_of_lt_mul hk
   have b:=Nat.mod_lt k h2
   refine⟨Int.natCast_nonneg _,by rw[← c];exact Int.ofNat_lt.mpr a,Int.natCast_nonneg _,by rw[← c];exact Int.ofNat_lt.mpr b⟩
 · rintro⟨a,b,e,g⟩
   obtain⟨s1,s2⟩:=s
   dsimp only at *
   obtain⟨x,rfl⟩:=Int.eq_ofNat_of_zero_le a
   obtain⟨y,rfl⟩:=Int.eq_ofNat_of_zero_le e
   rw[← c] at b g
   have b':x<2^d:=by exact_mod_cast b
   have g':y<2^d:=by exact_mod_cast g
   refine⟨2^d*x+y,c4t.mpr ?_,?_⟩
   · calc 2^d*x+y<2^d*x+2^d:=by omega
       _=2^d*(x+1):=by rw[Nat.mul_succ]
       _≤2^d*2^d:=c6k _ b'
   · rw[Nat.mul_add_div h2,Nat.div_eq_of_lt g',Nat.mul_add_mod,Nat.mod_eq_of_lt g'];simp
theorem b0o(d:Nat):(allPr d).Pairwise lxP:=by
 have h2:0<2^d:=c7o d
 unfold allPr
 rw[List.pairwise_map]
 refine c7i.imp (fun {a b} (h:a<b)=>?_) List.pairwise_lt_range
 unfold lxP
 dsimp only
 have l:=Nat.div_le_div_right (c:=2^d) (c5k h)
 rcases Nat.lt_or_eq_of_le l with l | l
 · exact .inl (by exact_mod_cast l)
 · refine .inr ⟨by rw[l],?_⟩
   have p:=Nat.div_add_mod a (2^d)
   have q:=Nat.div_add_mod b (2^d)
   rw[l] at p
   omega
theorem Told.allPr{M:Nat→Pl→Prop}{d:Nat}{f:List Pl}{tt:List (Nat×Pl)}(h:Told M d f tt)(hM:∀ e p,e≤d→InL e p→M e p):f=allPr d:=by
 refine a8j h.sort (b0o d) (fun p z=>by unfold lxP at z;omega) (fun p q z y=>by unfold lxP at z y;omega) fun p=>?_
 rw[a9m]
 refine⟨fun z=>h.ins.1 p z,fun z=>?_⟩
 have c:=h.fill p z
 rw[(h.alls hM).1] at c
 by_cases y:p∈f
 · exact y
 · rw[c5q y] at c
   simp at c
theorem Told.nones{M:Nat→Pl→Prop}{d:Nat}{f:List Pl}{tt:List (Nat×Pl)}(h:Told M d f tt)(h0:¬ M 0 (0,0)):f=[]∧tt=[(0,(0,0))]:=by
 induction h with
 | zero p m n=>
   rename_i f t
   have e:f=[]:=by
     cases f with
     | nil=>rfl
     | cons a r=>
       have:=c3h.mp (p.sub.1.subset (c5z (a:=a) (l:=r)))
       exact absurd (this ▸ m a (by simp)) h0
   subst e
   refine⟨rfl,?_⟩
   have:=p.perm.length_eq
   have s:=p.sub.2
   cases t with
   | nil=>simp at this
   | cons a r=>
     have q:=c3h.mp (s.subset (c5z (a:=a) (l:=r)))
     have l:=s.length_le
     have:r=[]:=c6t (by rw[c3r,List.length_singleton] at l;omega)
     rw[q,this];rfl
 | step _ hp _ p m n ih=>
   obtain⟨e1,e2⟩:=ih
   subst e1
   have:=hp.eq_nil
   subst this
   have a:=List.sublist_nil.mp p.sub.1
   have b:=List.sublist_nil.mp p.sub.2
   subst a b
   exact⟨rfl,by rw[e2];rfl⟩
theorem b2e{P:Pt}{ps:List Pt}(h:∀ p∈ps,p=P)(t:Rat):∀ r,∀ p∈rowP t ps r,p=P
 | 0=>h
 | r+1=>fun p hp=>by
   have ih:=b2e h t r
   have hp:p∈List.zipWith (btwP t) (rowP t ps r) ((rowP t ps r).drop 1):=hp
   obtain⟨i,hi,e⟩:=c3a hp
   rw[List.getElem_zipWith] at e
   rw[← e,ih _ (c4c _),ih _ (c4f (c4c _))]
   unfold btwP btw
   obtain⟨x,y⟩:=P
   refine Prod.ext ?_ ?_<;>dsimp only<;>grind
theorem b5o{P:Pt}{ps:List Pt}(h:∀ p∈ps,p=P)(h1:1≤ps.length)(t:Rat):ptP t ps=P:=by
 have:=b3x t ps h1
 exact b2e h t (ps.length - 1) _ (by rw[this];simp)
theorem b1e{P:Pt}{ps qs:List Pt}(h:∀ p∈ps,p=P)(g:∀ p∈qs,p=P)(h1:1≤ps.length)(h2:1≤qs.length)(d:Nat)(p:Pl)(i:InL d p):MQ ps qs d p:=by
 intro q1 q2 q3 l
 obtain⟨a,b,c,e⟩:=i
 have l1:=gP_len (ps:=ps) a b
 have l2:=gP_len (ps:=qs) c e
 have z:((2^d:Nat):Int)=2^d:=by simp
 refine b7b (s:=0) (s':=0) l (by omega) (by omega) (by decide) (by decide) (by decide) (by decide) ?_
 have y1:p.1.toNat<2^d:=by
   have:(p.1.toNat:Int)<((2^d:Nat):Int):=by rw[z];omega
   exact_mod_cast this
 have y2:p.2.toNat<2^d:=by
   have:(p.2.toNat:Int)<((2^d:Nat):Int):=by rw[z];omega
   exact_mod_cast this
 have u1:=lv_pt h1 d p.1.toNat y1 0
 have u2:=lv_pt h2 d p.2.toNat y2 0
 rw[show ((p.1.toNat:Nat):Int)=p.1 by omega] at u1
 rw[show ((p.2.toNat:Nat):Int)=p.2 by omega] at u2
 rw[u1,u2,b5o h h1,b5o g h2]
theorem mq_apart{P S:Pt}{ps qs:List Pt}(h:∀ p∈ps,p=P)(g:∀ p∈qs,p=S)(n:P≠S):¬ MQ ps qs 0 (0,0):=by
 intro m
 have e1:gP (lvP ps 0) ((0:Int),(0:Int)).1=ps:=rfl
 have e2:gP (lvP qs 0) ((0:Int),(0:Int)).2=qs:=rfl
 unfold MQ at m
 rw[e1,e2] at m
 have key:∀ (q1 q2 q3:Rat),q1*P.1+q2*P.2<q3→q3<q1*S.1+q2*S.2→False:=fun q1 q2 q3 a b=>m q1 q2 q3 ⟨fun p hp=>by rw[h p hp];exact a,fun p hp=>by rw[g p hp];exact b⟩
 have:P.1<S.1∨S.1<P.1∨P.2<S.2∨S.2<P.2:=by
   rcases Classical.em (P.1<S.1) with z | z
   · exact .inl z
   rcases Classical.em (S.1<P.1) with y | y
   · exact .inr (.inl y)
   rcases Classical.em (P.2<S.2) with x | x
   · exact .inr (.inr (.inl x))
   rcases Classical.em (S.2<P.2) with w | w
   · exact .inr (.inr (.inr w))
   exact absurd (Prod.ext (Rat.le_antisymm (Rat.not_lt.mp y) (Rat.not_lt.mp z)) (Rat.le_antisymm (Rat.not_lt.mp w) (Rat.not_lt.mp x))) n
 rcases this with z | z | z | z
 · exact key 1 0 ((P.1+S.1) / 2) (by grind) (by grind)
 · exact key (-1) 0 (-((P.1+S.1) / 2)) (by grind) (by grind)
 · exact key 0 1 ((P.2+S.2) / 2) (by grind) (by grind)
 · exact key 0 (-1) (-((P.2+S.2) / 2)) (by grind) (by grind)
end Cv
namespace Cv
open PySem PySem.Spec PyProof.Rows L2
abbrev Tri:=Int×Int×Int
def triUp(t:Tri):List Tri:=[(4*t.1,2*(t.1+t.2.1),t.1+2*t.2.1+t.2.2),(t.1+2*t.2.1+t.2.2,2*(t.2.1+t.2.2),4*t.2.2)]
def tri:Nat→List Tri
 | 0=>[(0,1,0)]
 | d+1=>(tri d).flatMap triUp
def triL(d:Nat):List Tri:=(c4a (2^d)).map fun (k:Nat)=>(2*(k:Int)*(2^d - k),2^d*(2*(k:Int)+1) - 2*k*(k+1),2*((k:Int)+1)*(2^d - k - 1))
theorem tri_eq(d:Nat)(h:d≤6):tri d=triL d:=by
 have:d=0∨d=1∨d=2∨d=3∨d=4∨d=5∨d=6:=by omega
 rcases this with rfl | rfl | rfl | rfl | rfl | rfl | rfl<;>decide +kernel
def onW(B W:Pt)(q:Rat)(a:Int):Pt:=(B.1+W.1*((a:Rat)*q),B.2+W.2*((a:Rat)*q))
def onT(B W:Pt)(q:Rat)(t:Tri):List Pt:=[onW B W q t.1,onW B W q t.2.1,onW B W q t.2.2]
theorem on_first(B W:Pt)(q:Rat)(t:Tri):[a4k (1 / 2) (onT B W q t),a7b (1 / 2) (onT B W q t)]=(triUp t).map (onT B W (q / 4)):=by
 obtain⟨a,b,c⟩:=t
 simp only[a4k,a7b,onT,triUp,c3r,List.length_nil,c4u,List.map_nil,rowP,nxP,c6s,List.range_zero,List.nil_append,c7e,List.drop_succ_cons,List.drop_zero,List.zipWith_cons_cons,List.zipWith_nil_right,btwP,btw,onW,Nat.zero_add,Nat.sub_zero,List.getElem?_cons_zero,c5f,Option.getD_some,Nat.reduceSub,Nat.reduceAdd,c6c,c3o]
 simp only[List.cons.injEq,c6u.injEq,and_true]
 refine⟨⟨⟨?_,?_⟩,⟨?_,?_⟩,?_,?_⟩,⟨?_,?_⟩,⟨?_,?_⟩,?_,?_⟩<;>grind
theorem lv_tri(B W:Pt):∀ d,lvP [B,(B.1+W.1,B.2+W.2),B] d=(tri d).map (onT B W (1 / 4^d))
 | 0=>by
   obtain⟨x,y⟩:=B
   obtain⟨u,v⟩:=W
   simp only[lvP,tri,onT,onW,c4u,List.map_nil]
   simp only[List.cons.injEq,c6u.injEq,and_true]
   refine⟨⟨?_,?_⟩,⟨?_,?_⟩,?_,?_⟩<;>grind
 | d+1=>by
   show (lvP _ d).flatMap _=((tri d).flatMap triUp).map _
   rw[lv_tri B W d,List.flatMap_map,List.map_flatMap]
   congr 1
   funext t
   rw[on_first]
   congr 2
   grind
def tmn(t:Tri):Int:=min t.1 (min t.2.1 t.2.2)
def tmx(t:Tri):Int:=max t.1 (max t.2.1 t.2.2)
def ovT(s t:Tri):Bool:=decide (tmn s≤tmx t) && decide (tmn t≤tmx s)
def inT(t:Tri)(x:Int):Prop:=x=t.1∨x=t.2.1∨x=t.2.2
theorem tmn_in(t:Tri):inT t (tmn t):=by unfold inT tmn;omega
theorem tmx_in(t:Tri):inT t (tmx t):=by unfold inT tmx;omega
theorem tmn_le{t:Tri}{x:Int}(h:inT t x):tmn t≤x:=by unfold inT at h;unfold tmn;omega
theorem tmx_ge{t:Tri}{x:Int}(h:inT t x):x≤tmx t:=by unfold inT at h;unfold tmx;omega
theorem b1c{B W:Pt}{q:Rat}{t:Tri}{p:Pt}:p∈onT B W q t↔∃ x,inT t x∧p=onW B W q x:=by
 unfold onT inT
 simp only[c2x,c3u,or_false]
 constructor
 · rintro (h | h | h)
   · exact⟨_,.inl rfl,h⟩
   · exact⟨_,.inr (.inl rfl),h⟩
   · exact⟨_,.inr (.inr rfl),h⟩
 · rintro⟨x,h | h | h,rfl⟩
   · exact .inl (by rw[h])
   · exact .inr (.inl (by rw[h]))
   · exact .inr (.inr (by rw[h]))
theorem ov_noLn{B W:Pt}{q:Rat}(hq:0<q){s t:Tri}(h:ovT s t=true):NoLn (onT B W q s) (onT B W q t):=by
 intro q1 q2 q3 l
 unfold ovT at h
 rw[c4k] at h
 have h1:=of_decide_eq_true h.1
 have h2:=of_decide_eq_true h.2
 have lo:=fun x hx=>l.lo _ (b1c.mpr ⟨x,hx,rfl⟩)
 have hi:=fun x hx=>l.hi _ (b1c.mpr ⟨x,hx,rfl⟩)
 have v:∀ x:Int,q1*(onW B W q x).1+q2*(onW B W q x).2=q1*B.1+q2*B.2+((q1*W.1+q2*W.2)*q)*(x:Rat):=fun x=>by unfold onW;grind
 generalize (q1*W.1+q2*W.2)*q=g at v
 rcases (Rat.le_total:0≤g∨g≤0) with z | z
 · have a:=lo _ (tmx_in s)
   have b:=hi _ (tmn_in t)
   rw[v] at a b
   have:((tmn t:Int):Rat)≤((tmx s:Int):Rat):=c5i.mpr h2
   have:=Rat.mul_le_mul_of_nonneg_left this z
   grind
 · have a:=lo _ (tmn_in s)
   have b:=hi _ (tmx_in t)
   rw[v] at a b
   have:((tmn s:Int):Rat)≤((tmx t:Int):Rat):=c5i.mpr h1
   have:=Rat.mul_le_mul_of_nonneg_left this (show 0≤-g by grind)
   grind
theorem c0l{B W:Pt}(hW:W≠(0,0)){q:Rat}(hq:0<q)(e:Rat){s t:Tri}(m:Rat)(h1:∀ x,inT s x→e*(x:Rat)<m)(h2:∀ x,inT t x→m<e*(x:Rat)):∃ q1 q2 q3,b4s (onT B W q s) (onT B W q t) q1 q2 q3:=by
 have key:∀ q1 q2 a:Rat,(∀ x:Int,q1*(onW B W q x).1+q2*(onW B W q x).2=a+q*(e*(x:Rat)))→∃ q1 q2 q3,b4s (onT B W q s) (onT B W q t) q1 q2 q3:=fun q1 q2 a v=>by
   refine⟨q1,q2,a+q*m,⟨fun p hp=>?_,fun p hp=>?_⟩⟩
   · obtain⟨x,hx,rfl⟩:=b1c.mp hp
     rw[v]
     have:=Rat.mul_lt_mul_of_pos_left (h1 x hx) hq
     grind
   · obtain⟨x,hx,rfl⟩:=b1c.mp hp
     rw[v]
     have:=Rat.mul_lt_mul_of_pos_left (h2 x hx) hq
     grind
 by_cases z:W.1=0
 · have y:W.2≠0:=fun y=>hW (Prod.ext z y)
   refine key 0 (e / W.2) (e / W.2*B.2) fun x=>?_
   unfold onW
   have:e / W.2*W.2=e:=Rat.div_mul_cancel y
   grind
 · refine key (e / W.1) 0 (e / W.1*B.1) fun x=>?_
   unfold onW
   have:e / W.1*W.1=e:=Rat.div_mul_cancel z
   grind
theorem noLn_tri{B W:Pt}(hW:W≠(0,0)){q:Rat}(hq:0<q)(s t:Tri):NoLn (onT B W q s) (onT B W q t)↔ovT s t=true:=by
 refine⟨fun n=>?_,ov_noLn hq⟩
 by_cases z:ovT s t=true
 · exact z
 have:tmx t<tmn s∨tmx s<tmn t:=by
   unfold ovT at z
   rw[c4k] at z
   by_cases y:tmn s≤tmx t
   · have:¬ tmn t≤tmx s:=fun w=>z ⟨decide_eq_true y,decide_eq_true w⟩
     exact .inr (by omega)
   · exact .inl (by omega)
 rcases this with y | y
 · have b:((tmx t:Int):Rat)<((tmn s:Int):Rat):=Rat.intCast_lt_intCast.mpr y
   have k1:∀ x,inT s x→(-1:Rat)*(x:Rat) < -(((tmx t:Int):Rat)+((tmn s:Int):Rat)) / 2:=fun x hx=>by
     have a:((tmn s:Int):Rat)≤(x:Rat):=c5i.mpr (tmn_le hx)
     grind
   have k2:∀ x,inT t x→-(((tmx t:Int):Rat)+((tmn s:Int):Rat)) / 2<(-1:Rat)*(x:Rat):=fun x hx=>by
     have a:(x:Rat)≤((tmx t:Int):Rat):=c5i.mpr (tmx_ge hx)
     grind
   obtain⟨a,b,c,l⟩:=c0l (B:=B) hW hq (-1) _ k1 k2
   exact (n a b c l).elim
 · have b:((tmx s:Int):Rat)<((tmn t:Int):Rat):=Rat.intCast_lt_intCast.mpr y
   have k1:∀ x,inT s x→(1:Rat)*(x:Rat)<(((tmx s:Int):Rat)+((tmn t:Int):Rat)) / 2:=fun x hx=>by
     have a:(x:Rat)≤((tmx s:Int):Rat):=c5i.mpr (tmx_ge hx)
     grind
   have k2:∀ x,inT t x→(((tmx s:Int):Rat)+((tmn t:Int):Rat)) / 2<(1:Rat)*(x:Rat):=fun x hx=>by
     have a:((tmn t:Int):Rat)≤(x:Rat):=c5i.mpr (tmn_le hx)
     grind
   obtain⟨a,b,c,l⟩:=c0l (B:=B) hW hq 1 _ k1 k2
   exact (n a b c l).elim
def ovD(d:Nat)(s:Pl):Bool:=ovT (((triL d)[s.1.toNat]?).getD (0,0,0)) (((triL d)[s.2.toNat]?).getD (0,0,0))
def a6p(d:Nat):List Pl:=(allPr d).filter (ovD d)
theorem b2p:(a6p 0).length≤256∧(a6p 1).length≤256∧(a6p 2).length≤256∧(a6p 3).length≤256∧(a6p 4).length≤256∧(a6p 5).length≤256:=by decide +kernel
theorem fold_up(d:Nat)(h:d≤5):((allPr (d+1)).all fun s=>!ovD (d+1) s || ovD d (s.1 / 2,s.2 / 2))=true:=by
 have:d=0∨d=1∨d=2∨d=3∨d=4∨d=5:=by omega
 rcases this with rfl | rfl | rfl | rfl | rfl | rfl<;>decide +kernel
theorem b1d{B W:Pt}(hW:W≠(0,0)){d:Nat}(hd:d≤6){s:Pl}(i:InL d s):MQ [B,(B.1+W.1,B.2+W.2),B] [B,(B.1+W.1,B.2+W.2),B] d s↔ovD d s=true:=by
 have g:∀ x:Int,0≤x→x<2^d→gP (lvP [B,(B.1+W.1,B.2+W.2),B] d) x=onT B W (1 / 4^d) (((triL d)[x.toNat]?).getD (0,0,0)):=fun x h0 h1=>by
   unfold gP
   rw[lv_tri,tri_eq d hd,c2p]
   have z:((2^d:Nat):Int)=2^d:=by simp
   have l:x.toNat<(triL d).length:=by
     unfold triL
     rw[c2h,c4l]
     have:(x.toNat:Int)<((2^d:Nat):Int):=by rw[z];omega
     exact_mod_cast this
   rw[c2e l]
   rfl
 obtain⟨a,b,c,e⟩:=i
 unfold MQ ovD
 rw[g _ a b,g _ c e]
 refine noLn_tri hW ?_ _ _
 have:d=0∨d=1∨d=2∨d=3∨d=4∨d=5∨d=6:=by omega
 rcases this with rfl | rfl | rfl | rfl | rfl | rfl | rfl<;>decide +kernel
theorem InL.up{d:Nat}{s:Pl}(i:InL (d+1) s):InL d (s.1 / 2,s.2 / 2):=by
 obtain⟨a,b,c,e⟩:=i
 have z:(2:Int)^(d+1)=2*2^d:=by rw[Int.pow_succ,c5c]
 rw[z] at b e
 refine⟨?_,?_,?_,?_⟩<;>dsimp only<;>omega
theorem b9t:∀ (k e:Nat),e+k≤6→∀ s,InL (e+k) s→ovD (e+k) s=true→ovD e (s.1 / 2^k,s.2 / 2^k)=true∧InL e (s.1 / 2^k,s.2 / 2^k)
 | 0,e,_,s,i,h=>by simpa using ⟨h,i⟩
 | k+1,e,he,s,i,h=>by
   have i':InL (e+k+1) s:=i
   have u:=c6g.mp (fold_up (e+k) (by omega)) s ((a9m s).mpr i')
   have h':ovD (e+k+1) s=true:=h
   rw[h'] at u
   have u:ovD (e+k) (s.1 / 2,s.2 / 2)=true:=by simpa using u
   have r:=b9t k e (by omega) _ i'.up u
   have q:∀ x:Int,x / 2 / 2^k=x / 2^(k+1):=fun x=>by
     rw[Int.pow_succ,c5c,← Int.ediv_ediv_of_nonneg (by decide)]
   dsimp only at r
   rw[q,q] at r
   exact r
theorem a8f{B W:Pt}(hW:W≠(0,0)){d:Nat}(hd:d≤6){f:List Pl}{tt:List (Nat×Pl)}(h:Told (MQ [B,(B.1+W.1,B.2+W.2),B] [B,(B.1+W.1,B.2+W.2),B]) d f tt):f=a6p d:=by
 refine h.due (fun e he s i m=>?_) (c7i.sublist List.filter_sublist (b0o d)) fun s=>?_
 · obtain⟨k,rfl⟩:=Nat.exists_eq_add_of_le he
   rw[Nat.add_sub_cancel_left]
   obtain⟨r1,r2⟩:=b9t k e hd s i ((b1d hW hd i).mp m)
   exact (b1d hW (by omega) r2).mpr r1
 · unfold a6p
   rw[List.mem_filter,a9m]
   exact⟨fun⟨a,b⟩=>⟨a,(b1d hW hd a).mpr b⟩,fun⟨a,b⟩=>⟨a,(b1d hW hd a).mp b⟩⟩
end Cv
namespace Cv
open PySem PySem.Spec PyProof.Rows L2
def spAllL(K:c2f):Sp:=fun vs H Q _=>∃ (L:Nat),vs=[.int (L:Int)]∧L≤6∧∀ (l:Addr) (ys:List V) (H':Hp),Same H H'→H l=none→H' l=some (.lst ys)→PlsV H' ys (allPr L)→Q (.ref l) H'
theorem pow6{L:Nat}(h:L≤6):1≤(2:Nat)^L∧(2:Nat)^L≤64∧2^L*2^L≤4096:=by
 have:L=0∨L=1∨L=2∨L=3∨L=4∨L=5∨L=6:=by omega
 rcases this with rfl | rfl | rfl | rfl | rfl | rfl | rfl<;>decide
def a8h(K:c2f):Sp:=fun vs H Q _=>∃ (a b:Addr) (us ws:List V) (ps qs:List Pt) (D:Int) (m L:Nat),vs=[.ref a,.ref b,.int (L:Int)]∧H a=some (.lst us)∧PtsV H us ps∧H b=some (.lst ws)∧PtsV H ws qs∧1≤ps.length∧ps.length≤12∧1≤qs.length∧qs.length≤12∧0<D∧Sz 150 D∧m≤350∧(∀ p∈ps++qs,OvP D m p)∧L≤6∧L*(max ps.length qs.length - 1)≤40∧¬ Few ps qs L∧∀ H',Same H H'→Q (.bl true) H'
def a7j(d:Nat):List Pl:=(triL d).map fun t=>(tmn t,tmx t)
def rowF(d i:Nat):List Pl:=((c4a (2^d)).filter fun (j:Nat)=>ovD d ((i:Int),(j:Int))).map fun (j:Nat)=>((i:Int),(j:Int))
theorem c1d(d:Nat)(h:d≤6):a6p d=(c4a (2^d)).flatMap (rowF d):=by
 have:d=0∨d=1∨d=2∨d=3∨d=4∨d=5∨d=6:=by omega
 rcases this with rfl | rfl | rfl | rfl | rfl | rfl | rfl<;>decide +kernel
theorem few_not{B W:Pt}(hW:W≠(0,0)):¬ Few [B,(B.1+W.1,B.2+W.2),B] [B,(B.1+W.1,B.2+W.2),B] 6:=fun h=>by
 obtain⟨f,tt,hT,hl⟩:=h 6 (by decide)
 rw[a8f hW (by decide) hT] at hl
 exact absurd hl (by decide +kernel)
theorem few_big{B W:Pt}(hW:W≠(0,0)){d:Nat}{f:List Pl}{tt:List (Nat×Pl)}(h:Told (MQ [B,(B.1+W.1,B.2+W.2),B] [B,(B.1+W.1,B.2+W.2),B]) d f tt)(hd:d≤5)(hb:256<f.length):False:=by
 rw[a8f hW (by omega) h] at hb
 have l:=b2p
 have:d=0∨d=1∨d=2∨d=3∨d=4∨d=5:=by omega
 rcases this with rfl | rfl | rfl | rfl | rfl | rfl<;>omega
theorem c1y{P:Pt}{ps qs:List Pt}(h:∀ p∈ps,p=P)(g:∀ p∈qs,p=P)(h1:1≤ps.length)(h2:1≤qs.length){L:Nat}(hL:5≤L):¬ Few ps qs L:=fun k=>by
 obtain⟨f,tt,hT,hl⟩:=k 5 hL
 have:=(hT.alls fun e p _ i=>b1e h g h1 h2 e p i).2
 have e:(4:Nat)^5=1024:=by decide
 omega
theorem c1z{P:Pt}{ps qs:List Pt}(h:∀ p∈ps,p=P)(g:∀ p∈qs,p=P)(h1:1≤ps.length)(h2:1≤qs.length){d:Nat}{f:List Pl}{tt:List (Nat×Pl)}(hT:Told (MQ ps qs) d f tt)(hd:d≤4)(hb:256<f.length):False:=by
 have:=(hT.alls fun e p _ i=>b1e h g h1 h2 e p i).2
 have e:(4:Nat)^d≤4^4:=Nat.pow_le_pow_right (by decide) hd
 have e4:(4:Nat)^4=256:=by decide
 omega
theorem st5{l:L2.St}(h:l.length=5):∃ a b c d e,l=[a,b,c,d,e]:=by
 match l,h with
 | [a,b,c,d,e],_=>exact⟨a,b,c,d,e,rfl⟩
def b5h(K:c2f):Sp:=fun vs H Q _=>∃ (L:Nat),vs=[.int (L:Int)]∧L≤6∧∀ (l:Addr) (ys:List V) (H':Hp),Same H H'→H l=none→H' l=some (.lst ys)→PlsV H' ys (a6p L)→Q (.ref l) H'
end Cv
namespace Cv
open PySem PySem.Spec PyProof.Rows L2
section
variable {prog:Program} {w:World} {A:Around} {R:Result→Shared→Prop} {s:Shared}
theorem a9x{elt target iter tst:Expr}{scope:Scope}{pos:Pos}{it acc:Value}{env:Env}(I:Nat→Shared→Prop)(turn:∀ n s,I n s→wpAny (model prog w) A (pyNext it) (fun r s₁=>match r with
     | none=>R (.ok .next) s₁
     | some v=>wpAny (model prog w) A (letOwnedTupleGo target it v) (fun _ s₁'=>wpAny (model prog w) A (assign target env v) (fun _ s₂=>
         wpAny (model prog w) A (forIn [tst] true fun c r=>if r=true then do let ok ← isTrue c env (eval c env);pure (ForInStep.yield ok) else pure (ForInStep.yield r)) (fun ok s₂'=>
         if ok=true then wpAny (model prog w) A (eval elt env) (fun x s₃=>
         wpAny (model prog w) A (call (.builtin "list.append") [acc,x]) (fun _ s₄=>∃ m,m<n∧I m s₄) (notedBy (model prog w) A env fun e s'=>R (.error e) s') s₃)
         (notedBy (model prog w) A env fun e s'=>R (.error e) s') s₂' else ∃ m,m<n∧I m s₂') (notedBy (model prog w) A env fun e s'=>R (.error e) s') s₂) (notedBy (model prog w) A env fun e s'=>R (.error e) s') s₁') (notedBy (model prog w) A env fun e s'=>R (.error e) s') s₁) (notedBy (model prog w) A env fun e s'=>R (.error e) s') s)(n:Nat)(h:I n s) :
   codeAny (model prog w) A (.compLoop (.ListComp elt [⟨target,iter,[tst],0⟩] scope pos) 0 it acc env) R s:=by
 refine codeAny_loop rfl I (fun n s hI=>?_) n h
 show wpAny _ _ ((compTurn (.ListComp elt [⟨target,iter,[tst],0⟩] scope pos) 0 it acc env).onRaise (fun x=>do noteFrame x env;theTreesLotGoes x)) _ _ s
 refine wpAny_noted ?_
 rw[compTurn_list]
 refine wpAny_bind (wpAny_standAt (wpAny_bind (wpAny_mono (turn n s hI) (fun r s₁ h₁=>?_) fun _ _ h'=>h')))
 cases r with
 | none=>exact wpAny_pure h₁
 | some v=>
   refine wpAny_bind (wpAny_mono h₁ (fun _ s₁' h₁'=>?_) fun _ _ h'=>h')
   refine wpAny_bind (wpAny_mono h₁' (fun _ s₂ h₂=>wpAny_bind (wpAny_mono h₂ (fun ok s₃ h₃=>?_) fun _ _ h'=>h')) fun _ _ h'=>h')
   cases ok with
   | false=>exact wpAny_pure ⟨rfl,h₃⟩
   | true=>exact wpAny_bind (wpAny_bind (wpAny_mono h₃ (fun x s₃ h₃=>wpAny_bind (wpAny_mono h₃ (fun _ s₄ h₄=>wpAny_pure (wpAny_pure ⟨rfl,h₄⟩)) fun _ _ h'=>h')) fun _ _ h'=>h'))
end
def b3g(k:Nat)(J:It)(H1:Hp)(g:TG)(tt:TT)(te:TE)(cs:L2.St)(Q:VK):Prop:=∀ D,H1 D=none→∃ W:Nat→Nat→List V→Hp→Prop,(∃ m,W 0 m [] (upd H1 D (.lst [])))∧
 ∀ i m ys H2,W i m ys H2→(J.stop i H2∧Q (.ref D) H2)∨(J.go i H2∧∀ x H',J.yld i H2 x H'→∀ own:L2.St,own.length=k→g x (own++cs) H' fun σ2 H4=>(∃ own':L2.St,own'.length=k∧σ2=own'++cs)∧
   tt σ2 H4 fun b H5=>if b=true then te σ2 H5 fun v H3=>H3 D=some (.lst ys)∧ys.length<sizeLine∧∃ m',m' < m∧W (i+1) m' (ys++[v]) (upd H3 D (.lst (ys++[v]))) else ∃ m',m' < m∧W (i+1) m' ys H5)
def b4w(k:Nat)(wi:TI)(g:TG)(tt:TT)(te:TE)(ix:List Nat):TE:=fun σ H Q=>wi σ H fun J H1=>b3g k J H1 g tt te (capd σ ix) Q
section
variable {X:Cx}
theorem b7n{tg elt iter tst:Expr}{os:List Str}{pos ipos:Pos}{scope:Scope}{wi:TI}{g:TG}{tt:TT}{te:TE}{caps:List (Nat×Str)}{pins:List (Addr×Obj)}{s:Shared}{σ:L2.St}{H:Hp}{Q:VK}{use:Option (Value→Sem Unit)}{R:Value→Shared→Prop}(hi:PI X tg iter wi)(hg:∀ cl C s0 H0 fp,PG (a0h X scope cl (os++caps.map (·.2)) C s0 H0 fp) tg g)(ht:∀ cl C s0 H0 fp,PT (a0h X scope cl (os++caps.map (·.2)) C s0 H0 fp) tst tt)(he:∀ cl C s0 H0 fp,PE (a0h X scope cl (os++caps.map (·.2)) C s0 H0 fp) elt te)(hfree:∀ y∈scope.names,y.2=.free→X.env.kindOf y.1=some .cell)(hcap:∀ p∈caps,X.N[p.1]?=some p.2∧X.env.kindOf p.2=some .cell∧((relabel scope X.env).names.lookup p.2=some .cell∨(relabel scope X.env).names.lookup p.2=some .free))(hkind:scope.kind=.function)(hcell:∀ y∈scope.names,y.2≠.cell)(hnames:∀ y∈scope.names,y.2=.local→scope.names.lookup y.1=some .local)(hc:X.calm=true)(hfs:∀ v,foldedSetIterable iter X.env v=pure v)(hfin:∀ D C H5 s6 m6,Inv X pins σ H5 s6→s6.heap.Ns C m6→FpOk X pins H5 C→Q (.ref D) H5→compPost (model X.prog X.w) X.A X.xe use R (.ref D) C (.ok .next) s6)(I:Inv X pins σ H s)(h:b4w os.length wi g tt te (caps.map (·.1)) σ H Q) :
   wpAny (model X.prog X.w) X.A (comprehension (.ListComp elt [⟨tg,iter,[tst],0⟩] scope pos) scope X.env ipos (newList []) false (eval iter X.env) use) R X.xe s:=by
 obtain⟨cl,hclos,hcl,hin⟩:=a5o (scope:=scope) (env:=X.env) fun y hy hf=>I.ok.has y.1 (.inl (hfree y hy hf))
 have hhas:∀ y,((relabel scope X.env).names.lookup y=some .cell∨(relabel scope X.env).names.lookup y=some .free)→∃ c,cl.lookup y=some c:=fun y hy=>by
   rcases hy with hy | hy
   · exact hin (y,.free) (a1j (env:=X.env) hcell hy (.inl rfl)) rfl
   · exact hin (y,.free) (a1j (env:=X.env) hcell hy (.inr rfl)) rfl
 refine wpAny_comprehension_free (use:=use) rfl hfs hclos hkind hnames ?_
 refine thn (hi pins s σ H _ I h) fun v s1 h1=>thn h1 fun itv s2 h2=>?_
 obtain⟨it,fp,tn,J,H1,rfl,I2,T,st2,f2,rd⟩:=h2
 refine wpAny_newObj_type ?_ (by show 0≤sizeLine;decide)
 have hD:H1 s2.heap.objs.size=none:=I2.hok.fresh (c2o _)
 obtain⟨W,⟨m0,w0⟩,turn⟩:=rd s2.heap.objs.size hD
 generalize eD:s2.heap.objs.size=D at hD w0 turn
 have I3:Inv X pins σ (upd H1 D (.lst [])) { s2 with heap:=s2.heap.push { cls:=.type "list",data:=.seq ([]:List Value).toArray } }:=by
   subst eD
   exact I2.laid (t':=s2.toks) (fun b u e=>Heap.get?_push_of_some _ e) (c2o _) ⟨c4d _,[],0,.nil,Heap.get?_push_size _ rfl⟩
 generalize e3:({ s2 with heap:=s2.heap.push { cls:=.type "list",data:=.seq ([]:List Value).toArray } }:Shared)=s3 at I3
 have hs3:s3.heap.objs.size=D+1:=by rw[← e3,← eD];simp
 have k23:∀ b o,s2.heap.get? b=some o→s3.heap.get? b=some o:=fun b o e=>by rw[← e3];exact Heap.get?_push_of_some _ e
 refine wpAny_newFunctionEnv hcell (by intro y hy;simp at hy) (fun h4 hn4 hs4=>?_) hkind
 have k34:∀ b o,s3.heap.get? b=some o→h4.get? b=some o:=fun b o e=>(hs4.2 b (c3e (Heap.lt_size e))).trans (Heap.get?_push_of_some _ e)
 generalize eC:s3.heap.objs.size=C at hn4 hs4
 have hfpC:∀ b∈fp,b≠C:=fun b hb z=>by
   obtain⟨o,e,_⟩:=T.obj 0 _ st2 b hb
   have h1:=Heap.lt_size e
   rw[z,← eC,hs3,eD] at h1
   exact absurd h1 (Nat.not_lt.mpr (c6j D))
 have hfps:∀ b∈fp,b∉frs X.stack:=fun b hb z=>by
   rcases c2x.mp (I2.stkSub b z) with q | q
   · exact (f2 b hb).2.1 q
   · exact (f2 b hb).2.2.1 q
 have hfpD:∀ b∈fp,b≠D:=fun b hb z=>by
   obtain⟨o,e,_⟩:=T.obj 0 _ st2 b hb
   have h1:=Heap.lt_size e
   rw[z,eD] at h1
   exact c4n _ h1
 have okc:(a0h X scope cl (os++caps.map (·.2)) C s3 (upd H1 D (.lst [])) fp).Ok:=by
   refine⟨I3.ok.mod,hkind,I3.ok.glob,I3.ok.blt,c5t eC,fun y z c h1 h2=>I3.ok.inj y z c (hcl y c h1) (hcl z c h2),fun y hy=>hhas y hy,fun y c hf=>absurd hf c3d,I3.ok.hd,I3.ok.frames,.inl rfl,
     fun b hb=>⟨hfpC b hb,fun y c e=>(f2 b hb).2.2.2.2.1 y c (hcl y c e)⟩,I3.bs,c4g I3.ok.bsz I3.sz,fun b o e hb=>?_,fun b hb=>hfps b hb,I3.stack,I3.stkFree⟩
   rcases (f2 b hb).2.2.2.1 with z | z
   · exact I3.ok.noex b o e z
   · exact c4n _ (c3g (Heap.lt_size (I3.ok.bs b o e).1) z)
 have capS:(capd σ (caps.map (·.1))).length=caps.length:=by unfold capd;rw[c2h,c2h]
 have Ic:Inv (a0h X scope cl (os++caps.map (·.2)) C s3 (upd H1 D (.lst [])) fp) [] (c2n os.length none++capd σ (caps.map (·.1))) (upd H1 D (.lst [])) { s3 with heap:=h4,toks:=s3.toks+([]:List (Str×Value)).length }:=by
   refine⟨okc,rfl,I3.bare,Un.kept k34,⟨_,hn4,fun i y v e1 e2 e3'=>?_⟩,fun y c e=>?_,I3.hok.fresh (c5t eC),fun y c e=>I3.freeC y c (hcl y c e),fun p hp=>absurd hp (by simp),I3.hok.kept k34,?_⟩
   · by_cases hik:i<os.length
     · rw[c2v (by rw[c2r];exact hik),c4v] at e2
       split at e2<;>cases e2
     · have e1':(caps.map (·.2))[i - os.length]?=some y:=by
         have z:(os++caps.map (·.2))[i]?=some y:=e1
         rw[c2w (by omega)] at z
         exact z
       have e2':(capd σ (caps.map (·.1)))[i - os.length]?=some (some v):=by
         rw[c2w (by rw[c2r];omega),c2r] at e2
         exact e2
       generalize i - os.length=i at e1' e2'
       rw[c2p] at e1'
       unfold capd at e2'
       rw[c2p,c2p] at e2'
       cases q:caps[i]? with
       | none=>rw[q] at e1';cases e1'
       | some p=>
         rw[q] at e1' e2'
         have ey:p.2=y:=c2u.inj e1'
         have ev:(σ[p.1]?).getD none=some v:=c2u.inj e2'
         have es:σ[p.1]?=some (some v):=by
           cases z:σ[p.1]? with
           | none=>rw[z] at ev;cases ev
           | some w'=>rw[z] at ev;exact congrArg some ev
         obtain⟨hN,hk,hv⟩:=hcap p (c2m q)
         obtain⟨m,_,hl⟩:=I3.loc
         obtain⟨u,r,lk⟩:=hl p.1 p.2 v hN es (.inr (.inl hk))
         rw[ey] at hk hv lk
         refine⟨u,r,.inr ⟨hv,?_⟩⟩
         obtain⟨c,hc'⟩:=hhas y hv
         rcases lk with⟨z,_⟩ | ⟨_,c2,z,ic⟩
         · rw[hk] at z;cases z
         · have ec:=(hcl y c hc').symm.trans z
           cases ec
           obtain⟨o,ho,hd⟩:=ic
           exact⟨c,hc',o,k34 _ _ ho,hd⟩
   · obtain⟨v,o,ho,hd⟩:=I3.cell y c (hcl y c e)
     exact⟨v,o,k34 _ _ ho,hd⟩
   · show (c2n os.length (none:Option V)++capd σ (caps.map fun p=>p.1)).length=(os++caps.map fun p=>p.2).length
     rw[c2k,c2k,c2r,capS,c2h]
 have fpc:∀ H',(∀ b∈fp,H' b=none)→∀ b∈fp,FpOk (a0h X scope cl (os++caps.map (·.2)) C s3 (upd H1 D (.lst [])) fp) [] H' b:=fun H' hn b hb=>
   ⟨hn b hb,hfpC b hb,hfps b hb,.inl hb,fun y c e=>(f2 b hb).2.2.2.2.1 y c (hcl y c e),fun p hp=>absurd hp (by simp)⟩
 have st4:tn 0 h4:=T.keep _ _ _ (T.keep _ _ _ st2 fun b _ o e=>k23 b o e) fun b _ o e=>k34 b o e
 have fp0:∀ b∈fp,(upd H1 D (.lst [])) b=none:=fun b hb=>by rw[a0j (hfpD b hb)];exact (f2 b hb).1
 have loop:codeAny (model X.prog X.w) X.A (.compLoop (.ListComp elt [⟨tg,iter,[tst],0⟩] scope pos) 0 (.ref it) (.ref D) (compEnvC scope cl C X.env)) (compPost (model X.prog X.w) X.A X.xe use R (.ref D) C)
     { s3 with heap:=h4,toks:=s3.toks+([]:List (Str×Value)).length }:=by
   refine a9x (fun n s'=>∃ i ys own H',own.length=os.length∧Inv (a0h X scope cl (os++caps.map (·.2)) C s3 (upd H1 D (.lst [])) fp) [] (own++capd σ (caps.map (·.1))) H' s'∧tn i s'.heap∧(∀ b∈fp,H' b=none)∧W i n ys H') ?_ m0 ⟨0,[],c2n os.length none,_,c2r,Ic,st4,fp0,w0⟩
   rintro n s5 ⟨i,ys,own,H5,ho5,I5,st5,fr5,w5⟩
   rcases turn i n ys H5 w5 with⟨stop,qn⟩ | ⟨go,step⟩
   · refine thn (T.done (a0h X scope cl (os++caps.map (·.2)) C s3 (upd H1 D (.lst [])) fp) rfl rfl rfl hc i [] s5 _ H5 _ I5 (fpc H5 fr5) st5 stop) fun r s6 ⟨hr,I6⟩=>?_
     subst hr
     obtain⟨m6,hn6,_⟩:=I6.loc
     have hs':Heap.SameBut C s6.heap s6.heap:=⟨rfl,fun _ _=>rfl⟩
     generalize eh':s6.heap=h' at hs'
     have hs':Heap.SameBut C s6.heap h':=by rw[eh'];exact hs'
     have neC:∀ b o,s3.heap.get? b=some o→b≠C:=fun b o e=>c3e (eC ▸ Heap.lt_size e)
     have ns:∀ b o,s2.heap.get? b=some o→b≠D:=fun b o e=>c3e (eD ▸ Heap.lt_size e)
     have B:=I6.base
     have uu:Un (frs X.stack) fp H1 H5 s2.heap h':=by
       refine⟨fun b o e nn hb hf=>?_,fun b o e nn hb hf=>?_,fun b o e nn hf=>?_,fun b o e hf=>?_,fun b xs e=>?_,fun b o u' e=>?_,fun b ps e=>?_⟩
       · exact (hs'.2 b (neC b o (k23 b o e))).trans (B.keep b o (k23 b o e) (by show (upd H1 D _) b=none;rw[a0j (ns b o e)];exact nn) hb hf)
       · obtain⟨sl,z⟩:=B.slot b o (k23 b o e) (by show (upd H1 D _) b=none;rw[a0j (ns b o e)];exact nn) hb hf
         exact⟨sl,(hs'.2 b (neC b o (k23 b o e))).trans z⟩
       · exact B.free b o (k23 b o e) (by show (upd H1 D _) b=none;rw[a0j (ns b o e)];exact nn) hf
       · obtain⟨o',z⟩:=B.there b o (k23 b o e) hf
         exact⟨o',(hs'.2 b (neC b o (k23 b o e))).trans z⟩
       · exact B.tups b xs (by show (upd H1 D _) b=_;rw[a0j (a0l e hD)];exact e)
       · exact B.frzs b o u' (by show (upd H1 D _) b=_;rw[a0j (a0l e hD)];exact e)
       · exact B.tbls b ps (by show (upd H1 D _) b=_;rw[a0j (a0l e hD)];exact e)
     have hok':HOk X.prog X.w H5 h':=fun b o e=>by
       refine (I6.hok b o e).stay (fun c' u' hc' z=>(hs'.2 c' fun zz=>?_).trans z) (fun _ z=>z) fun _ _ z=>z
       have fr:H5 C=none:=I6.free
       rcases hc' with hc' | hc'
       · rw[← zz,hc',e] at fr;cases fr
       · rw[← zz,hc'] at fr;cases fr
     have ho6:s6.os=s2.os:=I6.os.trans (by show s3.os=s2.os;rw[← e3])
     subst eh'
     have hC2:s2.heap.objs.size≤C:=by rw[← eC,hs3,eD];exact c6j D
     exact hfin D C H5 s6 m6 (I2.call' (s':=s6) (ch:=fp) ho6 uu hok' I6.bare (fun b hb=>⟨(f2 b hb).2.2.2.1,(f2 b hb).2.1,(f2 b hb).2.2.2.2.1,(f2 b hb).2.2.2.2.2⟩)) hn6 (I2.fpOk hC2 I6.free) qn
   · refine thn (T.item (a0h X scope cl (os++caps.map (·.2)) C s3 (upd H1 D (.lst [])) fp) rfl rfl rfl hc i [] s5 _ H5 _ I5 (fpc H5 fr5) st5 go) fun r s6 ⟨u,hr,h6⟩=>?_
     subst hr
     refine (thn h6 fun _ s7 ⟨y,H7,I7,r7,y7,st7,fr7⟩=>?_)
     have I7':=I7.pinned (fpc H7 fr7) (T.obj _ _ st7)
     refine wpAny_mono (hg cl C s3 _ fp _ s7 _ H7 y u _ I7' r7 (step y H7 y7 own ho5)) (fun _ s8 ⟨σ8,H8,I8,⟨own',ho8,e8⟩,q8⟩=>?_) fun _ _ z=>z.elim
     subst e8
     refine wpAny_tests_one (wpAny_mono (ht cl C s3 _ fp _ s8 _ H8 _ I8 q8) (fun ok s8 ⟨H8,I8,q8⟩=>?_) fun _ _ z=>z.elim)
     dsimp only at q8
     by_cases hok:ok=true
     rotate_left
     · rw[if_neg hok] at q8 ⊢
       obtain⟨m9,lt9,w9⟩:=q8
       refine⟨m9,lt9,i+1,ys,own',_,ho8,I8.unpinned,T.keep _ _ _ st7 fun b hb o e=>(I8.pin (b,o) (c2j _ (c2j _ (a1f hb e)))).1,fun b hb=>?_,w9⟩
       obtain⟨o,e,_⟩:=T.obj _ _ st7 b hb
       exact (I8.pin (b,o) (c2j _ (c2j _ (a1f hb e)))).2.1
     rw[if_pos hok] at q8 ⊢
     refine wpAny_mono (he cl C s3 _ fp _ s8 _ H8 _ I8 q8) (fun xv s9 ⟨v9,H9,I9,r9,d9,l9,m9,lt9,w9⟩=>?_) fun _ _ z=>z.elim
     refine wpAny_mono (a2q (X:=(a0h X scope cl (os++caps.map (·.2)) C s3 (upd H1 D (.lst [])) fp)) _ s9 _ H9 (.ref D) [v9] (.ref D) [xv] (fun _ H10=>H10=upd H9 D (.lst (ys++[v9]))) I9 rfl (.cons r9 .nil) ⟨D,ys,v9,rfl,rfl,d9,l9,rfl⟩) (fun _ s10 ⟨_,H10,I10,_,e10⟩=>?_) fun _ _ z=>z.elim
     subst e10
     refine⟨m9,lt9,i+1,ys++[v9],own',_,ho8,I10.unpinned,T.keep _ _ _ st7 fun b hb o e=>(I10.pin (b,o) (c2j _ (c2j _ (a1f hb e)))).1,fun b hb=>?_,w9⟩
     obtain⟨o,e,_⟩:=T.obj _ _ st7 b hb
     exact (I10.pin (b,o) (c2j _ (c2j _ (a1f hb e)))).2.1
 exact codeAny_compStart_list loop (T.self _ 0 _ _ _ st4 loop)
theorem pe_compF{tg elt iter tst:Expr}{os:List Str}{pos:Pos}{scope:Scope}{wi:TI}{g:TG}{tt:TT}{te:TE}{caps:List (Nat×Str)}(hi:PI X tg iter wi)(hg:∀ cl C s0 H0 fp,PG (a0h X scope cl (os++caps.map (·.2)) C s0 H0 fp) tg g)(ht:∀ cl C s0 H0 fp,PT (a0h X scope cl (os++caps.map (·.2)) C s0 H0 fp) tst tt)(he:∀ cl C s0 H0 fp,PE (a0h X scope cl (os++caps.map (·.2)) C s0 H0 fp) elt te)(hfree:∀ y∈scope.names,y.2=.free→X.env.kindOf y.1=some .cell)(hcap:∀ p∈caps,X.N[p.1]?=some p.2∧X.env.kindOf p.2=some .cell∧((relabel scope X.env).names.lookup p.2=some .cell∨(relabel scope X.env).names.lookup p.2=some .free))(hkind:scope.kind=.function)(hcell:∀ y∈scope.names,y.2≠.cell)(hnames:∀ y∈scope.names,y.2=.local→scope.names.lookup y.1=some .local)(hc:X.calm=true)(hfs:∀ v,foldedSetIterable iter X.env v=pure v) :
   PE X (.ListComp elt [⟨tg,iter,[tst],0⟩] scope pos) (b4w os.length wi g tt te (caps.map (·.1))):=by
 intro pins s σ H Q I h
 rw[eval_ListComp]
 refine b7n (Q:=Q) (use:=none) (R:=EP X pins σ Q) hi hg ht he hfree hcap hkind hcell hnames hc hfs (fun D C H5 s6 m6 I6 n6 f6 q6=>?_) I h
 refine⟨m6,n6,fun h' hs'=>⟨.ref D,H5,?_,rfl,q6⟩⟩
 exact I6.turned (t':=s6.toks) (fun b o hb e=>(hs'.2 b hb).trans e) f6.1 f6.2.1 f6.2.2.2.1 f6.2.2.2.2.1 f6.2.2.2.2.2
theorem b9m{tg elt iter tst:Expr}{os:List Str}{pos:Pos}{scope:Scope}{wi:TI}{g:TG}{tt:TT}{te:TE}{caps:List (Nat×Str)}(N:List Str)(sc:Scope)(hi:PI X tg iter wi)(hg:∀ cl C s0 H0 fp,PG (a0h X scope cl (os++caps.map (·.2)) C s0 H0 fp) tg g)(ht:∀ cl C s0 H0 fp,PT (a0h X scope cl (os++caps.map (·.2)) C s0 H0 fp) tst tt)(he:∀ cl C s0 H0 fp,PE (a0h X scope cl (os++caps.map (·.2)) C s0 H0 fp) elt te)(ok:a3v N sc scope caps=true)(hN:X.N=N:=by rfl)(hsc:X.env.scope=sc:=by rfl)(hc:X.calm=true:=by rfl)(hfs:∀ v,foldedSetIterable iter X.env v=pure v:=by intro _;rfl) :
   PE X (.ListComp elt [⟨tg,iter,[tst],0⟩] scope pos) (b4w os.length wi g tt te (caps.map (·.1))):=by
 subst hN hsc
 unfold a3v at ok
 simp only[c4k,c6g,decide_eq_true_eq,c7s,c6z,decide_eq_false_iff_not] at ok
 obtain⟨⟨h1,h2⟩,h3⟩:=ok
 refine pe_compF hi hg ht he (fun y hy hf=>?_) (fun p hp=>?_) h1 (fun y hy=>(h2 y hy).1.1) (fun y hy hl=>?_) hc hfs
 · rcases (h2 y hy).1.2 with z | z
   · exact absurd hf z
   · exact z
 · obtain⟨⟨a,b⟩,c⟩:=h3 p hp
   exact⟨a,b,a2x c⟩
 · rcases (h2 y hy).2 with z | z
   · exact absurd hl z
   · exact z
theorem b6r{tg elt iter tst:Expr}{os:List Str}{pos:Pos}{scope:Scope}{wi:TI}{g:TG}{tt:TT}{te:TE}{caps:List (Nat×Str)}(N:List Str)(sc:Scope)(hi:PIi X tg iter wi)(hg:∀ cl C s0 H0 fp,PGi (a0h X scope cl (os++caps.map (·.2)) C s0 H0 fp) tg g)(ht:∀ cl C s0 H0 fp,PTi (a0h X scope cl (os++caps.map (·.2)) C s0 H0 fp) tst tt)(he:∀ cl C s0 H0 fp,PEi (a0h X scope cl (os++caps.map (·.2)) C s0 H0 fp) elt te)(ok:a3v N sc scope caps=true)(hN:X.N=N:=by rfl)(hsc:X.env.scope=sc:=by rfl)(hc:X.calm=true:=by rfl)(hfs:∀ v,foldedSetIterable iter X.env v=pure v:=by intro _;rfl) :
 PEi X (.ListComp elt [⟨tg,iter,[tst],0⟩] scope pos) (b4w os.length wi g tt te (caps.map (·.1))):=by with_unfolding_all exact b9m (N:=N) (sc:=sc) (hi:=hi) (hg:=hg) (ht:=ht) (he:=he) (ok:=ok) (hN:=hN) (hsc:=hsc) (hc:=hc) (hfs:=hfs)
end
section
variable {J:It} {H1:Hp} {tt:TT} {te:TE} {cs:L2.St} {Q:VK} {n:Nat}
theorem comp1F{f:Nat→V}(hJ:b3f J H1 n f)(hn:n≤100000)(p:Nat→Bool)(R:Nat→V→Hp→Prop)(hR:∀ i v H H',Tup H H'→R i v H→R i v H')(ht:∀ i H2 (k:Bool→Hp→Prop),i<n→Same H1 H2→(∀ H3,Same H2 H3→k (p i) H3)→tt (some (f i)::cs) H2 k)(he:∀ i H2 (k:VK),i<n→p i=true→Same H1 H2→(∀ v H3,Same H2 H3→R i v H3→k v H3)→te (some (f i)::cs) H2 k)(hq:∀ D ys H2,H1 D=none→Same H1 H2→H2 D=some (.lst ys)→Paired (fun (i:Nat) v=>R i v H2) ((c4a n).filter p) ys→Q (.ref D) H2) :
   b3g 1 J H1 (a3l 0) tt te cs Q:=by
 have pm:∀ {H H':Hp} {is:List Nat} {ys:List V},Tup H H'→Paired (fun (i:Nat) v=>R i v H) is ys→Paired (fun (i:Nat) v=>R i v H') is ys:=by
   intro H H' is ys t h
   induction h with
   | nil=>exact .nil
   | cons a _ ih=>exact .cons (hR _ _ _ _ t a) ih
 intro D hD
 refine⟨fun i m ys H2=>m=n - i∧i≤n∧Same H1 H2∧H2 D=some (.lst ys)∧Paired (fun (i:Nat) v=>R i v H2) ((c4a i).filter p) ys,⟨n,by simp,c4d _,Same.new hD,a0d,.nil⟩,?_⟩
 rintro i m ys H2 ⟨rfl,hi,s2,d2,r2⟩
 have hl:ys.length≤i:=by
   rw[← r2.length]
   exact c4g (List.length_filter_le _ _) (by rw[c4l];exact c2o _)
 by_cases hlt:i<n
 · refine .inr ⟨((hJ H2 s2 i).1 hlt).1,fun x H' y own ho=>?_⟩
   obtain⟨rfl,rfl⟩:=((hJ H2 s2 i).1 hlt).2 x H' y
   cases own with
   | nil=>cases ho
   | cons o1 r=>
     cases r with
     | cons _ _=>cases ho
     | nil=>
       refine⟨⟨[some (f i)],rfl,rfl⟩,ht i _ _ hlt s2 fun H5 s5=>?_⟩
       by_cases hp:p i=true
       · rw[if_pos hp]
         refine he i _ _ hlt hp (s2.trans s5) fun v H3 s3 r3=>⟨s3 _ _ (s5 _ _ d2),a0v (by omega),n - (i+1),by omega,rfl,hlt,fun b o e=>?_,a0d,?_⟩
         · rw[a0j (a0l e hD)];exact s3 _ _ (s5 _ _ (s2 _ _ e))
         · have t3:Tup H3 (upd H3 D (.lst (ys++[v]))):=Tup.lst (s3 _ _ (s5 _ _ d2))
           rw[c6s,List.filter_append,show [i].filter p=[i] by simp[hp]]
           exact (pm ((s5.trans s3).tup.trans t3) r2).snoc (hR _ _ _ _ t3 r3)
       · rw[if_neg hp]
         refine⟨n - (i+1),by omega,rfl,hlt,s2.trans s5,s5 _ _ d2,?_⟩
         rw[c6s,List.filter_append,show [i].filter p=[] by simp[hp],c5d]
         exact pm s5.tup r2
 · have e:i=n:=by omega
   subst e
   exact .inl ⟨(hJ H2 s2 i).2 rfl,hq D ys H2 hD s2 d2 r2⟩
end
end Cv
namespace Cv
open PySem PySem.Spec PyProof.Rows L2
theorem span_len(L:Nat):(a7j L).length=2^L:=by unfold a7j triL;simp
theorem span_get{L N i:Nat}(eN:2^L=N)(hi:i<N){lo hi':Int}(h1:lo∈[2*(i:Int)*((N:Int) - i),(N:Int)*(2*(i:Int)+1) - 2*i*(i+1),2*((i:Int)+1)*((N:Int) - i - 1)])(h2:∀ a∈[2*(i:Int)*((N:Int) - i),(N:Int)*(2*(i:Int)+1) - 2*i*(i+1),2*((i:Int)+1)*((N:Int) - i - 1)],lo≤a)(h3:hi'∈[2*(i:Int)*((N:Int) - i),(N:Int)*(2*(i:Int)+1) - 2*i*(i+1),2*((i:Int)+1)*((N:Int) - i - 1)])(h4:∀ a∈[2*(i:Int)*((N:Int) - i),(N:Int)*(2*(i:Int)+1) - 2*i*(i+1),2*((i:Int)+1)*((N:Int) - i - 1)],a≤hi'):(a7j L)[i]?=some (lo,hi'):=by
 have z:(2:Int)^L=(N:Int):=by rw[← eN];simp
 unfold a7j triL
 rw[c2p,c2p,c6h (by omega)]
 simp only[Option.map_some,z,tmn,tmx]
 generalize 2*(i:Int)*((N:Int) - i)=a at *
 generalize (N:Int)*(2*(i:Int)+1) - 2*i*(i+1)=b at *
 generalize 2*((i:Int)+1)*((N:Int) - i - 1)=c at *
 simp only[c2x,c3u,or_false,forall_eq_or_imp,forall_eq] at h1 h2 h3 h4
 congr 1
 refine Prod.ext ?_ ?_<;>dsimp only<;>omega
theorem ovD_span{L i j:Nat}{a b:Pl}(h1:(a7j L)[i]?=some a)(h2:(a7j L)[j]?=some b):ovD L ((i:Int),(j:Int))=(decide (a.1≤b.2) && decide (b.1≤a.2)):=by
 unfold a7j at h1 h2
 rw[c2p] at h1 h2
 unfold ovD ovT
 dsimp only
 rw[c5a,c5a]
 cases e1:(triL L)[i]? with
 | none=>rw[e1] at h1;cases h1
 | some s=>
   cases e2:(triL L)[j]? with
   | none=>rw[e2] at h2;cases h2
   | some t=>
     rw[e1] at h1;rw[e2] at h2
     cases h1;cases h2
     rfl
theorem pls_row{H:Hp}{ys:List V}{L N i:Nat}(eN:2^L=N)(p:Nat→Bool)(hp:∀ j,j<N→p j=ovD L ((i:Int),(j:Int)))(h:Paired (fun (j:Nat) v=>∃ t:Addr,v=.ref t∧H t=some (.tup [.int (i:Int),.int (j:Int)])) ((c4a N).filter p) ys):PlsV H ys (rowF L i):=by
 have e:(c4a N).filter p=(c4a (2^L)).filter fun (j:Nat)=>ovD L ((i:Int),(j:Int)):=by
   rw[eN]
   exact List.filter_congr fun j hj=>hp j (c4t.mp hj)
 rw[e] at h
 unfold rowF
 generalize (c4a (2^L)).filter (fun (j:Nat)=>ovD L ((i:Int),(j:Int)))=js at h
 induction h with
 | nil=>exact PlsV.nil _
 | cons a _ ih=>
   obtain⟨t,rfl,ht⟩:=a
   exact PlsV.cons ⟨t,rfl,ht⟩ ih
theorem row_le(L i:Nat):(rowF L i).length≤2^L:=by
 unfold rowF
 rw[c2h]
 exact c4g (List.length_filter_le _ _) (by rw[c4l];exact c2o _)
theorem b8w(L:Nat):∀ i,((c4a i).flatMap (rowF L)).length≤i*2^L
 | 0=>by simp
 | i+1=>by
   rw[c6s,c7j,c2k]
   have:=b8w L i
   have:=row_le L i
   simp only[List.flatMap_cons,List.flatMap_nil,c5d]
   rw[Nat.add_mul];omega
def b0c(K:c2f):Sp:=fun vs H Q _=>∃ (a:Addr) (us:List V) (B W:Pt) (D:Int) (m L:Nat),vs=[.ref a,.int (L:Int)]∧H a=some (.lst us)∧PtsV H us [B,(B.1+W.1,B.2+W.2),B]∧W≠(0,0)∧0<D∧Sz 150 D∧m≤350∧OvP D m B∧OvP D m (B.1+W.1,B.2+W.2)∧L≤6∧∀ H',Same H H'→Q (.bl true) H'
theorem fold_six{L:Nat}(hL:L≤6)(h:256<(a6p L).length):L=6:=by
 have l:=b2p
 have:L=0∨L=1∨L=2∨L=3∨L=4∨L=5∨L=6:=by omega
 rcases this with rfl | rfl | rfl | rfl | rfl | rfl | rfl<;>omega
theorem c1c{L:Nat}(hL:L≤6)(h:¬ 256<(a6p L).length):L≤5:=by
 have:L≤5∨L=6:=by omega
 rcases this with z | rfl
 · exact z
 · exact absurd (by decide +kernel) h
theorem dnTup2{K:c2f}{H:Hp}{c:Addr}{v1 v2:V}{d1 d2:c6l}(hc:H c=some (.tup [v1,v2]))(h1:Dn K H d1 v1)(h2:Dn K H d2 v2):Dn K H (.tuple [d1,d2]) (.ref c):=by
 unfold Dn
 exact⟨c,_,rfl,SqT.of hc,by unfold a5t;exact⟨_,_,rfl,h1,by unfold a5t;exact⟨_,_,rfl,h2,by unfold a5t;rfl⟩⟩⟩
theorem b3v{H:Hp}{ys:List V}{tp:V}{x y:Rat}{n:Nat}(h:PtV H tp x y)(hl:ys.length=n)(hy:∀ (i:Nat) v,ys[i]?=some v→v=tp):PtsV H ys (c2n n (x,y)):=by
 refine⟨by rw[hl,c2r],fun i v p e1 e2=>?_⟩
 rw[hy i v e1]
 rw[c4v] at e2
 split at e2
 · cases e2;exact h
 · cases e2
theorem b3u{P:Pt}{n:Nat}:∀ p∈c2n n P,p=P:=fun p hp=>(List.mem_replicate.mp hp).2
theorem b6h(p q:List Pl):c3t 8 (.tuple [a5x p,a5x q])=true:=by
 have h1:=a4l p 5
 have h2:=a4l q 5
 simp[c3t,h1,h2]
theorem a7d{a b B:Int}(hB:0<B):c2i a B+c2i b B=c2i (a+b) B:=by
 rw[c5h,c5h,c5h,c6c]
 have:(B:Rat)≠0:=by
   intro h
   have:B=0:=by exact_mod_cast h
   omega
 grind
theorem b6f{a B:Int}(hB:0<B)(ha:a≠0):c2i a B≠0:=by
 intro h
 rw[c5h] at h
 have hb:(B:Rat)≠0:=by
   intro h
   have:B=0:=by exact_mod_cast h
   omega
 have:(a:Rat)=0:=by grind
 have:a=0:=by exact_mod_cast this
 exact ha this
theorem dv_neP{a b u v B:Int}(hB:0<B)(h:u≠0∨v≠0):(c2i a B,c2i b B)≠(c2i (a+u) B,c2i (b+v) B):=by
 intro e
 rw[c6u.injEq,← a7d hB,← a7d hB] at e
 rcases h with h | h
 · exact b6f hB h (by grind)
 · exact b6f hB h (by grind)
theorem dn000{K:c2f}{H:Hp}{a:Addr}(h:H a=some (.tup [.int 0,.int 0,.int 0])):Dn K H (.tuple [.int 0,.int 0,.int 0]) (.ref a):=by
 simp only[Dn,a5t]
 exact⟨a,_,rfl,SqT.of h,_,_,rfl,rfl,_,_,rfl,rfl,_,_,rfl,rfl,rfl⟩
theorem pts3{H:Hp}{u v w:V}{a b c d e f:Rat}(h1:PtV H u a b)(h2:PtV H v c d)(h3:PtV H w e f):PtsV H [u,v,w] [(a,b),(c,d),(e,f)]:=by
 refine⟨rfl,fun i x p e1 e2=>?_⟩
 match i with
 | 0=>cases e1;cases e2;exact h1
 | 1=>cases e1;cases e2;exact h2
 | 2=>cases e1;cases e2;exact h3
 | n+3=>simp at e1
end Cv
set_option maxHeartbeats 4000000
namespace Cv
open PySem L2
local macro_rules | `(tactic| walk_at "hf") => `(tactic| first
 | assumption
 | exact a0d
 | (refine a2k (by assumption) ?_;walk_at "hf")
 | (refine (by assumption:L2.Same _ _) _ _ ?_;walk_at "hf")
 | fail)
local macro_rules | `(tactic| walk_at "sm") => `(tactic| first
 | assumption
 | exact L2.Same.refl _
 | (refine L2.Same.trans ?_ (by assumption:L2.Same _ _);walk_at "sm")
 | (refine L2.Same.trans ?_ (Same.new (by assumption));walk_at "sm")
 | fail)
local macro_rules | `(tactic| walk_at "mv") => `(tactic| first
 | assumption
 | (refine ShV.same ?_ (by assumption:L2.Same _ _);walk_at "mv")
 | (refine ShV.same ?_ (Same.new (by assumption));walk_at "mv")
 | (refine PtV.same ?_ (by assumption:L2.Same _ _);walk_at "mv")
 | (refine PtV.same ?_ (Same.new (by assumption));walk_at "mv")
 | (refine RwV.same ?_ (by assumption:L2.Same _ _);walk_at "mv")
 | (refine RwV.same ?_ (Same.new (by assumption));walk_at "mv")
 | (refine RwQ.same ?_ (by assumption:L2.Same _ _);walk_at "mv")
 | (refine RwQ.same ?_ (Same.new (by assumption));walk_at "mv")
 | (refine MpV.same ?_ (by assumption:L2.Same _ _);walk_at "mv")
 | (refine MpV.same ?_ (Same.new (by assumption));walk_at "mv")
 | (refine PtsV.same ?_ (by assumption:L2.Same _ _);walk_at "mv")
 | (refine PtsV.same ?_ (Same.new (by assumption));walk_at "mv")
 | (refine AxV.same ?_ (by assumption:L2.Same _ _);walk_at "mv")
 | (refine AxV.same ?_ (Same.new (by assumption));walk_at "mv")
 | (refine ShL.same ?_ (by assumption:L2.Same _ _);walk_at "mv")
 | (refine ShL.same ?_ (Same.new (by assumption));walk_at "mv")
 | (refine SqL.same' ?_ (by assumption:L2.Same _ _);walk_at "mv")
 | (refine SqL.same' ?_ (Same.new (by assumption));walk_at "mv")
 | fail)
local macro_rules | `(tactic| walk_at "sq") => `(tactic| first
 | exact SqT.of (by walk_at "hf")
 | exact SqL.of (by walk_at "hf")
 | walk_at "mv"
 | fail)
local macro_rules | `(tactic| walk_at "at") => `(tactic| first
 | rfl
 | assumption
 | exact c1r _ _ (by omega) (by omega)
 | fail)
local macro_rules | `(tactic| walk_at "sz") => `(tactic| first
 | assumption
 | exact Bd.num (by assumption)
 | exact Bd.den (by assumption)
 | exact Sz.one
 | exact Sz.mul (by walk_at "sz") (by walk_at "sz")
 | exact Sz.add (by walk_at "sz") (by walk_at "sz")
 | exact Sz.sub (by walk_at "sz") (by walk_at "sz")
 | exact Sz.neg (by walk_at "sz")
 | fail)
local macro_rules | `(tactic| walk_at "bdx") => `(tactic| first
 | assumption
 | exact Bd.zero'
 | exact Bd.one'
 | exact Bd.add (by walk_at "bdx") (by walk_at "bdx")
 | exact Bd.sub (by walk_at "bdx") (by walk_at "bdx")
 | exact Bd.mul (by walk_at "bdx") (by walk_at "bdx")
 | fail)
local macro_rules | `(tactic| walk_at "bd") => `(tactic| exact Bd.mono (by walk_at "bdx") (by decide))
local macro_rules | `(tactic| walk_at "szm") => `(tactic| exact Sz.mono (by walk_at "sz") (by decide))
local macro_rules | `(tactic| walk_at "arith") => `(tactic| first
 | exact pos30
 | exact pl
 | exact⟨by decide,by decide⟩
 | exact⟨by decide,by decide,by decide⟩
 | exact mulL (by decide) (by decide)
 | exact mulR (by decide) (by decide)
 | exact mulR (by omega) (by omega)
 | exact mulL (by omega) (by omega)
 | exact mulB (by walk_at "sz") (by walk_at "sz")
 | fail)
local macro_rules | `(tactic| walk_at "len") => `(tactic| first
 | (show 2≤sizeLine;decide)
 | (show 0≤sizeLine;decide)
 | (show 1≤sizeLine;decide)
 | (show 3≤sizeLine;decide)
 | (show 4≤sizeLine;decide)
 | (show 5≤sizeLine;decide)
 | (show 6≤sizeLine;decide)
 | (show 8≤sizeLine;decide)
 | fail)
local macro_rules | `(tactic| walk_at "r1") => `(tactic| first
 | refine⟨_,_,rfl,rfl,by walk_at "arith",?_⟩
 | refine⟨_,_,rfl,rfl,?_⟩
 | refine⟨_,_,_,_,rfl,rfl,by walk_at "sq",by walk_at "at",?_⟩
 | refine⟨_,rfl,?_⟩
 | refine⟨rfl,?_⟩
 | refine⟨_,_,rfl,.inr (SqT.of (by walk_at "hf")),?_⟩
 | refine⟨_,_,rfl,.inl (SqL.of (by walk_at "hf")),?_⟩
 | refine⟨_,"tuple",_,_,rfl,TyOf.tup (by walk_at "hf"),kit_tt _,?_⟩
 | refine⟨_,"list",_,_,rfl,TyOf.lst (by walk_at "hf"),kit_ll _,?_⟩
 | refine⟨_,"int",_,_,rfl,TyOf.int _,kit_ii _,?_⟩
 | refine⟨_,"bool",_,_,rfl,TyOf.int _,kit_ib _,?_⟩
 | refine⟨_,"bool",_,_,rfl,TyOf.bl _,kit_bb _,?_⟩
 | refine⟨by walk_at "len",?_⟩
 | refine⟨by decide,?_⟩
 | fail)
local macro_rules | `(tactic| walk_at "rd") => `(tactic| repeat walk_at "r1")
local macro_rules | `(tactic| walk_at "fr") => `(tactic| first
 | assumption
 | (refine L2.Same.free (by assumption:L2.Same _ _) ?_;walk_at "fr")
 | (refine L2.Same.free (Same.new (by assumption)) ?_;walk_at "fr")
 | fail)
local macro_rules | `(tactic| walk_at "tk") => `(tactic| first
 | assumption
 | fail)
local macro_rules | `(tactic| walk_at "mv") => `(tactic| first
 | assumption
 | (refine ShK.same ?_ (by assumption:L2.Same _ _);walk_at "mv")
 | (refine ShK.same ?_ (Same.new (by assumption));walk_at "mv")
 | (refine PtK.same ?_ (by assumption:L2.Same _ _);walk_at "mv")
 | (refine PtK.same ?_ (Same.new (by assumption));walk_at "mv")
 | (refine PtsK.same ?_ (by assumption:L2.Same _ _);walk_at "mv")
 | (refine PtsK.same ?_ (Same.new (by assumption));walk_at "mv")
 | (refine ShV.k ?_;walk_at "mv")
 | (refine PtV.k ?_;walk_at "mv")
 | (refine PtsV.k ?_;walk_at "mv")
 | fail)
local macro_rules | `(tactic| walk_at "sq") => `(tactic| first
 | exact TK.sq (by walk_at "tk")
 | fail)
local macro_rules | `(tactic| walk_at "rk1") => `(tactic| first
 | refine⟨_,"tuple",_,_,rfl,.inr ⟨rfl,_,_,rfl,by walk_at "sq"⟩,kit_tt _,?_⟩
 | refine⟨_,"list",_,_,rfl,.inl (TyOf.lst (by walk_at "hf")),kit_ll _,?_⟩
 | refine⟨_,"int",_,_,rfl,.inl (TyOf.int _),kit_ii _,?_⟩
 | refine⟨_,"bool",_,_,rfl,.inl (TyOf.int _),kit_ib _,?_⟩
 | refine⟨_,"bool",_,_,rfl,.inl (TyOf.bl _),kit_bb _,?_⟩
 | refine⟨_,_,rfl,.inr (by walk_at "sq"),?_⟩
 | walk_at "r1"
 | fail)
local macro_rules | `(tactic| walk_at "rk") => `(tactic| repeat walk_at "rk1")
structure Cst(K:c2f)(mg:Str→Option Value)(A_PLAIN_WAYS B1_PLAIN_WAYS B2_PLAIN_WAYS B3_PLAIN_WAYS B4_PLAIN_WAYS:Addr)(t_MOST_PAIRS:Tok):Prop where
 MOST_PAIRS:mg "MOST_PAIRS" = some (.int 256 t_MOST_PAIRS)
 PLAIN_WAYS:mg "PLAIN_WAYS" = some (.ref A_PLAIN_WAYS)
 pPLAIN_WAYS:∀ H,SqT K H A_PLAIN_WAYS [.ref B1_PLAIN_WAYS,.ref B2_PLAIN_WAYS,.ref B3_PLAIN_WAYS,.ref B4_PLAIN_WAYS]
 wPLAIN_WAYS:∀ H,SqT K H B1_PLAIN_WAYS [.int (1),.int (0)]∧SqT K H B2_PLAIN_WAYS [.int (-1),.int (0)]∧SqT K H B3_PLAIN_WAYS [.int (0),.int (1)]∧SqT K H B4_PLAIN_WAYS [.int (0),.int (-1)]
structure Exc(K:c2f)(mg:Str→Option Value)(C_SeatError C_TooMany C_NoShare C_NoLower C_NoMap C_NoJoin C_NoPlace C_NoText C_NoName:Addr):Prop where
 SeatError:mg "SeatError" = some (.ref C_SeatError)
 TooMany:mg "TooMany" = some (.ref C_TooMany)
 NoShare:mg "NoShare" = some (.ref C_NoShare)
 NoLower:mg "NoLower" = some (.ref C_NoLower)
 NoMap:mg "NoMap" = some (.ref C_NoMap)
 NoJoin:mg "NoJoin" = some (.ref C_NoJoin)
 NoPlace:mg "NoPlace" = some (.ref C_NoPlace)
 NoText:mg "NoText" = some (.ref C_NoText)
 NoName:mg "NoName" = some (.ref C_NoName)
 xTooMany:XCls K mg "TooMany" C_TooMany
 mTooMany:c7v K (.ref C_TooMany) (.ref C_SeatError)=some true
 vTooMany:c3m K (.ref C_TooMany) (.type "ValueError")=some true
 sTooMany:c7v K (.ref C_TooMany) (.ref C_TooMany)=some true
 nTooMany:XNot K C_TooMany
 fTooMany_NoShare:c3m K (.ref C_TooMany) (.ref C_NoShare)=some false
 fTooMany_NoLower:c3m K (.ref C_TooMany) (.ref C_NoLower)=some false
 fTooMany_NoMap:c3m K (.ref C_TooMany) (.ref C_NoMap)=some false
 fTooMany_NoJoin:c3m K (.ref C_TooMany) (.ref C_NoJoin)=some false
 fTooMany_NoPlace:c3m K (.ref C_TooMany) (.ref C_NoPlace)=some false
 fTooMany_NoText:c3m K (.ref C_TooMany) (.ref C_NoText)=some false
 fTooMany_NoName:c3m K (.ref C_TooMany) (.ref C_NoName)=some false
def top(i:Nat):Stmt:=PySem.Challenge.pw_curveseat_k64_too_many.main.body.getD i (.Pass ⟨0,0,0,0⟩)
abbrev a1o:Stmt:=top 11
theorem a4a:a1a ["one","other"] ["one","other"] (a0e a1o):=⟨rfl,rfl,rfl,by decide +kernel,rfl,by decide +kernel,by decide +kernel⟩
abbrev a6u:Stmt:=top 12
theorem b0w:a1a ["top","bottom","common"] ["top","bottom"] (a0e a6u):=⟨rfl,rfl,rfl,by decide +kernel,rfl,by decide +kernel,by decide +kernel⟩
abbrev a1u:Stmt:=top 14
theorem a1n:a1a ["shares","found","whole","one","more"] ["shares"] (a0e a1u):=⟨rfl,rfl,rfl,by decide +kernel,rfl,by decide +kernel,by decide +kernel⟩
abbrev a4h:Stmt:=top 15
theorem a5j:a1a ["numbers","found","number"] ["numbers"] (a0e a4h):=⟨rfl,rfl,rfl,by decide +kernel,rfl,by decide +kernel,by decide +kernel⟩
abbrev a8n:Stmt:=top 16
theorem b3s:a1a ["shares","bottoms","whole"] ["shares"] (a0e a8n):=⟨rfl,rfl,rfl,by decide +kernel,rfl,by decide +kernel,by decide +kernel⟩
abbrev a7g:Stmt:=top 17
theorem sc_axes:a1a ["points"] ["points"] (a0e a7g):=⟨rfl,rfl,rfl,by decide +kernel,rfl,by decide +kernel,by decide +kernel⟩
abbrev a6b:Stmt:=top 20
theorem sc_along:a1a ["places","way"] ["places","way"] (a0e a6b):=⟨rfl,rfl,rfl,by decide +kernel,rfl,by decide +kernel,by decide +kernel⟩
abbrev a2r:Stmt:=top 21
theorem a9p:a1a ["ones","others","i","j"] ["ones","others","i","j"] (a0e a2r):=⟨rfl,rfl,rfl,by decide +kernel,rfl,by decide +kernel,by decide +kernel⟩
abbrev a2j:Stmt:=top 22
theorem a8m:a1a ["one","other"] ["one","other"] (a0e a2j):=⟨rfl,rfl,rfl,by decide +kernel,rfl,by decide +kernel,by decide +kernel⟩
abbrev a6v:Stmt:=top 23
theorem b0x:a1a ["ones","others","way","fore","behind","most","least"] ["ones","others","way"] (a0e a6v):=⟨rfl,rfl,rfl,by decide +kernel,rfl,by decide +kernel,by decide +kernel⟩
abbrev a3n:Stmt:=top 24
theorem b3q:a1a ["right","left"] ["right","left"] (a0e a3n):=⟨rfl,rfl,rfl,by decide +kernel,rfl,by decide +kernel,by decide +kernel⟩
abbrev a5l:Stmt:=top 25
theorem a1z:a1a ["ones","others","way","most","least","found","right","left"] ["ones","others"] (a0e a5l):=⟨rfl,rfl,rfl,by decide +kernel,rfl,by decide +kernel,by decide +kernel⟩
abbrev a3c:Stmt:=top 26
theorem a3w:a1a ["line","x_bottom","y_bottom","room","a","b","c"] ["line","x_bottom","y_bottom","room"] (a0e a3c):=⟨rfl,rfl,rfl,by decide +kernel,rfl,by decide +kernel,by decide +kernel⟩
abbrev a3o:Stmt:=top 29
theorem b3r:a1a ["seats","level"] ["seats","level"] (a0e a3o):=⟨rfl,rfl,rfl,by decide +kernel,rfl,by decide +kernel,by decide +kernel⟩
abbrev a2e:Stmt:=top 30
theorem a9o:a1a ["xs","ys","room"] ["xs","ys","room"] (a0e a2e):=⟨rfl,rfl,rfl,by decide +kernel,rfl,by decide +kernel,by decide +kernel⟩
abbrev a4n:Stmt:=top 31
theorem a6i:a1a ["curve","first","second","row"] ["curve"] (a0e a4n):=⟨rfl,rfl,rfl,by decide +kernel,rfl,by decide +kernel,by decide +kernel⟩
abbrev a4o:Stmt:=top 32
theorem b8v:a1a ["curves"] ["curves"] (a0e a4o):=⟨rfl,rfl,rfl,by decide +kernel,rfl,by decide +kernel,by decide +kernel⟩
abbrev a1p:Stmt:=c0s (top 33) 0
theorem a2l:a1a ["self","one","other","level","xs","ys","both"] ["self","one","other","level"] (a0e a1p):=⟨rfl,rfl,rfl,by decide +kernel,rfl,by decide +kernel,by decide +kernel⟩
abbrev a1v:Stmt:=c0s (top 33) 1
theorem a6t:a1a ["self"] ["self"] (a0e a1v):=⟨rfl,rfl,rfl,by decide +kernel,rfl,by decide +kernel,by decide +kernel⟩
abbrev a2f:Stmt:=top 34
theorem a9q:a1a ["pairs"] ["pairs"] (a0e a2f):=⟨rfl,rfl,rfl,by decide +kernel,rfl,by decide +kernel,by decide +kernel⟩
abbrev a5k:Stmt:=top 35
theorem a3r:a1a ["ground","pairs","x_bottom","y_bottom","found","thrown","i","j","line","steps"] ["ground","pairs"] (a0e a5k):=⟨rfl,rfl,rfl,by decide +kernel,rfl,by decide +kernel,by decide +kernel⟩
abbrev a4u:Stmt:=top 36
theorem a3x:a1a ["one","other","level","ground","pairs","thrown","told","depth"] ["one","other","level"] (a0e a4u):=⟨rfl,rfl,rfl,by decide +kernel,rfl,by decide +kernel,by decide +kernel⟩
abbrev a3e:Stmt:=top 38
theorem b2c:a1a ["_law_script","_law_k"] ["_law_script","_law_k"] (a0e a3e):=⟨rfl,rfl,rfl,by decide +kernel,rfl,by decide +kernel,by decide +kernel⟩
abbrev a3p:Stmt:=top 39
theorem a3s:a1a ["_law_cell","_law_place","_law_number","_law_some","_law_k"] ["_law_cell","_law_place"] (a0e a3p):=⟨rfl,rfl,rfl,by decide +kernel,rfl,by decide +kernel,by decide +kernel⟩
abbrev a5m:Stmt:=top 41
theorem b2b:a1a ["_law_one","_law_other"] ["_law_one","_law_other"] (a0e a5m):=⟨rfl,rfl,rfl,by decide +kernel,rfl,by decide +kernel,by decide +kernel⟩
abbrev a4i:Stmt:=top 42
theorem b0f:a1a ["_law_top","_law_bottom","_law_part_here"] ["_law_top","_law_bottom"] (a0e a4i):=⟨rfl,rfl,rfl,by decide +kernel,rfl,by decide +kernel,by decide +kernel⟩
abbrev a3d:Stmt:=top 43
theorem a3z:a1a ["_law_one","_law_other","_law_level","e","_law_others"] ["_law_one","_law_other","_law_level"] (a0e a3d):=⟨rfl,rfl,rfl,by decide +kernel,rfl,by decide +kernel,by decide +kernel⟩
abbrev a6a:Stmt:=top 44
theorem b5k:a1a ["_law_level","_law_many"] ["_law_level"] (a0e a6a):=⟨rfl,rfl,rfl,by decide +kernel,rfl,by decide +kernel,by decide +kernel⟩
abbrev a2w:Stmt:=top 45
theorem a2d:a1a ["_law_level","_law_many","_law_spans","_law_k","_law_some","_law_found","_law_i","_law_one"] ["_law_level"] (a0e a2w):=⟨rfl,rfl,rfl,by decide +kernel,rfl,by decide +kernel,by decide +kernel⟩
abbrev a2a:Stmt:=top 46
theorem a4t:a1a ["_law_curve","_law_level","_law_due"] ["_law_curve","_law_level"] (a0e a2a):=⟨rfl,rfl,rfl,by decide +kernel,rfl,by decide +kernel,by decide +kernel⟩
abbrev a5r:Stmt:=top 47
theorem a3y:a1a ["_law_script","_law_cell","_law_s","_law_bottom","_law_tops","_law_place","_law_one","_law_other","_law_level","_law_way","_law_base","_law_turn","_law_far","_law_found"] ["_law_script"] (a0e a5r):=⟨rfl,rfl,rfl,by decide +kernel,rfl,by decide +kernel,by decide +kernel⟩
section
variable {P:Program} {w:World} {K:c2f} {mg:Str→Option Value} {base:Heap}
theorem ok_l_all(F:a0s K mg "_law_all" a6a ["_law_level"])(B:Blt mg):a1e P w K mg base CX0 1 "_law_all" ["_law_level"] (spAllL K):=by
 refine a1i F b5k (fun vs H Q E h=>?_) (fun f cdv A outer s H vs Q E hr h=>?_)
 · obtain⟨L,rfl,_⟩:=h;rfl
 obtain⟨L,rfl,hL,k⟩:=h
 have hu:=hr.units
 refine⟨_,(a0f (a0x (i:=1) b5k.nd rfl (Or.inr rfl) (a0g b9u a0c (pvI 0))) (a0i (a0z (a3j (os:=["_law_k"]) (caps:=[(1,"_law_many")]) ["_law_level","_law_many"] (a0e a6a) (a3f rfl B.range (a0a (a0g a1g (pvI 1) (pvI 1)) a0b)) (fun _ _ _ _ _=>(a0k (i:=0) (show c3x (["_law_k","_law_many"]:List Str) from by decide +kernel) rfl (Or.inl rfl))) (fun _ _ _ _ _=>(a0t (a0a (a0g a4q (pvI 0) (pvI 1)) (a0a (a0g a2h (pvI 0) (pvI 1)) a0b)))) (by decide +kernel))))),?_⟩
 obtain⟨w1,w2,w3⟩:=pow6 hL
 have hcp:CPow 1 (L:Int):=⟨by omega,by omega,by decide⟩
 have em:(1:Int)*2^((L:Int)).toNat=((2^L:Nat):Int):=by simp
 walk_at "rd"
 refine⟨hcp,?_⟩
 dsimp only
 rw[em]
 generalize eN:(2:Nat)^L=N at *
 walk_at "rd"
 have enn:((N:Int)*(N:Int)).toNat=N*N:=by rw[← c7q];exact c5a _
 have bnn:(N:Int)*(N:Int)=((N*N:Nat):Int):=(c7q _ _).symm
 refine⟨by rw[bnn];omega,by rw[bnn];omega,?_⟩
 dsimp only
 rw[enn]
 refine b2w (a3t 0 (N*N) _) (by omega) (fun j v H=>∃ t:Addr,v=.ref t∧H t=some (.tup [.int ((j / N:Nat):Int),.int ((j % N:Nat):Int)])) (fun _ _ _ _ t h=>by obtain⟨x,h1,h2⟩:=h;exact⟨x,h1,t _ _ h2⟩) (fun j H9 kk hj s9 hk=>?_) (fun D ys H9 hD s9 hd hyl hr=>?_)
 · walk_at "rd"
   refine⟨⟨by omega,a5q (b:=1000000) (by omega) (by decide)⟩,?_⟩
   dsimp only
   walk_at "rd"
   refine⟨by omega,?_⟩
   dsimp only
   walk_at "rd"
   intro c hc
   refine hk _ _ (Same.new hc) ⟨c,rfl,?_⟩
   rw[a0d,Int.zero_add,c4h _ (by omega)]
   rfl
 · refine k D ys H9 s9 hD hd ⟨by rw[hyl];unfold allPr;rw[eN,c2h,c4l],fun i v p e1 e2=>?_⟩
   obtain⟨x,h1,h2⟩:=hr i v e1
   unfold allPr at e2
   rw[eN,c2p,c6h (by have:=(c2q.mp e1).1;omega)] at e2
   cases e2
   exact⟨x,h1,h2⟩
theorem b2n(F:a0s K mg "_law_cell_at" a3e ["_law_script","_law_k"])(B:Blt mg):a1e P w K mg base CX0 1 "_law_cell_at" ["_law_script","_law_k"] (spCell K):=by
 refine a1i F b2c (fun vs H Q E h=>?_) (fun f cdv A outer s H vs Q E hr h=>?_)
 · obtain⟨a,ns,i,rfl,_⟩:=h;rfl
 obtain⟨a,ns,i,rfl,hS,h0,k⟩:=h
 have hu:=hr.units
 refine⟨_,(a0f (a3i (a1k op_lt (pvI 1) (a0w (a2y K) (by rfl) B.len PySem.boot_len (a0a (pvI 0) a0b)) (a2i _)) (a0i (a0z (a0n (a0r K) (pvI 0) (pvI 1) (fun _ _=>rfl)))) a2m) (a0i (a0z a0c))),?_⟩
 refine⟨_,rfl,_,rfl,a,_,rfl,.inl hS,_,_,rfl,rfl,_,rfl,b1f (fun hn=>?_) (fun hn=>?_)⟩
 · rw[c2h] at hn
   refine⟨_,rfl,_,rfl,a,_,_,_,rfl,rfl,hS,c1r ns i h0 hn,?_⟩
   exact k _
 · exact k 0
theorem b4f(F:a0s K mg "_law_folded" a2w ["_law_level"])(B:Blt mg):a1e P w K mg base CX0 1 "_law_folded" ["_law_level"] (b5h K):=by
 refine a1i F a2d (fun vs H Q E h=>?_) (fun f cdv A outer s H vs Q E hr h=>?_)
 · obtain⟨L,rfl,_⟩:=h;rfl
 obtain⟨L,rfl,hL,k⟩:=h
 have hu:=hr.units
 refine cutI (List.drop 3 (a0p a2w)) (a0f (a0x (i:=5) a2d.nd rfl (Or.inl rfl) (a1m a0b)) (a0f (a4v PassesOwn.never rfl (pi_enumI rfl B.enumerate (a0a (pvI 2) a0b)) (a1t (n:=2) K rfl (a0m (a0k (i:=6) a2d.nd rfl (Or.inr rfl)) (a0m (a0k (i:=7) a2d.nd rfl (Or.inr rfl)) a1s))) (a0i (a0x (i:=5) a2d.nd rfl (Or.inl rfl) (a0g b9w (pvI 5) (b6r (os:=["_law_j"]) (caps:=[(6,"_law_i"),(7,"_law_one"),(2,"_law_spans")]) ["_law_level","_law_many","_law_spans","_law_k","_law_some","_law_found","_law_i","_law_one"] (a0e a2w) (a3f rfl B.range (a0a (pvI 1) a0b)) (fun _ _ _ _ _=>(a0k (i:=0) (show c3x (["_law_j","_law_i","_law_one","_law_spans"]:List Str) from by decide +kernel) rfl (Or.inl rfl))) (fun _ _ _ _ _=>(PW_ptI (b9a (a1k op_le (a0n (a1d K) (pvI 2) a0c (fun _ _=>rfl)) (a0n (a1d K) (a0n (a0r K) (pvI 3) (pvI 0) (fun _ _=>rfl)) a0c (fun _ _=>rfl)) (a2i _)) (b5n (a1k op_le (a0n (a1d K) (a0n (a0r K) (pvI 3) (pvI 0) (fun _ _=>rfl)) a0c (fun _ _=>rfl)) (a0n (a1d K) (pvI 2) a0c (fun _ _=>rfl)) (a2i _)))))) (fun _ _ _ _ _=>(a0t (a0a (pvI 1) (a0a (pvI 0) a0b)))) (by decide +kernel)))))) (a0i (a0z (pvI 5))))) (fun R1 hc1 e1=>?_)
 refine⟨_,(a0f (a0x (i:=1) a2d.nd rfl (Or.inl rfl) (a0g b9u a0c (pvI 0))) (a0f (a0x (i:=2) a2d.nd rfl (Or.inr rfl) (a1m a0b)) (a0f (a4v PassesOwn.never rfl (a3f rfl B.range (a0a (pvI 1) a0b)) (a0k (i:=3) a2d.nd rfl (Or.inl rfl)) (a0f (a0x (i:=4) a2d.nd rfl (Or.inl rfl) (a1m (a0a (a0g a1g (a0g a1g a0c (pvI 3)) (a0g a3b (pvI 1) (pvI 3))) (a0a (a0g a3b (a0g a1g (pvI 1) (a0g a2n (a0g a1g a0c (pvI 3)) a0c)) (a0g a1g (a0g a1g a0c (pvI 3)) (a0g a2n (pvI 3) a0c))) (a0a (a0g a1g (a0g a1g a0c (a0g a2n (pvI 3) a0c)) (a0g a3b (a0g a3b (pvI 1) (pvI 3)) a0c)) a0b))))) (a0i (a3g (show PEi _ _ (tBM K _ _ _ _) from (a5u c4e c4p c4q a2q (pvI 2) (a0a (a0t (a0a (a0w (b2x rfl) (by rfl) B.min PyProof.Rows.boot_min (a0a (pvI 4) a0b)) (a0a (a0w (b2y rfl) (by rfl) B.max PyProof.Rows.boot_max (a0a (pvI 4) a0b)) a0b))) a0b))))))) hc1))),?_⟩
 obtain⟨w1,w2,w3⟩:=pow6 hL
 have hcp:CPow 1 (L:Int):=⟨by omega,by omega,by decide⟩
 have em:(1:Int)*2^((L:Int)).toNat=((2^L:Nat):Int):=by simp
 have hfr:=c1d L hL
 have hsl:=span_len L
 have hrl:=b8w L
 walk_at "rd"
 refine⟨hcp,?_⟩
 dsimp only
 rw[em]
 generalize eN:(2:Nat)^L=N at *
 walk_at "rd"
 intro ls hls
 walk_at "rd"
 refine⟨by omega,by omega,b7h (fun i σ H'=>∃ (y3 y4:Option V) (vs:List V),σ=[some (.int (L:Int)),some (.int (N:Int)),some (.ref ls),y3,y4,none,none,none]∧Same H H'∧H' ls=some (.lst vs)∧PlsV H' vs ((a7j L).take i)) ⟨none,none,[],rfl,Same.new hls,a0d,PlsV.nil _⟩ ?_ ?_⟩
 · rintro D' NN hN hrt i σ H2 hi ⟨y3,y4,vs,rfl,s2,h2,hp2⟩
   have hi:i<N:=by omega
   have zi:Sz 8 (i:Int):=a5q (b:=100) (by omega) (by decide)
   have zN:Sz 8 (N:Int):=a5q (b:=100) (by omega) (by decide)
   have z2:Sz 3 2:=a5q (b:=2) (by omega) (by decide)
   have z1:Sz 3 1:=a5q (b:=2) (by omega) (by decide)
   rw[Int.zero_add]
   walk_at "rd"
   intro ds hds
   have sd:=Same.new (o:=.lst ([2*(i:Int)*((N:Int) - i),(N:Int)*(2*(i:Int)+1) - 2*i*(i+1),2*((i:Int)+1)*((N:Int) - i - 1)].map V.int)) hds
   have ed:upd H2 ds (.lst ([2*(i:Int)*((N:Int) - i),(N:Int)*(2*(i:Int)+1) - 2*i*(i+1),2*((i:Int)+1)*((N:Int) - i - 1)].map V.int)) ds=_:=a0d
   generalize eH:upd H2 ds (.lst ([2*(i:Int)*((N:Int) - i),(N:Int)*(2*(i:Int)+1) - 2*i*(i+1),2*((i:Int)+1)*((N:Int) - i - 1)].map V.int))=H3 at sd ed
   dsimp only[List.map] at eH
   rw[eH]
   have hl3:=sd _ _ h2
   walk_at "rd"
   refine⟨.inl ⟨rfl,vs,SqL.of hl3⟩,?_⟩
   walk_at "rd"
   refine⟨ds,_,rfl,SqL.of ed,by simp,fun lo l1 l2=>?_⟩
   walk_at "rd"
   refine⟨ds,_,rfl,SqL.of ed,by simp,fun hh l3 l4=>?_⟩
   walk_at "rd"
   intro tp htp
   have s4:=Same.new (o:=.tup [.int lo,.int hh]) htp
   have g2:=s4 _ _ (sd _ _ h2)
   have hv:=hp2.len
   rw[c3j] at hv
   refine⟨ls,vs,.ref tp,rfl,rfl,g2,a0v (by omega),?_⟩
   have tg:Tup (upd H3 tp (.tup [.int lo,.int hh])) (upd (upd H3 tp (.tup [.int lo,.int hh])) ls (.lst (vs++[.ref tp]))):=Tup.lst g2
   refine hN _ _ _ ⟨_,_,vs++[.ref tp],rfl,a4b hls (s2.trans (sd.trans s4)),a0d,?_⟩
   rw[List.take_add_one,span_get eN hi l1 l2 l3 l4]
   exact (a7v (p:=(lo,hh)) ((hp2.same (sd.trans s4))) a0d).tup tg
 · rintro σ H2 ⟨y3,y4,vs,rfl,s2,h2,hp2⟩
   subst e1
   rw[c4x (by omega)] at hp2
   walk_at "rd"
   intro lf hlf
   have s3:=Same.new (o:=.lst []) hlf
   have hvl:=hp2.len
   walk_at "rd"
   refine⟨⟨_,SqL.of (s3 _ _ h2)⟩,for_enum (xs:=vs) (fun i σ H'=>∃ (y6 y7:Option V) (l9:Addr) (ys:List V),σ=[some (.int (L:Int)),some (.int (N:Int)),some (.ref ls),y3,y4,some (.ref l9),y6,y7]∧Same H2 H'∧H l9=none∧H' l9=some (.lst ys)∧PlsV H' ys ((c4a i).flatMap (rowF L))) ⟨none,none,lf,[],rfl,s3,s2.free hlf,a0d,PlsV.nil _⟩ (fun i σ H' _ h=>by obtain⟨_,_,_,_,_,z,_⟩:=h;exact SqL.of (z _ _ h2)) ?_ ?_⟩
   · rintro i T x σ W2 hx ⟨y6,y7,l9,ys,rfl,t2,hn9,h9,hp9⟩ hT
     have hiv:i<vs.length:=(c2q.mp hx).1
     have hi:i<N:=by omega
     obtain⟨b,rfl,hb⟩:=hp2.get i x _ hx (c2e (by omega))
     have sg:=c2e (l:=a7j L) (i:=i) (by omega)
     generalize (a7j L)[i]'(by omega (config:={}))=a at hb sg
     have t3:=Same.new (o:=.tup [.int (i:Int),.ref b]) hT
     have hT3:=a0d (H:=W2) (a:=T) (o:=.tup [.int (i:Int),.ref b])
     generalize upd W2 T (.tup [.int (i:Int),.ref b])=W3 at *
     have hb3:=t3 _ _ (t2 _ _ hb)
     have h93:=t3 _ _ h9
     have hs3:=t3 _ _ (t2 _ _ h2)
     refine⟨T,_,rfl,SqT.of hT3,rfl,_,_,rfl,_,_,rfl,rfl,?_⟩
     walk_at "rd"
     refine⟨by omega,by omega,?_⟩
     have hsp:∀ j,j<N→∃ (c:Addr) (q:Pl),vs[j]?=some (.ref c)∧W3 c=some (.tup [.int q.1,.int q.2])∧(a7j L)[j]?=some q:=fun j hj=>by
       have e2:=c2e (l:=a7j L) (i:=j) (by omega)
       obtain⟨c,e3,hc⟩:=hp2.at e2
       exact⟨c,_,e3,t3 _ _ (t2 _ _ hc),e2⟩
     refine comp1F (a3t 0 _ _) (by omega) (fun (j:Nat)=>ovD L ((i:Int),(j:Int))) (fun (j:Nat) v H=>∃ t:Addr,v=.ref t∧H t=some (.tup [.int (i:Int),.int (j:Int)])) (fun _ _ _ _ t h=>by obtain⟨x,h1,h2⟩:=h;exact⟨x,h1,t _ _ h2⟩) (fun j H9 kk hj s9 hk=>?_) (fun j H9 kk hj hpj s9 hk=>?_) (fun D ws H9 hD s9 hd hpr=>?_)
     · have hj:j<N:=by omega
       obtain⟨c,q,e3,hc,e2⟩:=hsp j hj
       have hov:=ovD_span sg e2
       have hb9:=s9 _ _ hb3
       have hc9:=s9 _ _ hc
       have hs9:=s9 _ _ hs3
       rw[Int.zero_add]
       rw[hov] at hk
       walk_at "rd"
       refine⟨ls,vs,_,_,rfl,rfl,SqL.of hs9,a4s (j:=j) (by omega) e3,?_⟩
       walk_at "rd"
       dsimp only
       refine ifB (fun z=>?_) (fun z=>?_)
       · walk_at "rd"
         refine⟨ls,vs,_,_,rfl,rfl,SqL.of hs9,a4s (j:=j) (by omega) e3,?_⟩
         walk_at "rd"
         rw[z,Bool.true_and] at hk
         exact hk _ (L2.Same.refl _)
       · rw[z,Bool.false_and] at hk
         exact hk _ (L2.Same.refl _)
     · have hj:j<N:=by omega
       rw[Int.zero_add]
       walk_at "rd"
       intro c hc
       exact hk _ _ (Same.new hc) ⟨c,rfl,a0d⟩
     · have hlr:=row_le L i
       have hr2:=hrl i
       have hpv:=pls_row eN (fun (j:Nat)=>ovD L ((i:Int),(j:Int))) (fun _ _=>rfl) hpr
       have l1:=hpv.len
       have l2:=hp9.len
       have hm:i*N≤4096:=c4g (Nat.mul_le_mul_right N (c5k hi)) w3
       refine⟨l9,D,ys,ws,rfl,rfl,s9 _ _ h93,hd,c5k (a0v (by omega)),fun p hp=>?_⟩
       have s10:=Same.new (o:=.lst (ys++ws)) hp
       refine⟨_,_,p,ys++ws,rfl,t2.trans (t3.trans (s9.trans s10)),(s2.trans (t2.trans (t3.trans s9))).free hp,a0d,?_⟩
       rw[c6s,c7j]
       exact ((hp9.same (t3.trans s9)).append (by simpa using hpv)).same s10
   · rintro σ W2 ⟨y6,y7,l9,ys,rfl,t2,hn9,h9,hp9⟩
     walk_at "rd"
     rw[hvl,hsl,← hfr] at hp9
     exact k l9 ys W2 (s2.trans t2) hn9 h9 hp9
theorem a6n(F:a0s K mg "greatest_common" a1o ["one","other"])(B:Blt mg):a1e P w K mg base CX0 1 "greatest_common" ["one","other"] spGcd:=by
 refine a1i F a4a (fun vs H Q E h=>?_) (fun f cdv A outer s H vs Q E hr h=>?_)
 · obtain⟨a,b,rfl,_⟩:=h;rfl
 obtain⟨a,b,rfl,k⟩:=h
 have hu:=hr.units
 refine⟨_,(a0f (a6k PassesOwn.never (a1k op_ne (pvI 1) a0c (a2i _)) (a0i (a6d (i:=0) (j:=1) rfl a4a.nd rfl rfl (by decide) rfl rfl (a0a (pvI 1) (a0a (a0g op_modN (pvI 0) (pvI 1)) a0b)) rfl))) (a0i (a0z (a0w b6k (by rfl) B.abs PyProof.Rows.boot_abs (a0a (pvI 0) a0b))))),?_⟩
 refine b0q (fun σ H'=>∃ x y:Int,σ=[some (.int x),some (.int y)]∧H'=H∧c3s x y=c3s a b) (fun σ _=>match σ with | [_,some (.int y)]=>y.natAbs | _=>0) ⟨a,b,rfl,rfl,rfl⟩ ?_ ?_
 · rintro σ H' ⟨x,y,rfl,rfl,e⟩
   refine⟨_,rfl,rfl,_,rfl,?_⟩
   by_cases hy:y=0
   · subst hy
     refine iteNS rfl ?_
     refine⟨_,rfl,_,rfl,?_⟩
     rw[gcd_zero,e]
     exact k
   · refine ifT (b7l hy) ?_
     refine⟨_,rfl,_,rfl,_,rfl,_,_,rfl,rfl,hy,_,_,rfl,⟨_,_,rfl,rfl,?_⟩,?_⟩
     · rw[b6b];exact e
     · exact fmod_lt x y hy
 · rintro σ H' Q Q' hq ⟨v,h1,hs,k1,h2,h3⟩
   exact⟨v,h1,hs,k1,h2,hq _ _ h3⟩
theorem a6z(F:a0s K mg "common_bottoms" a1u ["shares"])(D_greatest_common:a1e P w K mg base CX0 1 "greatest_common" ["one","other"] spGcd):a1e P w K mg base CX0 2 "common_bottoms" ["shares"] (b5i K):=by
 refine a1i F a1n (fun vs H Q E h=>?_) (fun f cdv A outer s H vs Q E hr h=>?_)
 · obtain⟨a,ws,qs,D,rfl,_⟩:=h;rfl
 obtain⟨a,ws,qs,D,rfl,hS,hQ,hD,zD,hdv,h40,k⟩:=h
 have hu:=hr.units
 refine⟨_,(a0f (a0x (i:=1) a1n.nd rfl (Or.inl rfl) (a1m a0b)) (a0f (a0x (i:=2) a1n.nd rfl (Or.inl rfl) a0c) (a0f (a4v PassesOwn.never rfl (a2p K (pvI 0)) (a0k (i:=3) a1n.nd rfl (Or.inl rfl)) (a0f (a0x (i:=4) a1n.nd rfl (Or.inl rfl) (a0g a4q (a0n (a1d K) (pvI 3) a0c (fun _ _=>rfl)) (a1c D_greatest_common hr a1q (a0a (pvI 2) (a0a (a0n (a1d K) (pvI 3) a0c (fun _ _=>rfl)) a0b))))) (a0i (a3i (a1k b6u (pvI 4) a0c (a2i _)) (a0f (a3g (show PEi _ _ (tBM K _ _ _ _) from (a5u c4e c4p c4q a2q (pvI 1) (a0a (pvI 4) a0b)))) (a0i (a0x (i:=2) a1n.nd rfl (Or.inl rfl) (a0g a1g (pvI 2) (pvI 4))))) a2m)))) (a0i (a0z (pvI 1)))))),?_⟩
 walk_at "rd"
 intro l hl
 walk_at "rd"
 refine⟨⟨ws,by walk_at "mv"⟩,b1i (xs:=ws) (fun i σ H'=>∃ (y1 y2:Option V) (W:Int) (bs:List Int),σ=[some (.ref a),some (.ref l),some (.int W),y1,y2]∧W=a1b bs∧Same H H'∧H' l=some (.lst (bs.map V.int))∧(∀ b∈bs,0<b∧Sz 9000 b)∧W∣D∧(∀ j q,j<i→qs[j]?=some q→(q.den:Int)∣W)∧bs.length≤i)
   ⟨none,none,1,[],rfl,rfl,Same.new hl,a0d,(fun _ h=>nomatch h),⟨D,by rw[Int.one_mul]⟩,fun j q h=>absurd h (Nat.not_lt_zero _),c2o _⟩ ?_ ?_ ?_⟩
 · rintro i σ H' hi ⟨y1,y2,W,bs,rfl,eW,s1,h1,hb,hW,hq,hn⟩
   exact s1.seq hS
 · rintro i x σ H' hx ⟨y1,y2,W,bs,rfl,eW,s1,h1,hb,hW,hq,hn⟩
   have hi:i<ws.length:=(c2q.mp hx).1
   have hwl:=hQ.len
   obtain⟨q,eq,c,rfl,hc⟩:=(hQ.same s1).atV hx
   have hdq:=hdv q (c2m eq)
   have hd0:0<(q.den:Int):=by have:=q.den_pos;omega
   obtain⟨g1,g2,g3,g4,g5⟩:=lcm_step hd0 hW hdq
   have zq:Sz 9000 (q.den:Int):=a9z (by omega) hdq zD
   have zg:Sz 9000 (c3s W q.den:Int):=a9z (by omega) g5 zq
   walk_at "rd"
   refine⟨W,q.den,rfl,?_⟩
   refine⟨_,_,rfl,rfl,⟨by omega,zg⟩,?_⟩
   walk_at "rd"
   have zW:Sz 9000 W:=a9z (by omega) hW zD
   have zm:Sz 9000 ((q.den:Int).fdiv (c3s W q.den)):=b8z hd0 g4 g5 zq
   refine b1f (fun hm=>?_) (fun hm=>?_)
   · walk_at "rd"
     refine⟨.inl ⟨rfl,_,SqL.of h1⟩,?_⟩
     walk_at "rd"
     refine⟨l,_,_,rfl,rfl,h1,a0v (by rw[c2h];omega),?_⟩
     walk_at "rd"
     refine⟨_,_,_,bs++[(q.den:Int).fdiv (c3s W q.den)],rfl,by rw[b0i,eW],fun b o e=>?_,?_,?_,g2,?_,?_⟩
     · rw[a0j (a0l e hl)];exact s1 b o e
     · rw[a0d,List.map_append];rfl
     · intro b hb'
       rcases c3n.mp hb' with h | h
       · exact hb b h
       · rw[c3h.mp h];exact⟨g3,zm⟩
     · intro j r hj er
       by_cases hji:j=i
       · subst hji
         rw[eq] at er;cases er
         exact g1
       · exact Int.dvd_trans (hq j r (by omega) er) ⟨_,rfl⟩
     · rw[c2k];show bs.length+1≤i+1;omega
   · have e1:(q.den:Int).fdiv (c3s W q.den)=1:=by omega
     rw[e1,Int.mul_one] at g1
     refine⟨_,_,_,bs,rfl,eW,s1,h1,hb,hW,?_,by omega⟩
     intro j r hj er
     by_cases hji:j=i
     · subst hji
       rw[eq] at er;cases er
       exact g1
     · exact hq j r (by omega) er
 · rintro σ H' ⟨y1,y2,W,bs,rfl,eW,s1,h1,hb,hW,hq,hn⟩
   have hwl:=hQ.len
   refine⟨_,rfl,k l bs H' s1 h1 hb (fun q hm=>?_) (eW ▸ hW) (by omega)⟩
   obtain⟨j,hj,rfl⟩:=c3a hm
   rw[← eW]
   exact hq j _ (by omega) (c2e hj)
theorem b6v(F:a0s K mg "product" a4h ["numbers"]):a1e P w K mg base CX0 1 "product" ["numbers"] (a8i K):=by
 refine a1i F a5j (fun vs H Q E h=>?_) (fun f cdv A outer s H vs Q E hr h=>?_)
 · obtain⟨a,bs,rfl,_⟩:=h;rfl
 obtain⟨a,bs,rfl,hS,hb,hn,k⟩:=h
 have hu:=hr.units
 refine⟨_,(a0f (a0x (i:=1) a5j.nd rfl (Or.inl rfl) a0c) (a0f (a4v PassesOwn.never rfl (a2p K (pvI 0)) (a0k (i:=2) a5j.nd rfl (Or.inl rfl)) (a0i (a0x (i:=1) a5j.nd rfl (Or.inl rfl) (a0g a1g (pvI 1) (pvI 2))))) (a0i (a0z (pvI 1))))),?_⟩
 walk_at "rd"
 refine⟨⟨_,hS⟩,b1i (xs:=bs.map V.int) (fun i σ H'=>∃ (y:Option V) (W:Int),σ=[some (.ref a),some (.int W),y]∧W=a1b (bs.take i)∧H'=H) ⟨none,1,rfl,rfl,rfl⟩ ?_ ?_ ?_⟩
 · rintro i σ H' hi ⟨y,W,rfl,eW,rfl⟩
   exact hS
 · rintro i x σ H' hx ⟨y,W,rfl,eW,rfl⟩
   obtain⟨b,eb,rfl⟩:=ints_at hx
   have zW:Sz (9000*100+1) W:=by
     rw[eW]
     exact (prod_sz fun c hc=>hb c (c4w hc)).mono (by rw[c3j];omega)
   walk_at "rd"
   refine⟨mulB zW (hb b (c2m eb)).2,_,_,rfl,?_,rfl⟩
   rw[b1y eb,b0i,eW]
 · rintro σ H' ⟨y,W,rfl,eW,rfl⟩
   refine⟨_,rfl,?_⟩
   rw[c2h,List.take_length] at eW
   rw[eW];exact k
theorem ok_axis(F:a0s K mg "axis" a8n ["shares"])(D_common_bottoms:a1e P w K mg base CX0 2 "common_bottoms" ["shares"] (b5i K))(D_product:a1e P w K mg base CX0 1 "product" ["numbers"] (a8i K)):a1e P w K mg base CX0 3 "axis" ["shares"] (b8p K):=by
 refine a1i F b3s (fun vs H Q E h=>?_) (fun f cdv A outer s H vs Q E hr h=>?_)
 · obtain⟨a,ws,qs,D,m,rfl,_⟩:=h;rfl
 obtain⟨a,ws,qs,D,m,rfl,hS,hQ,hD,zD,hdv,hm,h40,k⟩:=h
 have hu:=hr.units
 refine⟨_,(a0f (a0x (i:=1) b3s.nd rfl (Or.inl rfl) (a1c D_common_bottoms hr a1q (a0a (pvI 0) a0b))) (a0f (a0x (i:=2) b3s.nd rfl (Or.inr rfl) (a1c D_product hr a1q (a0a (pvI 1) a0b))) (a0i (a0z (a0t (a0a (a3j (os:=["one"]) (caps:=[(2,"whole")]) ["shares","bottoms","whole"] (a0e a8n) (a2p K (pvI 0)) (fun _ _ _ _ _=>(a0k (i:=0) (show c3x (["one","whole"]:List Str) from by decide +kernel) rfl (Or.inl rfl))) (fun _ _ _ _ _=>(a0g a1g (a0n (a1d K) (pvI 0) a0c (fun _ _=>rfl)) (a0g a4q (pvI 1) (a0n (a1d K) (pvI 0) a0c (fun _ _=>rfl))))) (by decide +kernel)) (a0a (pvI 1) a0b))))))),?_⟩
 walk_at "rd"
 refine⟨a,ws,qs,D,rfl,hS,hQ,hD,zD,fun q hq=>(hdv q hq).1,h40,fun lb bs H1 s1 hlb hb hdb hbD hbl=>?_⟩
 have hW:0<a1b bs:=a8r fun b hb'=>(hb b hb').1
 have zW:Sz 9000 (a1b bs):=a9z (by omega) hbD zD
 have hwl:=hQ.len
 walk_at "rd"
 refine⟨lb,bs,rfl,SqL.of hlb,hb,by omega,?_⟩
 walk_at "rd"
 refine⟨⟨_,s1.seq hS⟩,b2w (a4j (s1.seq hS)) (by omega) (fun i v _=>∀ q,qs[i]?=some q→v=.int (q.num*(a1b bs).fdiv q.den)) (fun _ _ _ _ _ h=>h) (fun i H2 kk hi s2 hk=>?_) (fun E2 ys H2 hE s2 hE2 hl hr=>?_)⟩
 · have ew:ws[i]?=some ws[i]:=c2e hi
   obtain⟨q,eq,c,ec,hc⟩:=((hQ.same s1).same s2).atV ew
   have ef:(ws[i]?).getD V.non=.ref c:=by rw[ew];exact ec
   obtain⟨dq,bq⟩:=hdv q (c2m eq)
   have hd0:0<(q.den:Int):=by have:=q.den_pos;omega
   have zq:Sz 9000 (q.den:Int):=a9z (by omega) dq zD
   have dW:=hdb q (c2m eq)
   have zf:Sz 9000 ((a1b bs).fdiv q.den):=b8z hW hd0 dW zW
   rw[ef]
   walk_at "rd"
   refine⟨⟨by omega,zq⟩,?_⟩
   refine⟨_,_,rfl,rfl,mulN bq.num zf (by omega),?_⟩
   refine hk _ _ (L2.Same.refl _) fun q' e'=>?_
   rw[eq] at e';cases e'
   rfl
 · walk_at "rd"
   intro p hp
   have ey:=ints_of (by omega) hr
   refine k _ (qs.map fun q=>q.num*(a1b bs).fdiv q.den) bs _ (by walk_at "sm") ⟨p,E2,lb,rfl,a0d,?_,?_,?_,hb,by omega,by rw[c2h];omega⟩ (axR_tops hW hdb) hbl hbD
   · rw[← ey];exact a2k hp hE2
   · exact a2k hp (s2 _ _ hlb)
   · intro x hx
     obtain⟨q,hq,rfl⟩:=c3w.mp hx
     obtain⟨dq,bq⟩:=hdv q hq
     exact (bq.num.mul (b8z hW (by have:=q.den_pos;omega) (hdb q hq) zW)).mono (by omega)
theorem ok_axes(F:a0s K mg "axes" a7g ["points"])(D_axis:a1e P w K mg base CX0 3 "axis" ["shares"] (b8p K)):a1e P w K mg base CX0 4 "axes" ["points"] (b8q K):=by
 refine a1i F sc_axes (fun vs H Q E h=>?_) (fun f cdv A outer s H vs Q E hr h=>?_)
 · obtain⟨a,ws,ps,D,m,rfl,_⟩:=h;rfl
 obtain⟨a,ws,ps,D,m,rfl,hS,hP,hD,zD,hdv,hm,h40,k⟩:=h
 have hu:=hr.units
 refine⟨_,(a0i (a0z (a0t (a0a (a1c D_axis hr a1q (a0a (a3j (os:=["place"]) (caps:=[]) ["points"] (a0e a7g) (a2p K (pvI 0)) (fun _ _ _ _ _=>(a0k (i:=0) (show c3x (["place"]:List Str) from by decide +kernel) rfl (Or.inl rfl))) (fun _ _ _ _ _=>(a0n (a1d K) (pvI 0) a0c (fun _ _=>rfl))) (by decide +kernel)) a0b)) (a0a (a1c D_axis hr a1q (a0a (a3j (os:=["place"]) (caps:=[]) ["points"] (a0e a7g) (a2p K (pvI 0)) (fun _ _ _ _ _=>(a0k (i:=0) (show c3x (["place"]:List Str) from by decide +kernel) rfl (Or.inl rfl))) (fun _ _ _ _ _=>(a0n (a1d K) (pvI 0) a0c (fun _ _=>rfl))) (by decide +kernel)) a0b)) a0b))))),?_⟩
 have hwl:=hP.len
 walk_at "rd"
 refine⟨⟨ws,by walk_at "mv"⟩,b2w (a4j (by walk_at "mv" : SqL K _ a ws)) (by omega) (fun i v H=>∀ p,ps[i]?=some p→ShV H v p.1) (fun _ _ _ _ t h p e=>(h p e).tup t) (fun i H2 kk hi s2 hk=>?_) (fun E2 ys2 H2 hE2 s2 hE'2 hl2 hr2=>?_)⟩
 · have ew:ws[i]?=some ws[i]:=c2e hi
   obtain⟨p,ep,c,vx,vy,ec,hc,hx,hy⟩:=(show PtsV H2 ws ps by walk_at "mv").atV ew
   have ef:(ws[i]?).getD V.non=.ref c:=by rw[ew];exact ec
   rw[ef]
   walk_at "rd"
   refine hk _ _ (L2.Same.refl _) fun p' e'=>?_
   rw[ep] at e';cases e'
   assumption
 have hq2:ShL H2 ys2 (ps.map (·.1)):=ShL.map (by omega) hr2
 clear hr2
 refine⟨E2,ys2,ps.map (·.1),D,m,rfl,SqL.of hE'2,hq2,hD,zD,fun q hq=>?_,hm,by rw[c2h];omega,fun v3 t3 b3 H3 s3 A3 e3 n3 g3=>?_⟩
 · obtain⟨p,hp,rfl⟩:=c3w.mp hq
   exact (hdv p hp).1
 rw[c2h] at n3
 walk_at "rd"
 refine⟨⟨ws,by walk_at "mv"⟩,b2w (a4j (by walk_at "mv" : SqL K _ a ws)) (by omega) (fun i v H=>∀ p,ps[i]?=some p→ShV H v p.2) (fun _ _ _ _ t h p e=>(h p e).tup t) (fun i H4 kk hi s4 hk=>?_) (fun E4 ys4 H4 hE4 s4 hE'4 hl4 hr4=>?_)⟩
 · have ew:ws[i]?=some ws[i]:=c2e hi
   obtain⟨p,ep,c,vx,vy,ec,hc,hx,hy⟩:=(show PtsV H4 ws ps by walk_at "mv").atV ew
   have ef:(ws[i]?).getD V.non=.ref c:=by rw[ew];exact ec
   rw[ef]
   walk_at "rd"
   refine hk _ _ (L2.Same.refl _) fun p' e'=>?_
   rw[ep] at e';cases e'
   assumption
 have hq4:ShL H4 ys4 (ps.map (·.2)):=ShL.map (by omega) hr4
 clear hr4
 refine⟨E4,ys4,ps.map (·.2),D,m,rfl,SqL.of hE'4,hq4,hD,zD,fun q hq=>?_,hm,by rw[c2h];omega,fun v5 t5 b5 H5 s5 A5 e5 n5 g5=>?_⟩
 · obtain⟨p,hp,rfl⟩:=c3w.mp hq
   exact (hdv p hp).2
 rw[c2h] at n5
 walk_at "rd"
 intro c hc
 exact k c v3 v5 t3 b3 t5 b5 _ (by walk_at "sm") a0d (by walk_at "mv") (by walk_at "mv") e3 e5 n3 n5 g3 g5
theorem b4d(F:a0s K mg "room_for" a3o ["seats","level"]):a1e P w K mg base CX0 1 "room_for" ["seats","level"] spRoom:=by
 refine a1i F b3r (fun vs H Q E h=>?_) (fun f cdv A outer s H vs Q E hr h=>?_)
 · obtain⟨n,L,rfl,_⟩:=h;rfl
 obtain⟨n,L,rfl,h1,h2,h3,k⟩:=h
 have hu:=hr.units
 refine⟨_,(a0i (a0z (a0g b9u a0c (a0g a1g (pvI 1) (a0g a3b (pvI 0) a0c))))),?_⟩
 walk_at "rd"
 have e:(L:Int)*((n:Int) - 1)=((L*(n - 1):Nat):Int):=by
   rw[show (n:Int) - 1=((n - 1:Nat):Int) by omega];exact (c7q L (n - 1)).symm
 have m1:L*(n - 1)≤1000*1000:=Nat.mul_le_mul (by omega) (by omega)
 refine⟨⟨by show (0:Int)≤(L:Int)*((n:Int) - 1);omega,by show (L:Int)*((n:Int) - 1)≤1000000;omega,by decide⟩,?_⟩
 show Q (.int (1*2^((L:Int)*((n:Int) - 1)).toNat)) H
 rw[e,c5a,Int.one_mul]
 exact k
theorem a9r(F:a0s K mg "whole_curve" a2e ["xs","ys","room"])(B:Blt mg):a1e P w K mg base CX0 1 "whole_curve" ["xs","ys","room"] b5a:=by
 refine a1i F a9o (fun vs H Q E h=>?_) (fun f cdv A outer s H vs Q E hr h=>?_)
 · obtain⟨x,y,n,t1,b1,t2,b2,R,rfl,_⟩:=h;rfl
 obtain⟨_,_,n,t1,b1,t2,b2,R,rfl,⟨a1,lt1,lb1,rfl,h1,ht1,hb1,z1,g1,n1,m1⟩,⟨a2,lt2,lb2,rfl,h2,ht2,hb2,z2,g2,n2,m2⟩,h12,zR,hn,k⟩:=h
 have hu:=hr.units
 refine⟨_,(a0i (a0z (a3j (os:=["x","y"]) (caps:=[(2,"room")]) ["xs","ys","room"] (a0e a2e) (show PIi _ _ _ (iZip K _) from (b9g rfl B.zip (a0a (a0n (a1d K) (pvI 0) a0c (fun _ _=>rfl)) (a0a (a0n (a1d K) (pvI 1) a0c (fun _ _=>rfl)) a0b)))) (fun _ _ _ _ _=>(a1t (n:=2) K rfl (a0m (a0k (i:=0) (show c3x (["x","y","room"]:List Str) from by decide +kernel) rfl (Or.inl rfl)) (a0m (a0k (i:=1) (show c3x (["x","y","room"]:List Str) from by decide +kernel) rfl (Or.inl rfl)) a1s)))) (fun _ _ _ _ _=>(a0t (a0a (a0g a1g (pvI 0) (pvI 2)) (a0a (a0g a1g (pvI 1) (pvI 2)) a0b)))) (by decide +kernel)))),?_⟩
 walk_at "rd"
 refine⟨_,_,rfl,⟨_,SqL.of ht1⟩,⟨_,SqL.of ht2⟩,comp2 (b2h (SqL.of ht1) (SqL.of ht2)) (by rw[c2h,c2h];omega) (fun i v H=>∀ x y,t1[i]?=some x→t2[i]?=some y→RwV H v (x*R) (y*R)) (fun _ _ _ _ t h x y e f=>(h x y e f).tup t) (fun i H2 kk hi s2 hk=>?_) (fun D us H2 hD s2 hD2 hl hr=>?_)⟩
 · rw[c2h,c2h] at hi
   have e1:t1[i]?=some (t1[i]'(by omega (config:={}))):=c2e _
   have e2:t2[i]?=some (t2[i]'(by omega (config:={}))):=c2e _
   rw[int_at e1,int_at e2]
   have c1:=z1 _ (c2m e1)
   have c2:=z2 _ (c2m e2)
   walk_at "rd"
   refine⟨mulN c1 zR (by omega),?_⟩
   walk_at "rd"
   refine⟨mulN c2 zR (by omega),?_⟩
   walk_at "rd"
   intro p hp
   refine hk _ _ (by walk_at "sm") fun x y ex ey=>?_
   rw[e1] at ex;rw[e2] at ey
   cases ex;cases ey
   exact⟨p,rfl,a0d⟩
 · rw[c2h,c2h] at hl
   refine k D us H2 s2 hD hD2 ⟨by unfold wcI;rw[c5v];exact hl,fun i v p e1 e2=>?_⟩
   have hi:i<us.length:=(c2q.mp e1).1
   have f1:t1[i]?=some (t1[i]'(by omega (config:={}))):=c2e _
   have f2:t2[i]?=some (t2[i]'(by omega (config:={}))):=c2e _
   unfold wcI at e2
   rw[c5m,f1,f2] at e2
   cases e2
   exact hr i v e1 _ _ f1 f2
theorem a6o{C_Ground:Addr}(T_Ground:ClsK K mg "Ground" C_Ground)(N_Ground_room:a2c K C_Ground "room")(N_Ground_x_bottoms:a2c K C_Ground "x_bottoms")(N_Ground_y_bottoms:a2c K C_Ground "y_bottoms")(N_Ground_ones:a2c K C_Ground "ones")(N_Ground_others:a2c K C_Ground "others")(F:b1t K C_Ground "__init__" "Ground.__init__" a1p ["self","one","other","level"])(B:Blt mg)(D_axes:a1e P w K mg base CX0 4 "axes" ["points"] (b8q K))(D_room_for:a1e P w K mg base CX0 1 "room_for" ["seats","level"] spRoom)(D_whole_curve:a1e P w K mg base CX0 1 "whole_curve" ["xs","ys","room"] b5a):b1s P w K mg base CX0 5 C_Ground "__init__" ["self","one","other","level"] (b5g K C_Ground):=by
 refine mth_ok F a2l (fun vs H Q E h=>?_) (fun f cdv A outer s H vs Q E hr h=>?_)
 · obtain⟨x,a,b,dx,us,ws,ps,qs,D,m,L,rfl,_⟩:=h;rfl
 obtain⟨x,a,b,dx,us,ws,ps,qs,D,m,L,rfl,hx,ha,hP,hb,hR,p1,p12,q1,q12,hD,zD,hm,hov,hL,hLn,k⟩:=h
 have hu:=hr.units
 refine⟨_,(a0f (a4g (a1c D_axes hr a1q (a0a (a0g b9w (pvI 1) (pvI 2)) a0b)) (a1t (n:=2) K rfl (a0m (a0k (i:=4) a2l.nd rfl (Or.inl rfl)) (a0m (a0k (i:=5) a2l.nd rfl (Or.inl rfl)) a1s)))) (a0f (show PSi _ _ (sFld K _ _ _) from (ps_fldI (pvI 0) (a1c D_room_for hr a1q (a0a (a0w (c1o rfl) (by rfl) B.max PyProof.Rows.boot_max (a0a (a0w (a2y K) (by rfl) B.len PySem.boot_len (a0a (pvI 1) a0b)) (a0a (a0w (a2y K) (by rfl) B.len PySem.boot_len (a0a (pvI 2) a0b)) a0b))) (a0a (pvI 3) a0b))))) (a0f (a4g (a0t (a0a (a0n (a1d K) (pvI 4) a0c (fun _ _=>rfl)) (a0a (a0n (a1d K) (pvI 5) a0c (fun _ _=>rfl)) a0b))) (a1t (n:=2) K rfl (a0m (a6x K (pvI 0)) (a0m (a6x K (pvI 0)) a1s)))) (a0f (a0x (i:=6) a2l.nd rfl (Or.inl rfl) (a1c D_whole_curve hr a1q (a0a (pvI 4) (a0a (pvI 5) (a0a (show PEi _ _ (tFld K _ _) from (a4x (pvI 0))) a0b))))) (a0i (a4g (a0t (a0a (a1m (a0a (a3u (a7t K) (pvI 6) a4p (a4c (a0w (a2y K) (by rfl) B.len PySem.boot_len (a0a (pvI 1) a0b)))) a0b)) (a0a (a1m (a0a (a3u (a7t K) (pvI 6) (a4c (a0w (a2y K) (by rfl) B.len PySem.boot_len (a0a (pvI 1) a0b))) a4p) a0b)) a0b))) (a1t (n:=2) K rfl (a0m (a6x K (pvI 0)) (a0m (a6x K (pvI 0)) a1s))))))))),?_⟩
 have hpl:=hP.len
 have hql:=hR.len
 walk_at "rd"
 refine⟨a0v (by omega) |> c5k,fun l0 hl0=>?_⟩
 have hPQ:PtsV H (us++ws) (ps++qs):=hP.append hR
 have hov2:∀ p∈ps++qs,((p.1.den:Int)∣D∧Bd 400 p.1)∧(p.2.den:Int)∣D∧Bd 400 p.2:=fun p hp=>by
   obtain⟨o1,o2⟩:=hov p hp
   obtain⟨b1,b2⟩:=ovp_bd4 hD zD ⟨o1,o2⟩ 400 (by omega) (by omega)
   exact⟨⟨c1f o1,b1⟩,c1f o2,b2⟩
 walk_at "rd"
 dsimp only[tNil]
 refine⟨l0,us++ws,ps++qs,D,400,rfl,SqL.of a0d,hPQ.same (Same.new hl0),hD,zD.mono (by decide),hov2,by decide,by rw[c2k];omega,fun c vx vy t1 b1 t2 b2 H1 s1 hc A1 A2 e1 e2 n1 n2 g1 g2=>?_⟩
 have W1:0<a1b b1:=by obtain⟨_,_,_,_,_,_,_,_,zz,_⟩:=id A1;exact a8r fun b hb=>(zz b hb).1
 have W2:0<a1b b2:=by obtain⟨_,_,_,_,_,_,_,_,zz,_⟩:=id A2;exact a8r fun b hb=>(zz b hb).1
 have l1:t1.length=ps.length+qs.length:=by have:=congrArg c6v e1;rw[b1r,c2h,c2k] at this;exact this
 have l2:t2.length=ps.length+qs.length:=by have:=congrArg c6v e2;rw[b1r,c2h,c2k] at this;exact this
 refine⟨c,_,rfl,SqT.of hc,rfl,_,_,rfl,_,_,rfl,rfl,?_⟩
 have s01:Same H H1:=(Same.new hl0).trans s1
 walk_at "rd"
 dsimp only[tNil]
 refine⟨_,_,rfl,?_⟩
 walk_at "rd"
 dsimp only[tNil]
 refine⟨max ps.length qs.length,L,?_,by omega,by omega,by omega,?_⟩
 · rw[hpl,hql]
   congr 2
   by_cases h:(qs.length:Int) > (ps.length:Int)
   · rw[if_pos h];congr 1;omega
   · rw[if_neg h];congr 1;omega
 walk_at "rd"
 have hx1:=s01 _ _ hx
 refine⟨x,C_Ground,dx,[],rfl,hx1,T_Ground.cl,N_Ground_room,by show 0<1000;decide,?_⟩
 generalize eR:(2:Int)^(L*(max ps.length qs.length - 1))=R at *
 have i2:Ins H1 (upd H1 x (.ins C_Ground dx (putF "room" (.int R) []))):=Ins.upd hx1
 have hx2:(upd H1 x (.ins C_Ground dx (putF "room" (.int R) []))) x=some (.ins C_Ground dx (putF "room" (.int R) [])):=a0d
 have n2':∀ b,b≠x→(upd H1 x (.ins C_Ground dx (putF "room" (.int R) []))) b=H1 b:=fun b hb=>a0j hb
 generalize upd H1 x (.ins C_Ground dx (putF "room" (.int R) []))=H2 at *
 obtain⟨ax,lt1,lx,rfl,ha1,ha2,ha3,ha4⟩:=id (A1.ins i2)
 obtain⟨ay,lt2,ly,rfl,hb1,hb2,hb3,hb4⟩:=id (A2.ins i2)
 walk_at "rd"
 intro tp htp
 have ntx:x≠tp:=fun z=>by rw[← z,hx2] at htp;cases htp
 have hx3:(upd H2 tp (.tup [.ref lx,.ref ly])) x=some (.ins C_Ground dx (putF "room" (.int R) [])):=by rw[a0j ntx];exact hx2
 refine⟨tp,_,rfl,SqT.of a0d,rfl,_,_,rfl,_,rfl,x,C_Ground,dx,_,rfl,hx3,T_Ground.cl,N_Ground_x_bottoms,by show 1<1000;decide,_,_,rfl,_,rfl,x,C_Ground,dx,_,rfl,a0d,T_Ground.cl,N_Ground_y_bottoms,by show 2<1000;decide,rfl,?_⟩
 have i3:Ins H2 (upd (upd (upd H2 tp (.tup [.ref lx,.ref ly])) x (.ins C_Ground dx (putF "x_bottoms" (.ref lx) (putF "room" (.int R) [])))) x (.ins C_Ground dx (putF "y_bottoms" (.ref ly) (putF "x_bottoms" (.ref lx) (putF "room" (.int R) []))))):=((Ins.same (Same.new htp)).trans (Ins.upd hx3)).trans (Ins.upd a0d)
 have b3:ButX x H2 (upd (upd (upd H2 tp (.tup [.ref lx,.ref ly])) x (.ins C_Ground dx (putF "x_bottoms" (.ref lx) (putF "room" (.int R) [])))) x (.ins C_Ground dx (putF "y_bottoms" (.ref ly) (putF "x_bottoms" (.ref lx) (putF "room" (.int R) []))))):=((ButX.same (Same.new htp)).trans ButX.upd).trans ButX.upd
 have hx4:(upd (upd (upd H2 tp (.tup [.ref lx,.ref ly])) x (.ins C_Ground dx (putF "x_bottoms" (.ref lx) (putF "room" (.int R) [])))) x (.ins C_Ground dx (putF "y_bottoms" (.ref ly) (putF "x_bottoms" (.ref lx) (putF "room" (.int R) []))))) x=some (.ins C_Ground dx (putF "y_bottoms" (.ref ly) (putF "x_bottoms" (.ref lx) (putF "room" (.int R) [])))):=a0d
 generalize (upd (upd (upd H2 tp (.tup [.ref lx,.ref ly])) x (.ins C_Ground dx (putF "x_bottoms" (.ref lx) (putF "room" (.int R) [])))) x (.ins C_Ground dx (putF "y_bottoms" (.ref ly) (putF "x_bottoms" (.ref lx) (putF "room" (.int R) [])))))=H3 at *
 have b13:ButX x H H3:=((ButX.same s01).trans (fun b o hb e=>by rw[n2' b hb];exact e)).trans b3
 walk_at "rd"
 refine⟨x,C_Ground,dx,_,.int R,rfl,hx4,T_Ground.cl,N_Ground_room,by rw[a0q,if_neg (by decide),a0q,if_neg (by decide)];rfl,?_⟩
 have hKK:L*(max ps.length qs.length - 1)≤40:=hLn
 have R0:0<R:=by rw[← eR];exact b5q _
 have zR:Sz 41 R:=by rw[← eR];exact (b0z _).mono (by omega)
 walk_at "rd"
 dsimp only[tNil]
 refine⟨.ref ax,.ref ay,_,t1,b1,t2,b2,R,rfl,(A1.ins i2).ins i3,(A2.ins i2).ins i3,by omega,zR.mono (by decide),by omega,fun l3 u3 H4 s4 hl3 hu3 hP3=>?_⟩
 have hul3:=hP3.len
 rw[wc_len (by omega)] at hul3
 have nax:a≠x:=fun z=>by rw[z,hx] at ha;cases ha
 have nbx:b≠x:=fun z=>by rw[z,hx] at hb;cases hb
 have b14:ButX x H H4:=b13.trans (ButX.same s4)
 have ha4':=b14 _ _ nax ha
 have hx5:=s4 _ _ hx4
 walk_at "rd"
 refine⟨l3,u3,rfl,SqL.of hu3,fun c1 hc1=>?_⟩
 rw[cut_to u3 (us.length:Int) us.length rfl]
 walk_at "rd"
 intro lo hlo
 have s5:Same H4 (upd (upd H4 c1 (.lst (u3.take us.length))) lo (.lst [.ref c1])):=(Same.new hc1).trans (Same.new hlo)
 have f1:(upd (upd H4 c1 (.lst (u3.take us.length))) lo (.lst [.ref c1])) c1=some (.lst (u3.take us.length)):=a2k hlo a0d
 have f2:(upd (upd H4 c1 (.lst (u3.take us.length))) lo (.lst [.ref c1])) lo=some (.lst [.ref c1]):=a0d
 have hlo4:H4 lo=none:=(Same.new hc1).free hlo
 generalize upd (upd H4 c1 (.lst (u3.take us.length))) lo (.lst [.ref c1])=H5 at *
 have ha5:=s5 _ _ ha4'
 have hu5:=s5 _ _ hu3
 walk_at "rd"
 refine⟨l3,u3,rfl,SqL.of hu5,fun c2 hc2=>?_⟩
 rw[c1j u3 (us.length:Int) us.length rfl (by omega)]
 walk_at "rd"
 intro lt hlt
 have s6:Same H5 (upd (upd H5 c2 (.lst (u3.drop us.length))) lt (.lst [.ref c2])):=(Same.new hc2).trans (Same.new hlt)
 have f3:(upd (upd H5 c2 (.lst (u3.drop us.length))) lt (.lst [.ref c2])) c2=some (.lst (u3.drop us.length)):=a2k hlt a0d
 have f4:(upd (upd H5 c2 (.lst (u3.drop us.length))) lt (.lst [.ref c2])) lt=some (.lst [.ref c2]):=a0d
 have hlt5:H5 lt=none:=(Same.new hc2).free hlt
 generalize upd (upd H5 c2 (.lst (u3.drop us.length))) lt (.lst [.ref c2])=H6 at *
 walk_at "rd"
 intro tq htq
 have s7:Same H6 (upd H6 tq (.tup [.ref lo,.ref lt])):=Same.new htq
 have g7:(upd H6 tq (.tup [.ref lo,.ref lt])) tq=some (.tup [.ref lo,.ref lt]):=a0d
 generalize upd H6 tq (.tup [.ref lo,.ref lt])=H7 at *
 have s47:Same H4 H7:=(s5.trans s6).trans s7
 have hx7:=s47 _ _ hx5
 refine⟨tq,_,rfl,SqT.of g7,rfl,_,_,rfl,_,rfl,x,C_Ground,dx,_,rfl,hx7,T_Ground.cl,N_Ground_ones,by show 3<1000;decide,_,_,rfl,_,rfl,x,C_Ground,dx,_,rfl,a0d,T_Ground.cl,N_Ground_others,by show 4<1000;decide,rfl,?_⟩
 have iF:Ins H7 (upd H7 x (.ins C_Ground dx [])):=Ins.upd hx7
 have i37:Ins H3 (upd H7 x (.ins C_Ground dx [])):=(Ins.same (s4.trans s47)).trans iF
 have i47:Ins H4 (upd H7 x (.ins C_Ground dx [])):=(Ins.same s47).trans iF
 have T1:∀ x∈t1,Sz m x:=b8d W1 hD g1 e1 fun q hq=>by obtain⟨p,hp,rfl⟩:=c3w.mp hq;exact (hov p hp).1
 have T2:∀ x∈t2,Sz m x:=b8d W2 hD g2 e2 fun q hq=>by obtain⟨p,hp,rfl⟩:=c3w.mp hq;exact (hov p hp).2
 have C0:=wc_toP (R:=R) (by omega) e1 e2
 obtain⟨q1',q2'⟩:=wc_take C0
 have C1:=wc_dvs (L*(max ps.length qs.length - 1)) t1 t2
 have C2:=wc_sz (k:=L*(max ps.length qs.length - 1)) T1 T2
 rw[eR] at C1 C2
 have fin:=k b1 b2 ((wcI R t1 t2).take ps.length) ((wcI R t1 t2).drop ps.length) lx ly lo lt [.ref c1] [.ref c2] (upd H7 x (.ins C_Ground dx [])) ((b14.trans (ButX.same s47)).back hx) (i37.1 _ _ (i3.1 _ _ ha3)) (i37.1 _ _ (i3.1 _ _ hb3)) (iF.1 _ _ (s7 _ _ (s6 _ _ f2))) (cs_one (iF.1 _ _ (s7 _ _ (s6 _ _ f1))) (by rw[hpl];exact (PlsV.take hP3 _).tup i47.2)) (iF.1 _ _ (s7 _ _ f4)) (cs_one (iF.1 _ _ (s7 _ _ f3)) (by rw[hpl];exact (plsdrop hP3 _).tup i47.2)) ⟨W1,W2,ha4.2.1,hb4.2.1,by rw[c2k] at n1;omega,by rw[c2k] at n2;omega,by rw[eR];exact q1',by rw[eR];exact q2',fun p hp=>C1 p (c4w hp),fun p hp=>C1 p (c4f hp),fun p hp=>C2 p (c4w hp),fun p hp=>C2 p (c4f hp),dvd_sz W1 hD g1 zD,dvd_sz W2 hD g2 zD⟩ (b14.free hx5 hlo4) ((b14.trans (ButX.same s5)).free (s5 _ _ hx5) hlt5)
 rw[b3l] at fin
 rw[b3l]
 exact fin
theorem c0a(F:a0s K mg "halves" a4n ["curve"])(B:Blt mg):a1e P w K mg base CX0 1 "halves" ["curve"] b5e:=by
 refine a1i F a6i (fun vs H Q E h=>?_) (fun f cdv A outer s H vs Q E hr h=>?_)
 · obtain⟨a,ws,c,rfl,_⟩:=h;rfl
 obtain⟨a,ws,c,rfl,ha,hP,h12,k⟩:=h
 have hu:=hr.units
 refine⟨_,(a0f (a6d (i:=1) (j:=2) rfl a6i.nd rfl rfl (by decide) rfl rfl (a0a (a1m a0b) (a0a (a1m a0b) a0b)) rfl) (a0f (a0x (i:=3) a6i.nd rfl (Or.inl rfl) (pvI 0)) (a0f (a6k PassesOwn.never (pt_lstI (pvI 3)) (a0f (a3g (show PEi _ _ (tBM K _ _ _ _) from (a5u c4e c4p c4q a2q (pvI 1) (a0a (a0n (a0r K) (pvI 3) a0c (fun _ _=>rfl)) a0b)))) (a0f (a3g (show PEi _ _ (tBM K _ _ _ _) from (a5u c4e c4p c4q a2q (pvI 2) (a0a (a0n (a0r K) (pvI 3) (b9j b7y a0c) (fun _ _=>rfl)) a0b)))) (a0i (a6l (i:=3) (os:=["x","y","u","v"]) (caps:=[]) ["curve","first","second","row"] (a0e a4n) a6i.nd rfl rfl (show PIi _ _ _ (iZip K _) from (b9g rfl B.zip (a0a (pvI 3) (a0a (a3u (a7t K) (pvI 3) (a4c a0c) a4p) a0b)))) (fun _ _ _ _ _=>(a1t (n:=2) K rfl (a0m (a1t (n:=2) K rfl (a0m (a0k (i:=0) (show c3x (["x","y","u","v"]:List Str) from by decide +kernel) rfl (Or.inl rfl)) (a0m (a0k (i:=1) (show c3x (["x","y","u","v"]:List Str) from by decide +kernel) rfl (Or.inl rfl)) a1s))) (a0m (a1t (n:=2) K rfl (a0m (a0k (i:=2) (show c3x (["x","y","u","v"]:List Str) from by decide +kernel) rfl (Or.inl rfl)) (a0m (a0k (i:=3) (show c3x (["x","y","u","v"]:List Str) from by decide +kernel) rfl (Or.inl rfl)) a1s))) a1s)))) (fun _ _ _ _ _=>(a0t (a0a (a0g b4b (a0g a2n (pvI 0) (pvI 2)) a0c) (a0a (a0g b4b (a0g a2n (pvI 1) (pvI 3)) a0c) a0b)))) (by decide +kernel)))))) (a0i (a0z (a0t (a0a (pvI 1) (a0a (b2j K (pvI 2) (a4c (b9j b7y a0c))) a0b)))))))),?_⟩
 walk_at "rd"
 intro l1 hl1
 walk_at "rd"
 intro l2 hl2
 refine⟨_,_,rfl,?_⟩
 walk_at "rd"
 have n12:l1≠l2:=fun e=>by subst e;rw[a0d] at hl2;cases hl2
 have na1:a≠l1:=a0l ha hl1
 have hl2':H l2=none:=(Same.new (o:=.lst []) hl1).free hl2
 have na2:a≠l2:=a0l ha hl2'
 have sA:Same H (upd (upd H l1 (.lst [])) l2 (.lst [])):=(Same.new hl1).trans (Same.new hl2)
 have b1:(upd (upd H l1 (.lst [])) l2 (.lst [])) l1=some (.lst []):=a2k hl2 a0d
 have b2:(upd (upd H l1 (.lst [])) l2 (.lst [])) l2=some (.lst []):=a0d
 clear hl2
 generalize upd (upd H l1 (.lst [])) l2 (.lst [])=H2 at *
 refine b0q (fun σ H'=>∃ (lr:Addr) (rs us1 us2:List V) (r:Nat),σ=[some (.ref a),some (.ref l1),some (.ref l2),some (.ref lr)]∧Same H H'∧H' l1=some (.lst us1)∧H' l2=some (.lst us2)∧H' lr=some (.lst rs)∧lr≠l1∧lr≠l2∧PlsV H' rs (hrow c r)∧r≤c.length∧PlsV H' us1 ((c4a r).map fun r=>((hrow c r)[0]?).getD (0,0))∧PlsV H' us2 ((c4a r).map fun r=>((hrow c r)[c.length - 1 - r]?).getD (0,0))) muR ⟨a,ws,[],[],0,rfl,sA,b1,b2,sA _ _ ha,na1,na2,hP.same sA,by omega,⟨rfl,fun i v p e=>by simp at e⟩,⟨rfl,fun i v p e=>by simp at e⟩⟩ ?_ ?_
 · rintro σ H3 ⟨lr,rs,us1,us2,r,rfl,s3,q1,q2,q3,n1,n2,P3,hr,P1,P2⟩
   have hrl:=P3.len
   rw[a4r] at hrl
   have mu0:muR [some (.ref a),some (.ref l1),some (.ref l2),some (.ref lr)] H3=rs.length:=muR_eq q3
   have u1l:=P1.len
   have u2l:=P2.len
   rw[c2h,c4l] at u1l u2l
   refine⟨_,rfl,lr,rs,rfl,q3,?_⟩
   refine ifB (fun he=>?_) (fun he=>?_)
   · have hlt:r<c.length:=by
       cases rs with
       | nil=>simp at he
       | cons x xs=>simp at hrl;omega
     have e0:(hrow c r)[0]?=some ((hrow c r)[0]'(by rw[a4r];omega)):=c2e _
     obtain⟨a0,w0,g0⟩:=P3.at e0
     obtain⟨vL,wL,gL⟩:=row_last hlt P3
     refine⟨_,rfl,.inl ⟨rfl,_,SqL.of q1⟩,?_⟩
     refine⟨_,rfl,lr,_,_,_,rfl,rfl,SqL.of q3,a4s (j:=0) rfl w0,?_⟩
     refine⟨l1,_,_,rfl,rfl,q1,a0v (by omega),?_⟩
     have t1:Tup H3 (upd H3 l1 (.lst (us1++[.ref a0]))):=Tup.lst q1
     have q1':(upd H3 l1 (.lst (us1++[.ref a0]))) l1=some (.lst (us1++[.ref a0])):=a0d
     have q2':(upd H3 l1 (.lst (us1++[.ref a0]))) l2=some (.lst us2):=by rw[a0j n12.symm];exact q2
     have q3':(upd H3 l1 (.lst (us1++[.ref a0]))) lr=some (.lst rs):=by rw[a0j n1];exact q3
     have s3':Same H (upd H3 l1 (.lst (us1++[.ref a0]))):=a4b hl1 s3
     have P1':=(P1.snoc (v:=.ref a0) (p:=((hrow c r)[0]'(by rw[a4r];omega))) ⟨a0,rfl,g0⟩).tup t1
     have P2':=P2.tup t1
     have P3':=P3.tup t1
     have gL':=gL.tup t1
     clear q1 q2 q3 s3 P1 P2 P3 gL t1
     generalize upd H3 l1 (.lst (us1++[.ref a0]))=H4 at *
     refine⟨_,rfl,.inl ⟨rfl,_,SqL.of q2'⟩,?_⟩
     walk_at "rd"
     refine⟨lr,_,_,_,rfl,rfl,SqL.of q3',c1t rs vL wL (by omega),?_⟩
     refine⟨l2,_,_,rfl,rfl,q2',a0v (by omega),?_⟩
     have t2:Tup H4 (upd H4 l2 (.lst (us2++[vL]))):=Tup.lst q2'
     have c1:(upd H4 l2 (.lst (us2++[vL]))) l1=some (.lst (us1++[.ref a0])):=by rw[a0j n12];exact q1'
     have c2:(upd H4 l2 (.lst (us2++[vL]))) l2=some (.lst (us2++[vL])):=a0d
     have c3:(upd H4 l2 (.lst (us2++[vL]))) lr=some (.lst rs):=by rw[a0j n2];exact q3'
     have s5:Same H (upd H4 l2 (.lst (us2++[vL]))):=a4b hl2' s3'
     have R1:=P1'.tup t2
     have R2:=(P2'.snoc (v:=vL) (p:=((hrow c r)[c.length - 1 - r]?).getD (0,0)) gL').tup t2
     have R3:=P3'.tup t2
     clear q1' q2' q3' s3' P1' P2' P3' gL' t2
     generalize upd H4 l2 (.lst (us2++[vL]))=H5 at *
     walk_at "rd"
     refine⟨lr,_,rfl,SqL.of c3,fun l5 hl5=>?_⟩
     rw[cut_rest rs (by omega)]
     have s6:Same H5 (upd H5 l5 (.lst (rs.drop 1))):=Same.new hl5
     refine⟨_,_,rfl,⟨_,SqL.of (s6 _ _ c3)⟩,⟨_,SqL.of a0d⟩,comp_hv (s6 _ _ c3) (R3.same s6) a0d (by rw[a4r];omega) (fun H6 kk x y u v s7 hk=>?_) (fun D ys H6 hD s7 hd hP6=>?_)⟩
     · walk_at "rd"
       intro p hp
       exact hk _ _ (Same.new hp) ⟨p,rfl,a0d⟩
     have s8:Same H5 H6:=s6.trans s7
     have d1:=s8 _ _ c1
     have d2:=s8 _ _ c2
     have nD:H5 D=none:=s6.free hD
     refine⟨⟨D,ys,_,_,r+1,rfl,s5.trans s8,d1,d2,hd,(fun e=>by rw[e,c1] at nD;cases nD),(fun e=>by rw[e,c2] at nD;cases nD),hP6,by omega,?_,?_⟩,?_⟩
     · rw[b0h,e0];exact R1.same s8
     · rw[b0h];exact R2.same s8
     · show muR [_,_,_,some (.ref D)] H6<muR [_,_,_,some (.ref lr)] H3
       rw[muR_eq hd,mu0,hP6.len,a9a,a4r,hrl];omega
   · have hre:r=c.length:=by
       cases rs with
       | nil=>simp at hrl;omega
       | cons x xs=>simp at he
     subst hre
     walk_at "rd"
     refine⟨l2,_,rfl,SqL.of q2,fun l6 hl6=>?_⟩
     walk_at "rd"
     intro p hp
     have s6:=(Same.new (o:=.lst us2.reverse) hl6).trans (Same.new (o:=.tup [.ref l1,.ref l6]) hp)
     have P2r:=P2.rev
     rw[lh_rev] at P2r
     exact k p l1 l6 us1 us2.reverse _ (s3.trans s6) a0d hl1 (s3.free hl6) (s6 _ _ q1) (a2k hp a0d) (P1.same s6) (P2r.same s6)
 · rintro σ H1 Q1 Q2 hq ⟨v,h1,p,ys,h2,h3,h4⟩
   exact⟨v,h1,p,ys,h2,h3,hq _ _ h4⟩
theorem c0b(F:a0s K mg "halved" a4o ["curves"])(D_halves:a1e P w K mg base CX0 1 "halves" ["curve"] b5e):a1e P w K mg base CX0 2 "halved" ["curves"] (b5f K):=by
 refine a1i F b8v (fun vs H Q E h=>?_) (fun f cdv A outer s H vs Q E hr h=>?_)
 · obtain⟨a,ys,css,rfl,_⟩:=h;rfl
 obtain⟨a,ys,css,rfl,ha,hC,hn,hc,k⟩:=h
 have hu:=hr.units
 refine⟨_,(a0i (a0z (b6t (os:=["curve","half"]) (caps:=[]) ["curves"] (a0e a4o) (a2p K (pvI 0)) (fun _ _ _ _ _=>(a0k (i:=0) (show c3x (["curve","half"]:List Str) from by decide +kernel) rfl (Or.inl rfl))) (fun _ _ _ _ _=>(a7w K (a1c D_halves hr a1q (a0a (pvI 0) a0b)))) (fun _ _ _ _ _=>(a0k (i:=1) (show c3x (["curve","half"]:List Str) from by decide +kernel) rfl (Or.inl rfl))) (fun _ _ _ _ _=>(pvI 1)) (by decide +kernel)))),?_⟩
 walk_at "rd"
 refine⟨⟨_,SqL.of ha⟩,b4k ha hC hn (fun l us c o H2 R hm hl hP hR=>?_) (fun v o H2 kk hk=>?_) (fun D zs H2 hD s2 hd hCs=>?_)⟩
 · walk_at "rd"
   refine⟨l,us,c,rfl,hl,hP,hc c hm,fun p l1 l2 u1 u2 H3 s3 hp f1 f2 g1 g2 P1 P2=>?_⟩
   walk_at "rd"
   exact⟨⟨_,SqT.of hp⟩,hR p l1 l2 u1 u2 H3 s3 hp f1 f2 g1 g2 P1 P2⟩
 · walk_at "rd"
   exact hk
 · exact k D zs H2 s2 hD hd hCs
theorem a7a{C_Ground:Addr}(T_Ground:ClsK K mg "Ground" C_Ground)(N_Ground_room:a2c K C_Ground "room")(N_Ground_x_bottoms:a2c K C_Ground "x_bottoms")(N_Ground_y_bottoms:a2c K C_Ground "y_bottoms")(N_Ground_ones:a2c K C_Ground "ones")(N_Ground_others:a2c K C_Ground "others")(F:b1t K C_Ground "go_down" "Ground.go_down" a1v ["self"])(D_halved:a1e P w K mg base CX0 2 "halved" ["curves"] (b5f K)):b1s P w K mg base CX0 3 C_Ground "go_down" ["self"] (b8n K C_Ground):=by
 refine mth_ok F a6t (fun vs H Q E h=>?_) (fun f cdv A outer s H vs Q E hr h=>?_)
 · obtain⟨g,dx,lx,ly,lo,lt,R,yo,yt,As,Bs,rfl,_⟩:=h;rfl
 obtain⟨g,dx,lx,ly,lo,lt,R,yo,yt,As,Bs,rfl,hg,ho,hA,ht,hB,a1,a2,b1,b2,k⟩:=h
 have hu:=hr.units
 refine⟨_,(a0i (a4g (a0t (a0a (a1c D_halved hr a1q (a0a (show PEi _ _ (tFld K _ _) from (a4x (pvI 0))) a0b)) (a0a (a1c D_halved hr a1q (a0a (show PEi _ _ (tFld K _ _) from (a4x (pvI 0))) a0b)) a0b))) (a1t (n:=2) K rfl (a0m (a6x K (pvI 0)) (a0m (a6x K (pvI 0)) a1s))))),?_⟩
 walk_at "rd"
 refine⟨g,C_Ground,dx,_,_,rfl,hg,T_Ground.cl,N_Ground_ones,a7h R lx ly lo lt,?_⟩
 walk_at "rd"
 dsimp only[tNil]
 refine⟨lo,yo,As,rfl,ho,hA,a1,a2,fun l1 u1 H1 s1 h10 h1 hC1=>?_⟩
 walk_at "rd"
 refine⟨g,C_Ground,dx,_,_,rfl,s1 _ _ hg,T_Ground.cl,N_Ground_others,a5w R lx ly lo lt,?_⟩
 walk_at "rd"
 dsimp only[tNil]
 refine⟨lt,yt,Bs,rfl,s1 _ _ ht,hB.same s1,b1,b2,fun l2 u2 H2 s2 h20 h2 hC2=>?_⟩
 walk_at "rd"
 intro tq htq
 have s3:Same H2 (upd H2 tq (.tup [.ref l1,.ref l2])):=Same.new htq
 have g3:(upd H2 tq (.tup [.ref l1,.ref l2])) tq=some (.tup [.ref l1,.ref l2]):=a0d
 generalize upd H2 tq (.tup [.ref l1,.ref l2])=H3 at *
 have s03:=s1.trans (s2.trans s3)
 have hg3:=s03 _ _ hg
 refine⟨tq,_,rfl,SqT.of g3,rfl,_,_,rfl,_,rfl,g,C_Ground,dx,_,rfl,hg3,T_Ground.cl,N_Ground_ones,by rw[c0y];decide,_,_,rfl,_,rfl,g,C_Ground,dx,_,rfl,a0d,T_Ground.cl,N_Ground_others,by rw[b6a,c0y];decide,rfl,?_⟩
 rw[b3l,b6a,b7d]
 exact k l1 l2 u1 u2 H3 s03 h10 (s1.free h20) (s3 _ _ (s2 _ _ h1)) (hC1.same (s2.trans s3)) (s3 _ _ h2) (hC2.same s3)
theorem a9t(F:a0s K mg "pairs_below" a2f ["pairs"])(B:Blt mg):a1e P w K mg base CX0 1 "pairs_below" ["pairs"] (b8o K):=by
 refine a1i F a9q (fun vs H Q E h=>?_) (fun f cdv A outer s H vs Q E hr h=>?_)
 · obtain⟨a,us,pl,rfl,_⟩:=h;rfl
 obtain⟨a,us,pl,rfl,ha,hP,hnd,hn,hz,k⟩:=h
 have hu:=hr.units
 refine⟨_,(a0i (a0z (a0w (b7q K) (by rfl) B.sorted PyProof.Rows.boot_sorted (a0a (b6s (os:=["i","j","k","m"]) (caps:=[]) ["pairs"] (a0e a2f) (a2p K (pvI 0)) (fun _ _ _ _ _=>(a1t (n:=2) K rfl (a0m (a0k (i:=0) (show c3x (["i","j","k","m"]:List Str) from by decide +kernel) rfl (Or.inl rfl)) (a0m (a0k (i:=1) (show c3x (["i","j","k","m"]:List Str) from by decide +kernel) rfl (Or.inl rfl)) a1s)))) (fun _ _ _ _ _=>(a7w K (a0t (a0a a0c (a0a a0c a0b))))) (fun _ _ _ _ _=>(a0k (i:=2) (show c3x (["i","j","k","m"]:List Str) from by decide +kernel) rfl (Or.inl rfl))) (fun _ _ _ _ _=>(a7w K (a0t (a0a a0c (a0a a0c a0b))))) (fun _ _ _ _ _=>(a0k (i:=3) (show c3x (["i","j","k","m"]:List Str) from by decide +kernel) rfl (Or.inl rfl))) (fun _ _ _ _ _=>(a0t (a0a (a0g a2n (a0g a1g a0c (pvI 0)) (pvI 2)) (a0a (a0g a2n (a0g a1g a0c (pvI 1)) (pvI 3)) a0b)))) (by decide +kernel)) a0b)))),?_⟩
 walk_at "rd"
 refine⟨⟨_,SqL.of ha⟩,b7t ha hP hn (fun v p o1 o2 o3 o4 H2 R hp hv hR=>?_) (fun σ H2 R hR=>?_) (fun p x y H2 R hp hR=>?_) (fun D ys H2 hD s2 hd hY=>?_)⟩
 · obtain⟨b,rfl,hb⟩:=hv
   exact⟨b,_,rfl,SqT.of hb,rfl,_,_,rfl,_,_,rfl,rfl,hR⟩
 · walk_at "rd"
   intro t ht
   exact⟨t,rfl,⟨_,SqT.of a0d⟩,hR t ht⟩
 · obtain⟨z1,z2⟩:=hz p hp
   walk_at "rd"
   exact hR
 · walk_at "rd"
   refine⟨D,ys,below pl,rfl,SqL.of hd,hY,a6g hnd,by rw[a5e];omega,fun l vs qs hl hpm hst hV=>?_⟩
   exact k l vs qs _ (s2.trans (Same.new hl)) (s2.free hl) a0d (hV.same (Same.new hl)) hpm hst
theorem ok_along(F:a0s K mg "along" a6b ["places","way"]):a1e P w K mg base CX0 1 "along" ["places","way"] (b8r K):=by
 refine a1i F sc_along (fun vs H Q E h=>?_) (fun f cdv A outer s H vs Q E hr h=>?_)
 · obtain⟨a,b,ws,pl,w,rfl,_⟩:=h;rfl
 obtain⟨a,b,ws,pl,w,rfl,ha,hP,hw,zp,zw,hl,k⟩:=h
 have hu:=hr.units
 refine⟨_,(a0i (a0z (a3j (os:=["x","y"]) (caps:=[(1,"way")]) ["places","way"] (a0e a6b) (a2p K (pvI 0)) (fun _ _ _ _ _=>(a1t (n:=2) K rfl (a0m (a0k (i:=0) (show c3x (["x","y","way"]:List Str) from by decide +kernel) rfl (Or.inl rfl)) (a0m (a0k (i:=1) (show c3x (["x","y","way"]:List Str) from by decide +kernel) rfl (Or.inl rfl)) a1s)))) (fun _ _ _ _ _=>(a0g a2n (a0g a1g (pvI 0) (a0n (a1d K) (pvI 2) a0c (fun _ _=>rfl))) (a0g a1g (pvI 1) (a0n (a1d K) (pvI 2) a0c (fun _ _=>rfl))))) (by decide +kernel)))),?_⟩
 have z3:=zw.1
 have z4:=zw.2
 have hwl:=hP.len
 walk_at "rd"
 refine⟨⟨_,SqL.of ha⟩,comp2 (b9f (SqL.of ha) hP) (by omega) (fun i v _=>v=V.int (dt w ((pl[i]?).getD (0,0)))) (fun _ _ _ _ _ h=>h) (fun i H2 kk hi s2 hk=>?_) (fun E us H2 hE s2 hE2 hlu hr=>?_)⟩
 · have hw2:=SqT.same' hw s2
   have ep:pl[i]?=some (pl[i]'(by omega (config:={}))):=c2e _
   have zi:=zp _ (c4c (show i<pl.length by omega))
   rw[ep] at hk ⊢
   generalize pl[i]'(by omega (config:={}))=p at *
   have z1:=zi.1
   have z2:=zi.2
   walk_at "rd"
   refine hk _ _ (L2.Same.refl _) ?_
   show V.int (p.1*w.1+p.2*w.2)=V.int (dt w p)
   unfold dt
   rw[c5c p.1,c5c p.2]
 rw[ints_dt hlu hr] at hE2
 walk_at "rd"
 exact k E H2 s2 hE hE2
theorem a9s(F:a0s K mg "step_across" a2r ["ones","others","i","j"]):a1e P w K mg base CX0 1 "step_across" ["ones","others","i","j"] (b3n K):=by
 refine a1i F a9p (fun vs H Q E h=>?_) (fun f cdv A outer s H vs Q E hr h=>?_)
 · obtain⟨a,b,ws,us,pl,ql,i,j,p,q,rfl,_⟩:=h;rfl
 obtain⟨a,b,ws,us,pl,ql,i,j,p,q,rfl,ha,hP,hb,hQ,ei,ej,k⟩:=h
 have hu:=hr.units
 refine⟨_,(a0i (a0z (a0t (a0a (a0g a3b (a0n (a1d K) (a0n (a0r K) (pvI 1) (pvI 3) (fun _ _=>rfl)) a0c (fun _ _=>rfl)) (a0n (a1d K) (a0n (a0r K) (pvI 0) (pvI 2) (fun _ _=>rfl)) a0c (fun _ _=>rfl))) (a0a (a0g a3b (a0n (a1d K) (a0n (a0r K) (pvI 1) (pvI 3) (fun _ _=>rfl)) a0c (fun _ _=>rfl)) (a0n (a1d K) (a0n (a0r K) (pvI 0) (pvI 2) (fun _ _=>rfl)) a0c (fun _ _=>rfl))) (a0a (pvI 2) (a0a (pvI 3) a0b))))))),?_⟩
 obtain⟨ap,wp,gp⟩:=hP.at ei
 obtain⟨aq,wq,gq⟩:=hQ.at ej
 have xi:atI ws (i:Int)=some (.ref ap):=a4s (j:=i) rfl wp
 have xj:atI us (j:Int)=some (.ref aq):=a4s (j:=j) rfl wq
 walk_at "rd"
 intro c hc
 exact k c _ (Same.new hc) a0d
theorem ok_reach(F:a0s K mg "reach" a6v ["ones","others","way"])(B:Blt mg)(D_along:a1e P w K mg base CX0 1 "along" ["places","way"] (b8r K))(D_step_across:a1e P w K mg base CX0 1 "step_across" ["ones","others","i","j"] (b3n K)):a1e P w K mg base CX0 2 "reach" ["ones","others","way"] (b8m K):=by
 refine a1i F b0x (fun vs H Q E h=>?_) (fun f cdv A outer s H vs Q E hr h=>?_)
 · obtain⟨a,b,d,ws,us,pl,ql,w,rfl,_⟩:=h;rfl
 obtain⟨a,b,d,ws,us,pl,ql,w,rfl,ha,hP,hb,hQ,hd,zp,zq,zw,p1,q1,pM,qM,k⟩:=h
 have hu:=hr.units
 refine⟨_,(a0f (a6d (i:=3) (j:=4) rfl b0x.nd rfl rfl (by decide) rfl rfl (a0a (a1c D_along hr a1q (a0a (pvI 0) (a0a (pvI 2) a0b))) (a0a (a1c D_along hr a1q (a0a (pvI 1) (a0a (pvI 2) a0b))) a0b)) rfl) (a0f (a6d (i:=5) (j:=6) rfl b0x.nd rfl rfl (by decide) rfl rfl (a0a (a0w (b2y rfl) (by rfl) B.max PyProof.Rows.boot_max (a0a (pvI 3) a0b)) (a0a (a0w (b2x rfl) (by rfl) B.min PyProof.Rows.boot_min (a0a (pvI 4) a0b)) a0b)) rfl) (a0i (a0z (a0t (a0a (pvI 5) (a0a (pvI 6) (a0a (a1c D_step_across hr a1q (a0a (pvI 0) (a0a (pvI 1) (a0a (show PEi _ _ (tBM K _ _ _ _) from (a5u c4e PySem.F.slot_list_index PySem.F.type_list_index b5t (pvI 3) (a0a (pvI 5) a0b))) (a0a (show PEi _ _ (tBM K _ _ _ _) from (a5u c4e PySem.F.slot_list_index PySem.F.type_list_index b5t (pvI 4) (a0a (pvI 6) a0b))) a0b))))) a0b)))))))),?_⟩
 walk_at "rd"
 refine⟨a,d,ws,pl,w,rfl,ha,hP,hd,zp,zw,pM,fun l1 H1 s1 h10 h1=>?_⟩
 walk_at "rd"
 refine⟨b,d,us,ql,w,rfl,s1 _ _ hb,hQ.same s1,SqT.same' hd s1,zq,zw,qM,fun l2 H2 s2 h20 h2=>?_⟩
 replace h1:=s2 _ _ h1
 have s12:=s1.trans s2
 replace ha:=s12 _ _ ha
 replace hb:=s12 _ _ hb
 replace hP:=hP.same s12
 replace hQ:=hQ.same s12
 refine⟨_,_,rfl,?_⟩
 walk_at "rd"
 refine⟨l1,pl.map (dt w),rfl,SqL.of h1,by rw[c2h];omega,fun M hM hmax=>?_⟩
 walk_at "rd"
 refine⟨l2,ql.map (dt w),rfl,SqL.of h2,by rw[c2h];omega,fun N hN hmin=>?_⟩
 refine⟨_,_,rfl,?_⟩
 obtain⟨i,ei,ni⟩:=b6e hM
 obtain⟨j,ej,nj⟩:=b6e hN
 have ei':=ei
 have ej':=ej
 rw[c2p] at ei' ej'
 obtain⟨p,ep,rfl⟩:=Option.map_eq_some_iff.mp ei'
 obtain⟨q,eq,rfl⟩:=Option.map_eq_some_iff.mp ej'
 walk_at "rd"
 refine⟨.inl ⟨rfl,_,SqL.of h1⟩,?_⟩
 walk_at "rd"
 refine⟨ni,?_⟩
 refine⟨_,rfl,.inl ⟨rfl,_,SqL.of h2⟩,?_⟩
 walk_at "rd"
 refine⟨nj,?_⟩
 refine⟨a,b,ws,us,pl,ql,i,j,p,q,rfl,ha,hP,hb,hQ,ep,eq,fun f0 H3 s3 hf=>?_⟩
 walk_at "rd"
 intro c hc
 exact k c f0 i j p q _ ((s12.trans s3).trans (Same.new hc)) a0d ((Same.new hc) _ _ hf) ep eq (fun p' hp'=>hmax _ (c3w.mpr ⟨p',hp',rfl⟩)) (fun q' hq'=>hmin _ (c3w.mpr ⟨q',hq',rfl⟩))
theorem a8s(F:a0s K mg "turn_between" a2j ["one","other"]):a1e P w K mg base CX0 1 "turn_between" ["one","other"] (b8k K):=by
 refine a1i F a8m (fun vs H Q E h=>?_) (fun f cdv A outer s H vs Q E hr h=>?_)
 · obtain⟨a,b,p,q,i,j,m,n,rfl,_⟩:=h;rfl
 obtain⟨a,b,p,q,i,j,m,n,rfl,ha,hb,zp,zq,k⟩:=h
 have hu:=hr.units
 refine⟨_,(a0i (a0z (a0g a3b (a0g a1g (a0n (a1d K) (pvI 0) a0c (fun _ _=>rfl)) (a0n (a1d K) (pvI 1) a0c (fun _ _=>rfl))) (a0g a1g (a0n (a1d K) (pvI 0) a0c (fun _ _=>rfl)) (a0n (a1d K) (pvI 1) a0c (fun _ _=>rfl)))))),?_⟩
 have z1:=zp.1
 have z2:=zp.2
 have z3:=zq.1
 have z4:=zq.2
 walk_at "rd"
 exact k
theorem b4c(F:a0s K mg "way_amid" a3n ["right","left"]):a1e P w K mg base CX0 1 "way_amid" ["right","left"] (spAmid K):=by
 refine a1i F b3q (fun vs H Q E h=>?_) (fun f cdv A outer s H vs Q E hr h=>?_)
 · obtain⟨x,y,r,l,rfl,_⟩:=h;rfl
 obtain⟨_,_,r,l,rfl,⟨ar,rfl,hR0⟩,⟨al,rfl,hL0⟩,k⟩:=h
 have hu:=hr.units
 refine⟨_,(a0f (a3i (a1k (a6y K hu) (pvI 0) (pvI 1) (a2i _)) (a0i (a0z (a3u (b3p K) (pvI 0) a4p (a4c a0c)))) a2m) (a0i (a0z (a0t (a0a (a0g a3b (a0n (a1d K) (pvI 1) a0c (fun _ _=>rfl)) (a0n (a1d K) (pvI 0) a0c (fun _ _=>rfl))) (a0a (a0g a3b (a0n (a1d K) (pvI 0) a0c (fun _ _=>rfl)) (a0n (a1d K) (pvI 1) a0c (fun _ _=>rfl))) a0b)))))),?_⟩
 walk_at "rd"
 refine⟨a9e r,a9e l,dnSt ⟨ar,rfl,hR0⟩,dnSt ⟨al,rfl,hL0⟩,a8b _ 6,a8b _ 6,fun b0 hb0=>?_⟩
 refine⟨_,rfl,?_⟩
 by_cases e:r=l
 · obtain rfl:=hb0.mpr (a6r.mpr e)
   refine iteT ?_
   walk_at "rd"
   refine⟨ar,_,rfl,SqT.of hR0,show ¬ (HT.sIx 4 0 none=0∧HT.sIx 4 4 (some 2)=4) by decide,fun c hc=>?_⟩
   have e2:wayA r l=r.1:=if_pos e
   exact k c _ (Same.new hc) (by rw[a0d,e2];rfl)
 · have hf:b0=false:=by
     cases b0 with
     | false=>rfl
     | true=>exact absurd (a6r.mp (hb0.mp rfl)) e
   subst hf
   refine iteF ?_
   have e2:wayA r l=amid r.1 l.1:=if_neg e
   walk_at "rd"
   intro c hc
   exact k c _ (Same.new hc) (by rw[a0d,e2];rfl)
theorem b9y(F:a0s K mg "parted" a5l ["ones","others"]){A_PLAIN_WAYS B1_PLAIN_WAYS B2_PLAIN_WAYS B3_PLAIN_WAYS B4_PLAIN_WAYS:Addr}{t_MOST_PAIRS:Tok}(G:Cst K mg A_PLAIN_WAYS B1_PLAIN_WAYS B2_PLAIN_WAYS B3_PLAIN_WAYS B4_PLAIN_WAYS t_MOST_PAIRS)(D_step_across:a1e P w K mg base CX0 1 "step_across" ["ones","others","i","j"] (b3n K))(D_reach:a1e P w K mg base CX0 2 "reach" ["ones","others","way"] (b8m K))(D_turn_between:a1e P w K mg base CX0 1 "turn_between" ["one","other"] (b8k K))(D_way_amid:a1e P w K mg base CX0 1 "way_amid" ["right","left"] (spAmid K)):a1e P w K mg base CX0 3 "parted" ["ones","others"] (b5c K):=by
 refine a1i F a1z (fun vs H Q E h=>?_) (fun f cdv A outer s H vs Q E hr h=>?_)
 · obtain⟨a,b,ws,us,pl,ql,n,rfl,_⟩:=h;rfl
 obtain⟨a,b,ws,us,pl,ql,n,rfl,ha,hP,hb,hQ,zp0,zq0,hn1,hn,p1,q1,pM,qM,k1,k2⟩:=h
 have hu:=hr.units
 refine⟨_,(a0f (a4v PassesOwn.never rfl (a7w K (a3h (v:=.ref A_PLAIN_WAYS) rfl G.PLAIN_WAYS rfl)) (a0k (i:=2) a1z.nd rfl (Or.inl rfl)) (a0f (a4g (a1c D_reach hr a1q (a0a (pvI 0) (a0a (pvI 1) (a0a (pvI 2) a0b)))) (a1t (n:=3) K rfl (a0m (a0k (i:=3) a1z.nd rfl (Or.inl rfl)) (a0m (a0k (i:=4) a1z.nd rfl (Or.inl rfl)) (a0m (a0k (i:=5) a1z.nd rfl (Or.inl rfl)) a1s))))) (a0i (a3i (a1k op_lt (pvI 3) (pvI 4) (a2i _)) (a0i (a0z (a0t (a0a (a0g (a6m K) (pvI 2) (a0t (a0a (a0g a2n (pvI 3) (pvI 4)) a0b))) (a0a (a1m a0b) a0b))))) a2m)))) (a0f (ps_asg2I (a1c D_step_across hr a1q (a0a (pvI 0) (a0a (pvI 1) (a0a a0c (a0a a0c a0b))))) (a0k (i:=6) a1z.nd rfl (Or.inl rfl)) (a0k (i:=7) a1z.nd rfl (Or.inl rfl))) (a0f (a3i (a1k (a6y K hu) (a3u (b3p K) (pvI 6) a4p (a4c a0c)) (a0t (a0a a0c (a0a a0c a0b))) (a2i _)) (a0i (a0z (a0t (a0a b3z (a0a (a1m (a0a (pvI 6) a0b)) a0b))))) a2m) (a0i (a6k PassesOwn.never (b3w b2i) (a0f (a0x (i:=2) a1z.nd rfl (Or.inl rfl) (a1c D_way_amid hr a1q (a0a (pvI 6) (a0a (pvI 7) a0b)))) (a0f (a4g (a1c D_reach hr a1q (a0a (pvI 0) (a0a (pvI 1) (a0a (pvI 2) a0b)))) (a1t (n:=3) K rfl (a0m (a0k (i:=3) a1z.nd rfl (Or.inl rfl)) (a0m (a0k (i:=4) a1z.nd rfl (Or.inl rfl)) (a0m (a0k (i:=5) a1z.nd rfl (Or.inl rfl)) a1s))))) (a0f (a3i (a1k op_lt (pvI 3) (pvI 4) (a2i _)) (a0i (a0z (a0t (a0a (a0g (a6m K) (pvI 2) (a0t (a0a (a0g a2n (pvI 3) (pvI 4)) a0b))) (a0a (a1m a0b) a0b))))) a2m) (a0i (a3i (a1k b6u (a1c D_turn_between hr a1q (a0a (pvI 6) (a0a (pvI 5) a0b))) a0c (a2i _)) (a0i (a0x (i:=7) a1z.nd rfl (Or.inl rfl) (pvI 5))) (a0i (a3i (a1k b6u (a1c D_turn_between hr a1q (a0a (pvI 5) (a0a (pvI 7) a0b))) a0c (a2i _)) (a0i (a0x (i:=6) a1z.nd rfl (Or.inl rfl) (pvI 5))) (a0i (a0z (a0t (a0a b3z (a0a (b9l (a1k (a6y K hu) (pvI 6) (pvI 7) (a2i _)) (a1m (a0a (pvI 6) (a0a (pvI 5) a0b))) (a1m (a0a (pvI 6) (a0a (pvI 7) (a0a (pvI 5) a0b))))) a0b))))))))))))))))),?_⟩
 have zp:=zp0.mono hn
 have zq:=zq0.mono hn
 walk_at "rd"
 refine⟨⟨_,G.pPLAIN_WAYS H⟩,for_tup (xs:=[.ref B1_PLAIN_WAYS,.ref B2_PLAIN_WAYS,.ref B3_PLAIN_WAYS,.ref B4_PLAIN_WAYS]) (fun i σ H'=>∃ (y2 y3 y4 y5:Option V),σ=[some (.ref a),some (.ref b),y2,y3,y4,y5,none,none]∧Same H H') ⟨none,none,none,none,rfl,L2.Same.refl _⟩ (fun i σ H' _ _=>G.pPLAIN_WAYS H') ?_ ?_⟩
 · rintro i v σ H2 hv ⟨y2,y3,y4,y5,rfl,s2⟩
   obtain⟨B0,w,rfl,hw,zw⟩ : ∃ (B0:Addr) (w:Pl),v=.ref B0∧(∀ H,SqT K H B0 [.int w.1,.int w.2])∧SzW (n+2) w:=by
     have o:Sz (n+2) 1:=Sz.mono Sz.one (by omega)
     have z:Sz (n+2) 0:=Sz.mono Sz.zero (by omega)
     match i,hv with
     | 0,hv=>cases hv;exact⟨_,(1,0),rfl,fun H=>(G.wPLAIN_WAYS H).1,o,z⟩
     | 1,hv=>cases hv;exact⟨_,(-1,0),rfl,fun H=>(G.wPLAIN_WAYS H).2.1,o.neg,z⟩
     | 2,hv=>cases hv;exact⟨_,(0,1),rfl,fun H=>(G.wPLAIN_WAYS H).2.2.1,z,o⟩
     | 3,hv=>cases hv;exact⟨_,(0,-1),rfl,fun H=>(G.wPLAIN_WAYS H).2.2.2,z,o.neg⟩
     | i+4,hv=>exact absurd (c2q.mp hv).1 (by simp)
   walk_at "rd"
   refine⟨a,b,B0,ws,us,pl,ql,w,rfl,s2 _ _ ha,hP.same s2,s2 _ _ hb,hQ.same s2,hw _,zp,zq,⟨zw.1.mono (by omega),zw.2.mono (by omega)⟩,p1,q1,pM,qM,fun c f0 i1 j1 p q H3 s3 hc hf ei ej hmax hmin=>?_⟩
   refine⟨c,_,rfl,SqT.of hc,rfl,_,_,rfl,_,_,rfl,_,_,rfl,rfl,?_⟩
   walk_at "rd"
   by_cases h:dt w p<dt w q
   · refine ifT (by simpa using h) ?_
     walk_at "rd"
     intro g hg
     have wg:=Same.new (o:=.tup [.int (dt w p+dt w q)]) hg
     refine⟨B0,g,_,_,rfl,rfl,hw _,SqT.of a0d,by simp,by show 3≤sizeLine;decide,fun z=>(nomatch z),fun _ d hd=>?_⟩
     have wd:=Same.new (o:=.tup ([.int w.1,.int w.2]++[.int (dt w p+dt w q)])) hd
     walk_at "rd"
     intro e he
     have we:=Same.new (o:=.lst []) he
     walk_at "rd"
     intro c2 hc2
     have wc:=Same.new (o:=.tup [.ref d,.ref e]) hc2
     exact k1 c2 d e w p q _ (((((s2.trans s3).trans wg).trans wd).trans we).trans wc) a0d (wc _ _ (we _ _ a0d)) (wc _ _ a0d) zw (c2m ei) (c2m ej) h hmax hmin
   · refine ifF (by simpa using h) ?_
     exact⟨_,_,_,_,rfl,s2.trans s3⟩
 rintro σ H2 ⟨y2,y3,y4,y5,rfl,s2⟩
 walk_at "rd"
 refine⟨a,b,ws,us,pl,ql,0,0,_,_,rfl,s2 _ _ ha,hP.same s2,s2 _ _ hb,hQ.same s2,c2e (show 0<pl.length by omega),c2e (show 0<ql.length by omega),fun c H3 s3 hc=>?_⟩
 have s23:=s2.trans s3
 obtain⟨r0,hr0⟩ : ∃ r0:Stp,r0=((((ql[0]'(by omega (config:={}))).1 - (pl[0]'(by omega (config:={}))).1,(ql[0]'(by omega (config:={}))).2 - (pl[0]'(by omega (config:={}))).2):Pl),(((0:Nat):Int),((0:Nat):Int))):=⟨_,rfl⟩
 have hc0:H3 c=some (.tup [.int r0.1.1,.int r0.1.2,.int r0.2.1,.int r0.2.2]):=by rw[hr0];exact hc
 have ac0:a5y pl ql r0:=⟨0,0,_,_,c2e (show 0<pl.length by omega),c2e (show 0<ql.length by omega),hr0⟩
 clear hc hr0
 walk_at "rd"
 refine⟨c,_,rfl,SqT.of hc0,show ¬ (HT.sIx 4 0 none=0∧HT.sIx 4 4 (some 2)=4) by decide,fun g hg=>?_⟩
 have wg:Same H3 (upd H3 g (.tup (cutV [.int r0.1.1,.int r0.1.2,.int r0.2.1,.int r0.2.2] none (some 2)))):=Same.new hg
 have hg2:(upd H3 g (.tup (cutV [.int r0.1.1,.int r0.1.2,.int r0.2.1,.int r0.2.2] none (some 2)))) g=some (.tup [.int r0.1.1,.int r0.1.2]):=a0d
 generalize upd H3 g (.tup (cutV [.int r0.1.1,.int r0.1.2,.int r0.2.1,.int r0.2.2] none (some 2)))=H4 at *
 walk_at "rd"
 intro g2 hn2
 have wg2:Same H4 (upd H4 g2 (.tup [.int 0,.int 0])):=Same.new hn2
 have hz2:(upd H4 g2 (.tup [.int 0,.int 0])) g2=some (.tup [.int 0,.int 0]):=a0d
 generalize upd H4 g2 (.tup [.int 0,.int 0])=H5 at *
 refine⟨.tuple [.int r0.1.1,.int r0.1.2],.tuple [.int 0,.int 0],dnPl2 (SqT.of (wg2 _ _ hg2)),dnPl2 (SqT.of hz2),datPl2 _ _ 6,datPl2 _ _ 6,fun b0 hb0=>?_⟩
 have hc5:=wg2 _ _ (wg _ _ hc0)
 have s5:Same H H5:=(s23.trans wg).trans wg2
 clear hc0 hg2 hz2 wg wg2 s23 s2 s3 hn2 hg
 refine⟨_,rfl,?_⟩
 by_cases e0:r0.1=(0,0)
 · have hb1:b0=true:=hb0.mpr (by rw[e0])
   subst hb1
   refine iteT ?_
   walk_at "rd"
   intro e he
   have we:=Same.new (o:=.lst [.ref c]) he
   walk_at "rd"
   intro c2 hc2
   have wc:=Same.new (o:=.tup [.non,.ref e]) hc2
   refine k2 c2 e [.ref c] [r0] _ ((s5.trans we).trans wc) a0d (wc _ _ a0d) ⟨rfl,fun i v s e1 e2=>?_⟩ (fun s hs=>by cases c3h.mp hs;exact ac0) (.inl ⟨r0,rfl,e0⟩)
   match i,e1,e2 with
   | 0,e1,e2=>cases e1;cases e2;exact⟨c,rfl,wc _ _ (we _ _ hc5)⟩
   | i+1,e1,e2=>simp at e1
 have hb1:b0=false:=by
   cases b0 with
   | false=>rfl
   | true=>
     have:=hb0.mp rfl
     simp at this
     exact absurd (Prod.ext this.1 this.2) e0
 subst hb1
 refine iteF ?_
 walk_at "rd"
 refine while_gh (fun m σ H'=>∃ (ar al:Addr) (r l:Stp) (y2 y3 y4 y5:Option V),σ=[some (.ref a),some (.ref b),y2,y3,y4,y5,some (.ref ar),some (.ref al)]∧Same H H'∧H' ar=some (.tup [.int r.1.1,.int r.1.2,.int r.2.1,.int r.2.2])∧H' al=some (.tup [.int l.1.1,.int l.1.2,.int l.2.1,.int l.2.2])∧a5y pl ql r∧a5y pl ql l∧RLok r l∧m=mS (allSt pl ql) r l) ⟨c,c,r0,r0,_,_,_,_,rfl,s5,hc5,hc5,ac0,ac0,.inl ⟨rfl,e0⟩,rfl⟩ ?_ ?_
 · rintro m σ H6 ⟨ar,al,r,l,y2,y3,y4,y5,rfl,s6,hr6,hl6,acr,acl,hrl,rfl⟩
   have zr:=acr.sz zp0 zq0
   have zl:=acl.sz zp0 zq0
   have zw:=wayA_sz zr zl
   refine⟨_,rfl,?_⟩
   refine iteT ?_
   walk_at "rd"
   refine⟨_,_,r,l,rfl,⟨ar,rfl,hr6⟩,⟨al,rfl,hl6⟩,fun w0 H7 s7 hw7=>?_⟩
   have s67:=s6.trans s7
   walk_at "rd"
   refine⟨a,b,w0,ws,us,pl,ql,wayA r l,rfl,s67 _ _ ha,hP.same s67,s67 _ _ hb,hQ.same s67,SqT.of hw7,zp,zq,⟨zw.1.mono (by omega),zw.2.mono (by omega)⟩,p1,q1,pM,qM,fun c8 f0 i1 j1 p q H8 s8 hc8 hf ei ej hmax hmin=>?_⟩
   have hw8:=s8 _ _ hw7
   have hr8:=s8 _ _ (s7 _ _ hr6)
   have hl8:=s8 _ _ (s7 _ _ hl6)
   have s68:=s67.trans s8
   clear hr6 hl6 hw7 s6 s67 s7 s8
   refine⟨c8,_,rfl,SqT.of hc8,rfl,_,_,rfl,_,_,rfl,_,_,rfl,rfl,?_⟩
   obtain⟨f,hfe⟩ : ∃ f:Stp,f=((q.1 - p.1,q.2 - p.2),((i1:Int),(j1:Int))):=⟨_,rfl⟩
   have acf:a5y pl ql f:=⟨i1,j1,p,q,ei,ej,hfe⟩
   have hf8:H8 f0=some (.tup [.int f.1.1,.int f.1.2,.int f.2.1,.int f.2.2]):=by rw[hfe];exact hf
   have hdt:dt (wayA r l) f.1=dt (wayA r l) q - dt (wayA r l) p:=by rw[hfe];exact dt_sub _ _ _
   have zf:=acf.sz zp0 zq0
   clear hf hfe
   walk_at "rd"
   by_cases h:dt (wayA r l) p<dt (wayA r l) q
   · refine ifT (by simpa using h) ?_
     walk_at "rd"
     intro g hg
     have wg:=Same.new (o:=.tup [.int (dt (wayA r l) p+dt (wayA r l) q)]) hg
     refine⟨w0,g,_,_,rfl,rfl,SqT.of (wg _ _ hw8),SqT.of a0d,by simp,by show 3≤sizeLine;decide,fun z=>(nomatch z),fun _ d hd=>?_⟩
     have wd:=Same.new (o:=.tup ([.int (wayA r l).1,.int (wayA r l).2]++[.int (dt (wayA r l) p+dt (wayA r l) q)])) hd
     walk_at "rd"
     intro e he
     have we:=Same.new (o:=.lst []) he
     walk_at "rd"
     intro c2 hc2
     have wc:=Same.new (o:=.tup [.ref d,.ref e]) hc2
     exact k1 c2 d e (wayA r l) p q _ ((((s68.trans wg).trans wd).trans we).trans wc) a0d (wc _ _ (we _ _ a0d)) (wc _ _ a0d) zw (c2m ei) (c2m ej) h hmax hmin
   refine ifF (by simpa using h) ?_
   have hw0:dt (wayA r l) f.1≤0:=by omega
   walk_at "rd"
   refine⟨ar,f0,r.1,f.1,_,_,_,_,rfl,hr8,hf8,⟨zr.1.mono (by omega),zr.2.mono (by omega)⟩,⟨zf.1.mono (by omega),zf.2.mono (by omega)⟩,?_⟩
   walk_at "rd"
   by_cases h1:0<cr r.1 f.1
   · refine ifT (by simpa using h1) ?_
     walk_at "rd"
     obtain⟨z1,z2⟩:=b8j acf.mem hrl hw0 h1
     exact⟨_,z2,ar,f0,r,f,_,_,_,_,rfl,s68,hr8,hf8,acr,acf,z1,rfl⟩
   refine ifF (by simpa using h1) ?_
   walk_at "rd"
   refine⟨f0,al,f.1,l.1,_,_,_,_,rfl,hf8,hl8,⟨zf.1.mono (by omega),zf.2.mono (by omega)⟩,⟨zl.1.mono (by omega),zl.2.mono (by omega)⟩,?_⟩
   walk_at "rd"
   by_cases h2:0<cr f.1 l.1
   · refine ifT (by simpa using h2) ?_
     walk_at "rd"
     obtain⟨z1,z2⟩:=b6o acf.mem hrl hw0 h2
     exact⟨_,z2,f0,al,f,l,_,_,_,_,rfl,s68,hf8,hl8,acf,acl,z1,rfl⟩
   refine ifF (by simpa using h2) ?_
   walk_at "rd"
   refine⟨a9e r,a9e l,dnSt ⟨ar,rfl,hr8⟩,dnSt ⟨al,rfl,hl8⟩,a8b _ 6,a8b _ 6,fun b0 hb0=>?_⟩
   refine⟨_,rfl,?_⟩
   by_cases e:r=l
   · obtain rfl:=hb0.mpr (a6r.mpr e)
     subst e
     refine iteT ?_
     walk_at "rd"
     intro e1 he
     have we:=Same.new (o:=.lst [.ref ar,.ref f0]) he
     walk_at "rd"
     intro c2 hc2
     have wc:=Same.new (o:=.tup [.non,.ref e1]) hc2
     refine k2 c2 e1 [.ref ar,.ref f0] [r,f] _ ((s68.trans we).trans wc) a0d (wc _ _ a0d) ⟨rfl,fun i v s e3 e4=>?_⟩ (fun s hs=>by simp at hs;rcases hs with rfl | rfl<;>assumption) (end_two hrl hw0 h1 h2)
     match i,e3,e4 with
     | 0,e3,e4=>cases e3;cases e4;exact⟨ar,rfl,wc _ _ (we _ _ hr8)⟩
     | 1,e3,e4=>cases e3;cases e4;exact⟨f0,rfl,wc _ _ (we _ _ hf8)⟩
     | i+2,e3,e4=>simp at e3
   · have hf9:b0=false:=by
       cases b0 with
       | false=>rfl
       | true=>exact absurd (a6r.mp (hb0.mp rfl)) e
     subst hf9
     refine iteF ?_
     walk_at "rd"
     intro e1 he
     have we:=Same.new (o:=.lst [.ref ar,.ref al,.ref f0]) he
     walk_at "rd"
     intro c2 hc2
     have wc:=Same.new (o:=.tup [.non,.ref e1]) hc2
     refine k2 c2 e1 [.ref ar,.ref al,.ref f0] [r,l,f] _ ((s68.trans we).trans wc) a0d (wc _ _ a0d) ⟨rfl,fun i v s e3 e4=>?_⟩ (fun s hs=>by simp at hs;rcases hs with rfl | rfl | rfl<;>assumption) (c1e hrl e h1 h2)
     match i,e3,e4 with
     | 0,e3,e4=>cases e3;cases e4;exact⟨ar,rfl,wc _ _ (we _ _ hr8)⟩
     | 1,e3,e4=>cases e3;cases e4;exact⟨al,rfl,wc _ _ (we _ _ hl8)⟩
     | 2,e3,e4=>cases e3;cases e4;exact⟨f0,rfl,wc _ _ (we _ _ hf8)⟩
     | i+3,e3,e4=>simp at e3
 · rintro σ H1 Q1 Q2 hq ⟨b1,h1,h2⟩
   exact⟨b1,h1,hq _ _ h2⟩
theorem ok_share(F:a0s K mg "share" a6u ["top","bottom"])(D_greatest_common:a1e P w K mg base CX0 1 "greatest_common" ["one","other"] spGcd):a1e P w K mg base CX0 2 "share" ["top","bottom"] b8l:=by
 refine a1i F b0w (fun vs H Q E h=>?_) (fun f cdv A outer s H vs Q E hr h=>?_)
 · obtain⟨a,b,rfl,_⟩:=h;rfl
 obtain⟨t,b,rfl,hb,hz,k⟩:=h
 have hu:=hr.units
 refine⟨_,(a0f (a3i (a1k op_eq (pvI 1) a0c (a2i _)) (a0i b9d) a2m) (a0f (a0x (i:=2) b0w.nd rfl (Or.inl rfl) (a1c D_greatest_common hr a1q (a0a (pvI 0) (a0a (pvI 1) a0b)))) (a0f (a3i (a1k op_lt (pvI 1) a0c (a2i _)) (a0i (a0x (i:=2) b0w.nd rfl (Or.inl rfl) (b9j b7y (pvI 2)))) a2m) (a0i (a0z (a0t (a0a (a0g a4q (pvI 0) (pvI 2)) (a0a (a0g a4q (pvI 1) (pvI 2)) a0b)))))))),?_⟩
 have g0:(c3s t b:Int)≠0:=b6c t b hb
 have gz:Sz 9000 (c3s t b:Int):=hz.le (by
   rw[Int.natAbs_natCast]
   exact Nat.le_of_dvd (by omega) (Int.gcd_dvd_natAbs_right t b))
 refine⟨_,rfl,rfl,_,rfl,?_⟩
 refine ifF (by simp[hb]) ?_
 refine⟨_,rfl,_,rfl,t,b,rfl,?_⟩
 refine⟨_,rfl,_,_,rfl,rfl,_,rfl,b1f (fun hn=>?_) (fun hn=>?_)⟩
 · refine⟨_,rfl,_,rfl,?_⟩
   refine⟨_,rfl,_,rfl,_,_,rfl,rfl,⟨by omega,gz.neg⟩,_,rfl,_,rfl,_,_,rfl,rfl,⟨by omega,gz.neg⟩,(by show 2≤sizeLine;decide),fun p hp=>?_⟩
   have e:=b8t t b hn
   refine k _ _ (Same.new hp) ⟨p,rfl,?_⟩
   rw[a0d,← e.1,← e.2]
 · refine⟨_,rfl,_,rfl,_,_,rfl,rfl,⟨g0,gz⟩,_,rfl,_,rfl,_,_,rfl,rfl,⟨g0,gz⟩,(by show 2≤sizeLine;decide),fun p hp=>?_⟩
   have e:=a8k t b (by omega)
   refine k _ _ (Same.new hp) ⟨p,rfl,?_⟩
   rw[a0d,← e.1,← e.2]
theorem b2l(F:a0s K mg "told_line" a3c ["line","x_bottom","y_bottom","room"])(D_share:a1e P w K mg base CX0 2 "share" ["top","bottom"] b8l):a1e P w K mg base CX0 3 "told_line" ["line","x_bottom","y_bottom","room"] b0b:=by
 refine a1i F a3w (fun vs H Q E h=>?_) (fun f cdv A outer s H vs Q E hr h=>?_)
 · obtain⟨d,w,c,bx,bY,rm,rfl,_⟩:=h;rfl
 obtain⟨d,w,c,bx,bY,rm,rfl,hd,zw,zx,zy,zr,r0,k⟩:=h
 have hu:=hr.units
 refine⟨_,(a0f (a4g (pvI 0) (a1t (n:=3) K rfl (a0m (a0k (i:=4) a3w.nd rfl (Or.inl rfl)) (a0m (a0k (i:=5) a3w.nd rfl (Or.inl rfl)) (a0m (a0k (i:=6) a3w.nd rfl (Or.inl rfl)) a1s))))) (a0i (a0z (a0t (a0a (a0t (a0a (a0g a1g (pvI 4) (pvI 1)) (a0a a0c a0b))) (a0a (a0t (a0a (a0g a1g (pvI 5) (pvI 2)) (a0a a0c a0b))) (a0a (a1c D_share hr a1q (a0a (pvI 6) (a0a (a0g a1g a0c (pvI 3)) a0b))) a0b))))))),?_⟩
 have z1:=zw.1
 have z2:=zw.2
 walk_at "rd"
 refine⟨d,_,rfl,SqT.of hd,rfl,_,_,rfl,_,_,rfl,_,_,rfl,rfl,?_⟩
 walk_at "rd"
 intro g1 hg1
 have w1:=Same.new (o:=.tup [.int (w.1*bx),.int 1]) hg1
 walk_at "rd"
 intro g2 hg2
 have w2:=Same.new (o:=.tup [.int (w.2*bY),.int 1]) hg2
 walk_at "rd"
 refine⟨c,2*rm,rfl,by omega,(Sz.mul (n:=2) (m:=8000) ⟨by decide⟩ zr).mono (by decide),fun v3 H3 s3 hv3=>?_⟩
 walk_at "rd"
 intro t ht
 have wt:=Same.new (o:=.tup [.ref g1,.ref g2,v3]) ht
 refine k t _ _ _ _ (((w1.trans w2).trans s3).trans wt) a0d ⟨g1,rfl,?_⟩ ⟨g2,rfl,?_⟩ (hv3.same wt)
 · rw[Rat.num_intCast,Rat.den_intCast];exact wt _ _ (s3 _ _ (w2 _ _ a0d))
 · rw[Rat.num_intCast,Rat.den_intCast];exact wt _ _ (s3 _ _ a0d)
theorem b9x{C_Ground:Addr}(T_Ground:ClsK K mg "Ground" C_Ground)(N_Ground_room:a2c K C_Ground "room")(N_Ground_x_bottoms:a2c K C_Ground "x_bottoms")(N_Ground_y_bottoms:a2c K C_Ground "y_bottoms")(N_Ground_ones:a2c K C_Ground "ones")(N_Ground_others:a2c K C_Ground "others")(F:a0s K mg "sifted" a5k ["ground","pairs"])(B:Blt mg){C_SeatError C_TooMany C_NoShare C_NoLower C_NoMap C_NoJoin C_NoPlace C_NoText C_NoName:Addr}(X:Exc K mg C_SeatError C_TooMany C_NoShare C_NoLower C_NoMap C_NoJoin C_NoPlace C_NoText C_NoName){A_PLAIN_WAYS B1_PLAIN_WAYS B2_PLAIN_WAYS B3_PLAIN_WAYS B4_PLAIN_WAYS:Addr}{t_MOST_PAIRS:Tok}(G:Cst K mg A_PLAIN_WAYS B1_PLAIN_WAYS B2_PLAIN_WAYS B3_PLAIN_WAYS B4_PLAIN_WAYS t_MOST_PAIRS)(D_product:a1e P w K mg base CX0 1 "product" ["numbers"] (a8i K))(D_parted:a1e P w K mg base CX0 3 "parted" ["ones","others"] (b5c K))(D_told_line:a1e P w K mg base CX0 3 "told_line" ["line","x_bottom","y_bottom","room"] b0b):a1e P w K mg base (CXx P w) 4 "sifted" ["ground","pairs"] (b1z K C_Ground C_TooMany):=by
 refine b6g F a3r (fun vs H Q E h=>?_) (fun f cdv A outer s H vs Q E hr h=>?_)
 · obtain⟨g,a,dx,lx,ly,lo,lt,R,xb,yb,yo,yt,us,As,Bs,pl,n,rfl,_⟩:=h;rfl
 obtain⟨g,a,dx,lx,ly,lo,lt,R,xb,yb,yo,yt,us,As,Bs,pl,n,rfl,hg,hlx,hly,ho,hA,ht,hB,bx,bY,nx,ny,zx,zy,R0,zR,fA,fB,n1,n2,ha,hP,h256,hin,k,kx⟩:=h
 have hu:=hr.units
 refine⟨_,(a0f (a6d (i:=2) (j:=3) rfl a3r.nd rfl rfl (by decide) rfl rfl (a0a (a1c D_product hr a1q (a0a (show PEi _ _ (tFld K _ _) from (a4x (pvI 0))) a0b)) (a0a (a1c D_product hr a1q (a0a (show PEi _ _ (tFld K _ _) from (a4x (pvI 0))) a0b)) a0b)) rfl) (a0f (a6d (i:=4) (j:=5) rfl a3r.nd rfl rfl (by decide) rfl rfl (a0a (a1m a0b) (a0a (a1m a0b) a0b)) rfl) (a0f (a4v PassesOwn.leaving rfl (a2p K (pvI 1)) (a1t (n:=2) K rfl (a0m (a0k (i:=6) a3r.nd rfl (Or.inl rfl)) (a0m (a0k (i:=7) a3r.nd rfl (Or.inl rfl)) a1s))) (a0f (a4g (a1c D_parted hr a1q (a0a (a0n (a0r K) (show PEi _ _ (tFld K _ _) from (a4x (pvI 0))) (pvI 6) (fun _ _=>rfl)) (a0a (a0n (a0r K) (show PEi _ _ (tFld K _ _) from (a4x (pvI 0))) (pvI 7) (fun _ _=>rfl)) a0b))) (a1t (n:=2) K rfl (a0m (a0k (i:=8) a3r.nd rfl (Or.inl rfl)) (a0m (a0k (i:=9) a3r.nd rfl (Or.inl rfl)) a1s)))) (a0i (a3i (a1k op_isN (pvI 8) b3z (a2i _)) (a0i (a3g (show PEi _ _ (tBM K _ _ _ _) from (a5u c4e c4p c4q a2q (pvI 4) (a0a (a0t (a0a (pvI 6) (a0a (pvI 7) a0b))) a0b))))) (a0i (a3g (show PEi _ _ (tBM K _ _ _ _) from (a5u c4e c4p c4q a2q (pvI 5) (a0a (a0g (a6m K) (a0t (a0a (pvI 6) (a0a (pvI 7) a0b))) (a1c D_told_line hr a1q (a0a (pvI 8) (a0a (pvI 2) (a0a (pvI 3) (a0a (show PEi _ _ (tFld K _ _) from (a4x (pvI 0))) a0b)))))) a0b))))))))) (a0f (a3i (a1k b6u (a0w (a2y K) (by rfl) B.len PySem.boot_len (a0a (pvI 4) a0b)) (a3h (v:=.int 256) rfl G.MOST_PAIRS ⟨_,rfl⟩) (a2i _)) (a0i (b9c b8f X.xTooMany (a0a pe_strI a0b))) a2m) (a0i (a0z (a0t (a0a (pvI 4) (a0a (pvI 5) a0b))))))))),?_⟩
 have hul:=hP.len
 walk_at "rd"
 refine⟨g,C_Ground,dx,_,_,rfl,hg,T_Ground.cl,N_Ground_x_bottoms,c1a R lx ly lo lt,?_⟩
 walk_at "rd"
 dsimp only[tNil]
 refine⟨lx,xb,rfl,SqL.of hlx,bx,by omega,?_⟩
 walk_at "rd"
 refine⟨g,C_Ground,dx,_,_,rfl,hg,T_Ground.cl,N_Ground_y_bottoms,c0z R lx ly lo lt,?_⟩
 walk_at "rd"
 dsimp only[tNil]
 refine⟨ly,yb,rfl,SqL.of hly,bY,by omega,?_⟩
 refine⟨_,_,rfl,?_⟩
 walk_at "rd"
 intro lf hlf
 walk_at "rd"
 intro lh hlh
 have s1:Same H (upd (upd H lf (.lst [])) lh (.lst [])):=(Same.new hlf).trans (Same.new hlh)
 have nfh:lf≠lh:=fun z=>by rw[← z,a0d] at hlh;cases hlh
 have hlh0:H lh=none:=(Same.new hlf).free hlh
 have f0:(upd (upd H lf (.lst [])) lh (.lst [])) lf=some (.lst []):=a2k hlh a0d
 have h0:(upd (upd H lf (.lst [])) lh (.lst [])) lh=some (.lst []):=a0d
 generalize upd (upd H lf (.lst [])) lh (.lst [])=H1 at *
 refine⟨_,_,rfl,?_⟩
 walk_at "rd"
 refine⟨⟨us,SqL.of (s1 _ _ ha)⟩,b1i (xs:=us) (fun i σ H'=>∃ (y6 y7 y8 y9:Option V) (vf vh:List V) (fl tl:List Pl),σ=[some (.ref g),some (.ref a),some (.int (a1b xb)),some (.int (a1b yb)),some (.ref lf),some (.ref lh),y6,y7,y8,y9]∧Same H H'∧H' lf=some (.lst vf)∧H' lh=some (.lst vh)∧PlsV H' vf fl∧ThV H' vh tl (c2c (a1b xb) (a1b yb) R As Bs)∧Prt (pl.take i) fl tl∧(∀ p∈fl,Meet (gC As p.1) (gC Bs p.2))) ⟨none,none,none,none,[],[],[],[],rfl,s1,f0,h0,⟨rfl,fun i v p e=>by simp at e⟩,⟨rfl,fun i v p e=>by simp at e⟩,by rw[List.take_zero];exact .nil,fun p hp=>by simp at hp⟩ ?_ ?_ ?_⟩
 · rintro i σ H2 _ ⟨_,_,_,_,_,_,_,_,_,s2,_⟩
   exact SqL.of (s2 _ _ ha)
 · rintro i x σ H2 hx ⟨y6,y7,y8,y9,vf,vh,fl,tl,rfl,s2,hf2,hh2,hF,hT,hpr,hM⟩
   have hi:i<pl.length:=by rw[← hul];exact (c2q.mp hx).1
   have hp:pl[i]?=some pl[i]:=c2e hi
   have hmem:pl[i]∈pl:=c4c hi
   have htk:pl.take (i+1)=pl.take i++[pl[i]]:=by rw[List.take_succ,hp];rfl
   obtain⟨pb,rfl,hpb⟩:=(hP.same s2).get i x _ hx hp
   generalize pl[i]=p at *
   obtain⟨in1,in2,in3,in4⟩:=hin p hmem
   obtain⟨la,ua,ea,hla,hPa,hma⟩:=gC_at (hA.same s2) in1 in2
   obtain⟨lb,ub,eb,hlb,hPb,hmb⟩:=gC_at (hB.same s2) in3 in4
   have hg2:=s2 _ _ hg
   have hfl:fl.length+tl.length=i:=by have:=hpr.perm.length_eq;rw[c2k,c3j] at this;omega
   walk_at "rd"
   refine⟨pb,_,rfl,SqT.of hpb,rfl,_,_,rfl,_,_,rfl,rfl,?_⟩
   walk_at "rd"
   refine⟨g,C_Ground,dx,_,_,rfl,hg2,T_Ground.cl,N_Ground_ones,a7h R lx ly lo lt,?_⟩
   walk_at "rd"
   refine⟨lo,yo,_,_,rfl,rfl,SqL.of (s2 _ _ ho),a4s (j:=p.1.toNat) (by omega) ea,?_⟩
   walk_at "rd"
   refine⟨g,C_Ground,dx,_,_,rfl,hg2,T_Ground.cl,N_Ground_others,a5w R lx ly lo lt,?_⟩
   walk_at "rd"
   refine⟨lt,yt,_,_,rfl,rfl,SqL.of (s2 _ _ ht),a4s (j:=p.2.toNat) (by omega) eb,?_⟩
   walk_at "rd"
   dsimp only[tNil]
   obtain⟨qa1,qa2,qa3⟩:=fA _ hma
   obtain⟨qb1,qb2,qb3⟩:=fB _ hmb
   refine⟨la,lb,ua,ub,gC As p.1,gC Bs p.2,n,rfl,hla,hPa,hlb,hPb,qa3,qb3,n1,by omega,qa1,qb1,by omega,by omega,?_,?_⟩
   · intro c3 d e w p' q' H3 s3 hc3 hd he zw hp' hq' hlt hmx hmn
     refine⟨c3,_,rfl,SqT.of hc3,rfl,_,_,rfl,_,_,rfl,rfl,?_⟩
     walk_at "rd"
     refine⟨.inl ⟨rfl,_,SqL.of (s3 _ _ hh2)⟩,?_⟩
     walk_at "rd"
     intro tp htp
     have s4:=Same.new (o:=.tup [.int p.1,.int p.2]) htp
     have ht4:=a0d (H:=H3) (a:=tp) (o:=.tup [.int p.1,.int p.2])
     generalize upd H3 tp (.tup [.int p.1,.int p.2])=H4 at *
     walk_at "rd"
     refine⟨g,C_Ground,dx,_,_,rfl,s4 _ _ (s3 _ _ hg2),T_Ground.cl,N_Ground_room,b2o R lx ly lo lt,?_⟩
     walk_at "rd"
     dsimp only[tNil]
     refine⟨d,w,dt w p' + dt w q',a1b xb,a1b yb,R,rfl,s4 _ _ hd,⟨zw.1.mono (by omega),zw.2.mono (by omega)⟩,zx.mono (by decide),zy.mono (by decide),zR.mono (by decide),R0,fun t v1 v2 v3 H5 s5 ht5 g1 g2 g3=>?_⟩
     refine⟨tp,t,_,_,rfl,rfl,SqT.of (s5 _ _ ht4),SqT.of ht5,by simp,by show 5≤sizeLine;decide,fun zz=>(nomatch zz),fun _ c9 hc9=>?_⟩
     have s6:=Same.new (o:=.tup ([.int p.1,.int p.2]++[v1,v2,v3])) hc9
     have hc6:=a0d (H:=H5) (a:=c9) (o:=.tup ([.int p.1,.int p.2]++[v1,v2,v3]))
     generalize upd H5 c9 (.tup ([.int p.1,.int p.2]++[v1,v2,v3]))=H6 at *
     have s26:=(s3.trans s4).trans (s5.trans s6)
     have hf6:=s26 _ _ hf2
     have hh6:=s26 _ _ hh2
     have hvl:=hT.len
     refine⟨lh,vh,_,rfl,rfl,hh6,a0v (by omega),?_⟩
     have tg:Tup H6 (upd H6 lh (.lst (vh++[.ref c9]))):=Tup.lst hh6
     refine⟨_,_,_,_,vf,vh++[.ref c9],fl,tl++[p],rfl,a4b hlh0 (s2.trans s26),by rw[a0j nfh];exact hf6,a0d,(hF.same s26).tup tg,?_,by rw[htk];exact .snd p hpr,hM⟩
     exact ((hT.tup (L2.Same.tup s26)).snoc hc6 (g1.same s6) (g2.same s6) (g3.same s6) ⟨⟨w,p',q',rfl,rfl,rfl,hp',hq',hlt,hmx,hmn⟩,line_bd zw n2 zx zy zR R0 qa3 qb3 hp' hq'⟩).tup tg
   · intro c3 e vs ss H3 s3 hc3 he hss hac hh0
     refine⟨c3,_,rfl,SqT.of hc3,rfl,_,_,rfl,_,_,rfl,rfl,?_⟩
     have hvl:=hF.len
     walk_at "rd"
     refine⟨.inl ⟨rfl,_,SqL.of (s3 _ _ hf2)⟩,?_⟩
     walk_at "rd"
     intro tp htp
     have s4:=Same.new (o:=.tup [.int p.1,.int p.2]) htp
     have ht4:=a0d (H:=H3) (a:=tp) (o:=.tup [.int p.1,.int p.2])
     generalize upd H3 tp (.tup [.int p.1,.int p.2])=H4 at *
     have s24:=s3.trans s4
     have hf4:=s24 _ _ hf2
     have hh4:=s24 _ _ hh2
     refine⟨lf,vf,_,rfl,rfl,hf4,a0v (by omega),?_⟩
     have tg:Tup H4 (upd H4 lf (.lst (vf++[.ref tp]))):=Tup.lst hf4
     refine⟨_,_,_,_,vf++[.ref tp],vh,fl++[p],tl,rfl,a4b hlf (s2.trans s24),a0d,by rw[a0j (Ne.symm nfh)];exact hh4,(a7v (hF.same s24) ht4).tup tg,(hT.tup (L2.Same.tup s24)).tup tg,by rw[htk];exact .fst p hpr,fun q hq=>?_⟩
     rcases c3n.mp hq with hq | hq
     · exact hM q hq
     · rw[c3h.mp hq]
       exact⟨ss,hac,hh0⟩
 · rintro σ H2 ⟨y6,y7,y8,y9,vf,vh,fl,tl,rfl,s2,hf2,hh2,hF,hT,hpr,hM⟩
   have hvl:=hF.len
   rw[show pl.take us.length=pl by rw[hul,List.take_length]] at hpr
   have hfl:fl.length+tl.length=pl.length:=by have:=hpr.perm.length_eq;rw[c2k] at this;exact this
   walk_at "rd"
   refine ifB (fun hb=>?_) (fun hb=>?_)
   · refine⟨(by show 1≤sizeLine;decide),?_⟩
     exact kx vh fl tl H2 s2 hT hpr hM (by have:=of_decide_eq_true hb;omega)
   walk_at "rd"
   intro c hc
   have s3:=Same.new (o:=.tup [.ref lf,.ref lh]) hc
   exact k c lf lh vf vh fl tl _ (s2.trans s3) a0d hlf hlh0 (s3 _ _ hf2) (s3 _ _ hh2) (hF.same s3) (hT.tup (L2.Same.tup s3)) hpr hM (by have:=of_decide_eq_false hb;omega)
theorem ok_meets{C_Ground:Addr}(T_Ground:ClsK K mg "Ground" C_Ground)(N_Ground_room:a2c K C_Ground "room")(N_Ground_x_bottoms:a2c K C_Ground "x_bottoms")(N_Ground_y_bottoms:a2c K C_Ground "y_bottoms")(N_Ground_ones:a2c K C_Ground "ones")(N_Ground_others:a2c K C_Ground "others")(F:a0s K mg "meets" a4u ["one","other","level"])(B:Blt mg){C_TooMany:Addr}{A_PLAIN_WAYS B1_PLAIN_WAYS B2_PLAIN_WAYS B3_PLAIN_WAYS B4_PLAIN_WAYS:Addr}{t_MOST_PAIRS:Tok}(G:Cst K mg A_PLAIN_WAYS B1_PLAIN_WAYS B2_PLAIN_WAYS B3_PLAIN_WAYS B4_PLAIN_WAYS t_MOST_PAIRS)(D_Ground___init__:b1s P w K mg base CX0 5 C_Ground "__init__" ["self","one","other","level"] (b5g K C_Ground))(D_Ground_go_down:b1s P w K mg base CX0 3 C_Ground "go_down" ["self"] (b8n K C_Ground))(D_pairs_below:a1e P w K mg base CX0 1 "pairs_below" ["pairs"] (b8o K))(D_sifted:a1e P w K mg base (CXx P w) 4 "sifted" ["ground","pairs"] (b1z K C_Ground C_TooMany)):a1e P w K mg base (CXx P w) 7 "meets" ["one","other","level"] (a7s K C_TooMany):=by
 refine b6g F a3x (fun vs H Q E h=>?_) (fun f cdv A outer s H vs Q E hr h=>?_)
 · obtain⟨a,b,us,ws,ps,qs,D,m,L,rfl,_⟩:=h;rfl
 obtain⟨a,b,us,ws,ps,qs,D,m,L,rfl,ha,hP,hb,hR,p1,p12,q1,q12,hD,zD,hm,hov,hL,hLn,k,kx⟩:=h
 have hu:=hr.units
 refine⟨_,(a0f (a0x (i:=3) a3x.nd rfl (Or.inl rfl) (pe_mkI T_Ground D_Ground___init__ hr a1q (a0a (pvI 0) (a0a (pvI 1) (a0a (pvI 2) a0b))))) (a0f (a4g (a1c D_sifted hr b2k (a0a (pvI 3) (a0a (a1m (a0a (a0t (a0a a0c (a0a a0c a0b))) a0b)) a0b))) (a1t (n:=2) K rfl (a0m (a0k (i:=4) a3x.nd rfl (Or.inl rfl)) (a0m (a0k (i:=5) a3x.nd rfl (Or.inl rfl)) a1s)))) (a0f (a6l (i:=6) (os:=["each"]) (caps:=[]) ["one","other","level","ground","pairs","thrown","told","depth"] (a0e a4u) a3x.nd rfl rfl (a2p K (pvI 5)) (fun _ _ _ _ _=>(a0k (i:=0) (show c3x (["each"]:List Str) from by decide +kernel) rfl (Or.inl rfl))) (fun _ _ _ _ _=>(a0g (a6m K) (a0t (a0a a0c a0b)) (pvI 0))) (by decide +kernel)) (a0f (a4v PassesOwn.leaving rfl (b6q rfl B.range (a0a a0c (a0a (a0g a2n (pvI 2) a0c) a0b))) (a0k (i:=7) a3x.nd rfl (Or.inr rfl)) (a0f (a3g (pe_mth0I T_Ground D_Ground_go_down (pvI 3) hr a1q)) (a0f (a4g (a1c D_sifted hr b2k (a0a (pvI 3) (a0a (a1c D_pairs_below hr a1q (a0a (pvI 4) a0b)) a0b))) (a1t (n:=2) K rfl (a0m (a0k (i:=4) a3x.nd rfl (Or.inl rfl)) (a0m (a0k (i:=5) a3x.nd rfl (Or.inl rfl)) a1s)))) (a0i (a3g (show PEi _ _ (tBM K _ _ _ _) from (a5u c4e PySem.F.slot_list_extend PySem.F.type_list_extend c0d (pvI 6) (a0a (a3j (os:=["each"]) (caps:=[(7,"depth")]) ["one","other","level","ground","pairs","thrown","told","depth"] (a0e a4u) (a2p K (pvI 5)) (fun _ _ _ _ _=>(a0k (i:=0) (show c3x (["each","depth"]:List Str) from by decide +kernel) rfl (Or.inl rfl))) (fun _ _ _ _ _=>(a0g (a6m K) (a0t (a0a (pvI 1) a0b)) (pvI 0))) (by decide +kernel)) a0b)))))))) (a0i (a0z (a0t (a0a (pvI 4) (a0a (pvI 6) a0b))))))))),?_⟩
 walk_at "rd"
 dsimp only[tNil]
 intro x dx hx hdx hne
 have s1:Same H (upd (upd H dx (.own x)) x (.ins C_Ground dx [])):=(Same.new hdx).trans (Same.new (by rw[a0j (Ne.symm hne)];exact hx))
 have hx1:(upd (upd H dx (.own x)) x (.ins C_Ground dx [])) x=some (.ins C_Ground dx []):=a0d
 generalize upd (upd H dx (.own x)) x (.ins C_Ground dx [])=H1 at *
 refine⟨x,a,b,dx,us,ws,ps,qs,D,m,L,rfl,hx1,s1 _ _ ha,hP.same s1,s1 _ _ hb,hR.same s1,p1,p12,q1,q12,hD,zD,hm,hov,by omega,hLn,fun xb yb c1 c2 lx ly lo lt yo yt H2 s2 hlx hly hlo hA hlt hB G n1 n2=>⟨rfl,?_⟩⟩
 have hx2:=s2 _ _ hx1
 generalize eK:L*(max ps.length qs.length - 1)=KK at *
 have i2:Ins H2 (upd H2 x (.ins C_Ground dx (grF (2^KK) lx ly lo lt))):=Ins.upd hx2
 have s3:Same H (upd H2 x (.ins C_Ground dx (grF (2^KK) lx ly lo lt))):=a4b hx (s1.trans s2)
 have hx3:(upd H2 x (.ins C_Ground dx (grF (2^KK) lx ly lo lt))) x=some (.ins C_Ground dx (grF (2^KK) lx ly lo lt)):=a0d
 generalize upd H2 x (.ins C_Ground dx (grF (2^KK) lx ly lo lt))=H3 at *
 replace hlx:=i2.1 _ _ hlx
 replace hly:=i2.1 _ _ hly
 replace hlo:=i2.1 _ _ hlo
 replace hlt:=i2.1 _ _ hlt
 replace hA:=hA.ins i2
 replace hB:=hB.ins i2
 have lc1:c1.length=ps.length:=by have:=congrArg c6v G.p1;rw[a4f] at this;exact this
 have lc2:c2.length=qs.length:=by have:=congrArg c6v G.p2;rw[a4f] at this;exact this
 have R0:(0:Int)<2^KK:=b5q _
 have zR:Sz 41 ((2:Int)^KK):=(b0z _).mono (by omega)
 walk_at "rd"
 intro t0 ht0
 walk_at "rd"
 intro l0 hl0
 have s4:Same H3 (upd (upd H3 t0 (.tup [.int 0,.int 0])) l0 (.lst [.ref t0])):=(Same.new ht0).trans (Same.new hl0)
 have f1:(upd (upd H3 t0 (.tup [.int 0,.int 0])) l0 (.lst [.ref t0])) t0=some (.tup [.int 0,.int 0]):=a2k hl0 a0d
 have f2:(upd (upd H3 t0 (.tup [.int 0,.int 0])) l0 (.lst [.ref t0])) l0=some (.lst [.ref t0]):=a0d
 generalize upd (upd H3 t0 (.tup [.int 0,.int 0])) l0 (.lst [.ref t0])=H4 at *
 have hE:PlsV H4 [] []:=⟨rfl,fun i v p e=>by simp at e⟩
 have hP0:PlsV H4 [.ref t0] [((0:Int),(0:Int))]:=a7v (p:=((0:Int),(0:Int))) hE f1
 walk_at "rd"
 dsimp only[tNil]
 refine⟨x,l0,dx,lx,ly,lo,lt,2^KK,xb,yb,yo,yt,_,[c1],[c2],[(0,0)],m+(KK+1),rfl,s4 _ _ hx3,s4 _ _ hlx,s4 _ _ hly,s4 _ _ hlo,hA.same s4,s4 _ _ hlt,hB.same s4,G.bx,G.bY,G.lx,G.ly,G.zx.mono (by decide),G.zy.mono (by decide),R0,zR,?_,?_,by omega,by omega,f2,hP0,by decide,?_,fun c lf lh vf vh fl tl H5 s5 hc5 hlf hlh hf5 hh5 hF hT hpr hM hm5=>?_,fun vh fl tl H5 s5 hT hpr hM hbig=>absurd hbig (by have:=hpr.sub.1.length_le;simp only[c3r,List.length_nil] at this;omega)⟩
 · intro c hc
   rw[c3h.mp hc]
   exact⟨by omega,by omega,G.z1⟩
 · intro c hc
   rw[c3h.mp hc]
   exact⟨by omega,by omega,G.z2⟩
 · intro p hp
   rw[c3h.mp hp]
   exact⟨by decide,by simp,by decide,by simp⟩
 refine⟨c,_,rfl,SqT.of hc5,rfl,_,_,rfl,_,_,rfl,rfl,?_⟩
 have T0:Told (b1u c1 c2) 0 fl (tl.map (c6u 0)):=.zero hpr hM hT.notB
 have s05:=s3.trans (s4.trans s5)
 have ltl:tl.length≤1:=by have:=hpr.sub.2.length_le;exact this
 walk_at "rd"
 refine⟨⟨_,SqL.of hh5⟩,b0g (d:=0) (Ln:=b0p (a1b xb) (a1b yb) (2^KK) c1 c2) (a4j (SqL.of hh5)) (fun i v e=>by rw[e];rfl) hT (by omega) (fun t xs H6 kk ht6 hx6 l6 h6=>?_) (fun ld ys H6 hld s6 hd6 hTd=>?_)⟩
 · walk_at "rd"
   intro t1 ht1
   have s7:=Same.new (o:=.tup [.int 0]) ht1
   walk_at "rd"
   refine⟨t1,t,_,_,rfl,rfl,SqT.of a0d,SqT.of (s7 _ _ ht6),by simp,by show 1+xs.length≤sizeLine;have:=a0v (n:=1+xs.length) (by omega);omega,fun zz=>absurd zz hx6,fun _ c9 hc9=>?_⟩
   exact h6 c9 _ (s7.trans (Same.new hc9)) a0d
 have s06:=s05.trans s6
 have hlfH:H lf=none:=(s3.trans s4).free hlf
 have hldH:H ld=none:=s05.free hld
 have nfd:lf≠ld:=fun z=>by rw[← z,hf5] at hld;cases hld
 walk_at "rd"
 have nx5:lx≠ld:=fun z=>by rw[← z,s5 _ _ (s4 _ _ hlx)] at hld;cases hld
 have ny5:ly≠ld:=fun z=>by rw[← z,s5 _ _ (s4 _ _ hly)] at hld;cases hld
 have s36:=s4.trans (s5.trans s6)
 have lv1:∀ d,d≤L→LvOk (a1b xb*2^KK) (a1b yb*2^KK) ps (m+(KK+1)) ((L - d)*(ps.length - 1)) d (lvI c1 d):=fun d hd=>b5u p1 G.p1 G.z1 L d hd (G.d1.mono (by rw[← eK];exact c6k _ (by omega)))
 have lv2:∀ d,d≤L→LvOk (a1b xb*2^KK) (a1b yb*2^KK) qs (m+(KK+1)) ((L - d)*(qs.length - 1)) d (lvI c2 d):=fun d hd=>b5u q1 G.p2 G.z2 L d hd (G.d2.mono (by rw[← eK];exact c6k _ (by omega)))
 refine⟨_,_,rfl,⟨by decide,by decide,by omega,by omega⟩,a9b (fun i σ H'=>∃ (lo lt lf:Addr) (y5 y7:Option V) (yo yt vf vh:List V) (fl:List Pl) (tt:List (Nat×Pl)),σ=[some (.ref a),some (.ref b),some (.int (L:Int)),some (.ref x),some (.ref lf),y5,some (.ref ld),y7]∧Same H H'∧H' x=some (.ins C_Ground dx (grF (2^KK) lx ly lo lt))∧H' lx=some (.lst (xb.map V.int))∧H' ly=some (.lst (yb.map V.int))∧H' lo=some (.lst yo)∧CsV H' none yo (lvI c1 i)∧H' lt=some (.lst yt)∧CsV H' none yt (lvI c2 i)∧H lf=none∧lf≠ld∧H' lf=some (.lst vf)∧PlsV H' vf fl∧H' ld=some (.lst vh)∧TdV H' vh tt (b0p (a1b xb) (a1b yb) (2^KK) c1 c2)∧Told (b1u c1 c2) i fl tt∧tt.length≤1024*(i+1)∧fl.length≤256∧FewI (a1b xb) (a1b yb) (2^KK) c1 c2 i) ⟨lo,lt,lf,some (.ref lh),none,yo,yt,vf,ys,fl,_,rfl,s06,s36 _ _ hx3,s36 _ _ hlx,s36 _ _ hly,s36 _ _ hlo,hA.same s36,s36 _ _ hlt,hB.same s36,hlfH,nfd,s6 _ _ hf5,hF.same s6,hd6,hTd,T0,by rw[c2h];omega,hm5,fun e he=>⟨fl,_,hTd.ex,by rw[Nat.le_zero.mp he];exact T0,hm5⟩⟩ ?_ ?_⟩
 · rintro i σ W0 hi ⟨lo,lt,lf,y5,y7,yo,yt,vf,vh,fl,tt,rfl,sG,gx,glx,gly,glo,gA,glt,gB,glf,nlf,gf,gF,gd,gT,gTd,gn,g256,gFw⟩
   have hi':i<L:=by omega
   have p8:(2:Nat)^i≤32:=by
     have:i=0∨i=1∨i=2∨i=3∨i=4∨i=5:=by omega
     rcases this with rfl | rfl | rfl | rfl | rfl | rfl<;>decide
   have i8:(2:Int)^i≤32:=by exact_mod_cast p8
   have fln:=gTd.len
   have fin:=gTd.ins.1
   have L1:=lv1 i (by omega)
   have L2':=lv2 i (by omega)
   have M1:=lv1 (i+1) (by omega)
   have M2:=lv2 (i+1) (by omega)
   walk_at "rd"
   refine⟨x,dx,_,rfl,gx,b7e _ lx ly lo lt,?_⟩
   dsimp only[tNil]
   refine⟨x,dx,lx,ly,lo,lt,2^KK,yo,yt,lvI c1 i,lvI c2 i,rfl,gx,glo,gA,glt,gB,by rw[a8t];omega,fun c hc=>by rw[L1.len c hc];omega,by rw[a8t];omega,fun c hc=>by rw[L2'.len c hc];omega,fun lo' lt' yo' yt' W1 w1 fo ft hlo' hA' hlt' hB'=>?_⟩
   have gx1:=w1 _ _ gx
   have iW:Ins W1 (upd W1 x (.ins C_Ground dx (grF (2^KK) lx ly lo' lt'))):=Ins.upd gx1
   have sW2:Same H (upd W1 x (.ins C_Ground dx (grF (2^KK) lx ly lo' lt'))):=a4b hx (sG.trans w1)
   have gx2:(upd W1 x (.ins C_Ground dx (grF (2^KK) lx ly lo' lt'))) x=some (.ins C_Ground dx (grF (2^KK) lx ly lo' lt')):=a0d
   generalize upd W1 x (.ins C_Ground dx (grF (2^KK) lx ly lo' lt'))=W2 at *
   have nlo:lo'≠ld:=fun z=>by rw[z,gd] at fo;cases fo
   have nlt:lt'≠ld:=fun z=>by rw[z,gd] at ft;cases ft
   have i02:Ins W0 W2:=(Ins.same w1).trans iW
   replace gd:=i02.1 _ _ gd
   replace gT:=gT.tup i02.2
   replace glx:=i02.1 _ _ glx
   replace gly:=i02.1 _ _ gly
   replace hlo':=iW.1 _ _ hlo'
   replace hlt':=iW.1 _ _ hlt'
   replace hA':=hA'.ins iW
   replace hB':=hB'.ins iW
   walk_at "rd"
   dsimp only[tNil]
   refine⟨lf,vf,fl,rfl,i02.1 _ _ gf,gF.tup i02.2,gTd.nodup,by omega,fun p hp=>?_,fun l vs3 qs3 W3 w3 hl0 hl3 hP3 hpm hso=>?_⟩
   · obtain⟨z1,z2,z3,z4⟩:=fin p hp
     exact⟨a5q (b:=1000000) (by omega) (by decide),a5q (b:=1000000) (by omega) (by decide)⟩
   have lq:qs3.length≤1024:=by have:=hpm.length_eq;rw[a5e] at this;omega
   walk_at "rd"
   dsimp only[tNil]
   refine⟨x,l,dx,lx,ly,lo',lt',2^KK,xb,yb,yo',yt',_,lvI c1 (i+1),lvI c2 (i+1),qs3,m+(KK+1),rfl,w3 _ _ gx2,w3 _ _ glx,w3 _ _ gly,w3 _ _ hlo',hA'.same w3,w3 _ _ hlt',hB'.same w3,G.bx,G.bY,G.lx,G.ly,G.zx.mono (by decide),G.zy.mono (by decide),R0,zR,fun c hc=>⟨by rw[M1.len c hc];omega,by rw[M1.len c hc];omega,M1.sz c hc⟩,fun c hc=>⟨by rw[M2.len c hc];omega,by rw[M2.len c hc];omega,M2.sz c hc⟩,by omega,by omega,hl3,hP3,by omega,fun p hp=>?_,fun c lf4 lh4 vf4 vh4 fl4 tl4 W4 w4 hc4 hf40 hh40 hf4 hh4 hF4 hT4 hpr4 hM4 hm4=>?_,fun vh4 fl4 tl4 W4 w4 hT4 hpr4 hM4 hbig=>?_⟩
   · obtain⟨z1,z2,z3,z4⟩:=(fin _ (a5d.mp (hpm.subset hp))).below
     rw[a8t,a8t]
     exact⟨z1,by exact_mod_cast z2,z3,by exact_mod_cast z4⟩
   refine⟨c,_,rfl,SqT.of hc4,rfl,_,_,rfl,_,_,rfl,rfl,?_⟩
   have T1:Told (b1u c1 c2) (i+1) fl4 (tt++tl4.map (c6u (i+1))):=.step gTd hpm hso hpr4 hM4 hT4.notB
   have w24:=w3.trans w4
   have gd4:=w24 _ _ gd
   have ltl4:tl4.length≤1024:=by have:=hpr4.sub.2.length_le;omega
   walk_at "rd"
   refine⟨.inl ⟨rfl,_,SqL.of gd4⟩,?_⟩
   walk_at "rd"
   refine⟨⟨_,SqL.of hh4⟩,b0g (d:=i+1) (Ln:=b0p (a1b xb) (a1b yb) (2^KK) c1 c2) (a4j (SqL.of hh4)) (fun i v e=>by rw[e];rfl) hT4 (by omega) (fun t xs W5 kk ht5 hx5 l5 h5=>?_) (fun le ye W5 hle w5 hd5 hTe=>?_)⟩
   · walk_at "rd"
     intro t1 ht1
     have s7:=Same.new (o:=.tup [.int (1+(i:Int))]) ht1
     walk_at "rd"
     refine⟨t1,t,_,_,rfl,rfl,SqT.of a0d,SqT.of (s7 _ _ ht5),by simp,by show 1+xs.length≤sizeLine;have:=a0v (n:=1+xs.length) (by omega);omega,fun zz=>absurd zz hx5,fun _ c9 hc9=>?_⟩
     refine h5 c9 _ (s7.trans (Same.new hc9)) ?_
     rw[a0d,show ((i+1:Nat):Int)=1+(i:Int) by omega];rfl
   have w25:=w24.trans w5
   have gd5:=w25 _ _ gd
   have gT5:=gT.tup (L2.Same.tup w25)
   have lv5:=gT5.len
   have le5:=hTe.len
   rw[c2h] at le5
   refine⟨ld,le,vh,ye,rfl,rfl,gd5,hd5,by have:=a0v (n:=vh.length+ye.length) (by omega);omega,?_⟩
   have tg:Tup W5 (upd W5 ld (.lst (vh++ye))):=Tup.lst gd5
   have nlf4:lf4≠ld:=fun z=>by rw[z,w3 _ _ gd] at hf40;cases hf40
   have A5:=((cs_ne (hA'.same w25) (fun c hc=>by rw[M1.len c hc];exact p1) gd5 gT5).upd (ws:=vh++ye) gd5).drop
   have B5:=((cs_ne (hB'.same w25) (fun c hc=>by rw[M2.len c hc];exact q1) gd5 gT5).upd (ws:=vh++ye) gd5).drop
   have nxd:x≠ld:=fun z=>by rw[z,gd] at gx2;cases gx2
   exact⟨lo',lt',lf4,_,_,yo',yt',vf4,vh++ye,fl4,_,rfl,a4b hldH (sW2.trans w25),by rw[a0j nxd];exact w25 _ _ gx2,by rw[a0j nx5];exact w25 _ _ glx,by rw[a0j ny5];exact w25 _ _ gly,by rw[a0j nlo];exact w25 _ _ hlo',A5,by rw[a0j nlt];exact w25 _ _ hlt',B5,(sW2.trans w3).free hf40,nlf4,by rw[a0j nlf4];exact w5 _ _ hf4,(hF4.same w5).tup tg,a0d,(gT5.append hTe).tup tg,T1,by rw[c2k,c2h];omega,hm4,gFw.step ((gT5.append hTe).tup tg).ex T1 hm4⟩
   · have WC:WcOf ps qs L (a1b xb) (a1b yb) (2^KK) c1 c2:=⟨G.w1,G.w2,R0,G.p1,G.p2,by rw[eK];exact G.d1,by rw[eK];exact G.d2,_,G.z1,G.z2⟩
     have T1:Told (b1u c1 c2) (i+1) fl4 (tt++tl4.map (c6u (i+1))):=.step gTd hpm hso hpr4 hM4 hT4.notB
     exact kx (i+1) fl4 _ W4 (by omega) (sW2.trans (w3.trans w4)) (toldE p1 q1 WC (by omega) (ExL.add gT.ex hT4) T1) hbig
 · rintro σ W0 ⟨lo,lt,lf,y5,y7,yo,yt,vf,vh,fl,tt,rfl,sG,gx,glx,gly,glo,gA,glt,gB,glf,nlf,gf,gF,gd,gT,gTd,gn,g256,gFw⟩
   walk_at "rd"
   intro c9 hc9
   have s9:=Same.new (o:=.tup [.ref lf,.ref ld]) hc9
   have eL:((L:Int)+1 - 1).toNat=L:=by omega
   rw[eL] at gTd
   have WC:WcOf ps qs L (a1b xb) (a1b yb) (2^KK) c1 c2:=⟨G.w1,G.w2,R0,G.p1,G.p2,by rw[eK];exact G.d1,by rw[eK];exact G.d2,_,G.z1,G.z2⟩
   obtain⟨TB1,TB2⟩:=toldB p1 q1 WC (gT.tup (L2.Same.tup s9)) gTd
   exact k c9 lf ld vf vh fl tt _ (sG.trans s9) a0d glf hldH (s9 _ _ gf) (s9 _ _ gd) nlf (gF.same s9) TB1 TB2 (gFw.few p1 q1 WC (by omega))
theorem b2m(F:a0s K mg "_law_refused" a3d ["_law_one","_law_other","_law_level"])(B:Blt mg){C_SeatError C_TooMany C_NoShare C_NoLower C_NoMap C_NoJoin C_NoPlace C_NoText C_NoName:Addr}(X:Exc K mg C_SeatError C_TooMany C_NoShare C_NoLower C_NoMap C_NoJoin C_NoPlace C_NoText C_NoName)(D_meets:a1e P w K mg base (CXx P w) 7 "meets" ["one","other","level"] (a7s K C_TooMany)):a1e P w K mg base CX0 8 "_law_refused" ["_law_one","_law_other","_law_level"] (a8h K):=by
 refine a1i F a3z (fun vs H Q E h=>?_) (fun f cdv A outer s H vs Q E hr h=>?_)
 · obtain⟨a,b,us,ws,ps,qs,D,m,L,rfl,_⟩:=h;rfl
 obtain⟨a,b,us,ws,ps,qs,D,m,L,rfl,ha,hP,hb,hR,p1,p12,q1,q12,hD,zD,hm,hov,hL,hLn,hF,k⟩:=h
 have hu:=hr.units
 refine⟨_,(a0f (ps_try1I (n:=3) X.SeatError a3z.nd (fun xe pn Ex hx=>(a0i (a3g (a1c D_meets hr hx (a0a (pvI 0) (a0a (pvI 1) (a0a (pvI 2) a0b))))))) (fun x=>(a0f (a0x (i:=4) a3z.nd rfl (Or.inl rfl) (a1m (a0a (a0w (a2z K) (by rfl) B.isinstance c3z (a0a (pvI 3) (a0a (a3h (v:=.ref C_NoJoin) rfl X.NoJoin rfl) a0b))) (a0a (a0w (a2z K) (by rfl) B.isinstance c3z (a0a (pvI 3) (a0a (a3h (v:=.ref C_NoLower) rfl X.NoLower rfl) a0b))) (a0a (a0w (a2z K) (by rfl) B.isinstance c3z (a0a (pvI 3) (a0a (a3h (v:=.ref C_NoMap) rfl X.NoMap rfl) a0b))) (a0a (a0w (a2z K) (by rfl) B.isinstance c3z (a0a (pvI 3) (a0a (a3h (v:=.ref C_NoName) rfl X.NoName rfl) a0b))) a0b)))))) (a0f (a0x (i:=4) a3z.nd rfl (Or.inl rfl) (a0g b9w (pvI 4) (a1m (a0a (a0w (a2z K) (by rfl) B.isinstance c3z (a0a (pvI 3) (a0a (a3h (v:=.ref C_NoPlace) rfl X.NoPlace rfl) a0b))) (a0a (a0w (a2z K) (by rfl) B.isinstance c3z (a0a (pvI 3) (a0a (a3h (v:=.ref C_NoText) rfl X.NoText rfl) a0b))) (a0a (a0w (a2z K) (by rfl) B.isinstance c3z (a0a (pvI 3) (a0a (a3h (v:=.ref C_NoShare) rfl X.NoShare rfl) a0b))) a0b)))))) (a0i (a0z (b1b (a0w (a2z K) (by rfl) B.isinstance c3z (a0a (pvI 3) (a0a (a3h (v:=.ref C_TooMany) rfl X.TooMany rfl) a0b))) (b1b (a0w (a2z K) (by rfl) B.isinstance c3z (a0a (pvI 3) (a0a (pe_bltnI (v:=.ty "ValueError") rfl B.ValueError PyProof.Rows.Boot.«ValueError» rfl) a0b))) (b9k (pe_notI (a0w (b7r K (x:=x) rfl) (by rfl) B.any PyProof.Rows.boot_any (a0a (pvI 4) a0b)))))))))))) (a0i (a0z b2i))),?_⟩
 refine⟨fun cls d H'=>cls=.ref C_TooMany∧d=none∧Same H H',⟨_,rfl,?_⟩,?_⟩
 · walk_at "rd"
   dsimp only[tNil]
   exact⟨a,b,us,ws,ps,qs,D,m,L,rfl,ha,hP,hb,hR,p1,p12,q1,q12,hD,zD,hm,hov,hL,hLn,fun c lf lh vf vh fl tt H' s hc hlf hlh hf hh hne hP' hT hTo hFw=>absurd hFw hF,fun d fl tt H' hd s hT hbig=>⟨rfl,rfl,s⟩⟩
 · rintro cls x H' σ' ⟨rfl,_,hs⟩ hx hl
   obtain⟨y0,y1,y2,y3,y4,rfl⟩:=st5 hl
   refine⟨X.mTooMany,?_⟩
   have sx:Same H' (upd H' x (ExcO x (.ref C_TooMany))):=Same.new hx
   have hx1:(upd H' x (ExcO x (.ref C_TooMany))) x=some (ExcO x (.ref C_TooMany)):=a0d
   generalize upd H' x (ExcO x (.ref C_TooMany))=H1 at *
   refine⟨_,rfl,x,C_TooMany,_,_,_,rfl,hx1,rfl,X.nTooMany,X.fTooMany_NoJoin,?_⟩
   refine⟨_,rfl,x,C_TooMany,_,_,_,rfl,hx1,rfl,X.nTooMany,X.fTooMany_NoLower,?_⟩
   refine⟨_,rfl,x,C_TooMany,_,_,_,rfl,hx1,rfl,X.nTooMany,X.fTooMany_NoMap,?_⟩
   refine⟨_,rfl,x,C_TooMany,_,_,_,rfl,hx1,rfl,X.nTooMany,X.fTooMany_NoName,?_⟩
   refine⟨by show 4≤sizeLine;decide,fun l1 hl1=>?_⟩
   have hx2:(upd H1 l1 (.lst [.bl false,.bl false,.bl false,.bl false])) x=some (ExcO x (.ref C_TooMany)):=a2k hl1 hx1
   refine⟨_,rfl,?_⟩
   refine⟨_,rfl,x,C_TooMany,_,_,_,rfl,hx2,rfl,X.nTooMany,X.fTooMany_NoPlace,?_⟩
   refine⟨_,rfl,x,C_TooMany,_,_,_,rfl,hx2,rfl,X.nTooMany,X.fTooMany_NoText,?_⟩
   refine⟨_,rfl,x,C_TooMany,_,_,_,rfl,hx2,rfl,X.nTooMany,X.fTooMany_NoShare,?_⟩
   refine⟨by show 3≤sizeLine;decide,fun l2 hl2=>?_⟩
   refine⟨l1,l2,_,_,rfl,rfl,a2k hl2 a0d,a0d,by show 7≤sizeLine;decide,fun l3 hl3=>?_⟩
   have hx4:(upd (upd (upd H1 l1 (.lst [.bl false,.bl false,.bl false,.bl false])) l2 (.lst [.bl false,.bl false,.bl false])) l3 (.lst [.bl false,.bl false,.bl false,.bl false,.bl false,.bl false,.bl false])) x=some (ExcO x (.ref C_TooMany)):=a2k hl3 (a2k hl2 hx2)
   have h34:(upd (upd (upd H1 l1 (.lst [.bl false,.bl false,.bl false,.bl false])) l2 (.lst [.bl false,.bl false,.bl false])) l3 (.lst [.bl false,.bl false,.bl false,.bl false,.bl false,.bl false,.bl false])) l3=some (.lst [.bl false,.bl false,.bl false,.bl false,.bl false,.bl false,.bl false]):=a0d
   have s4:Same H' (upd (upd (upd H1 l1 (.lst [.bl false,.bl false,.bl false,.bl false])) l2 (.lst [.bl false,.bl false,.bl false])) l3 (.lst [.bl false,.bl false,.bl false,.bl false,.bl false,.bl false,.bl false])):=((sx.trans (Same.new hl1)).trans (Same.new hl2)).trans (Same.new hl3)
   refine⟨_,rfl,x,C_TooMany,_,_,_,rfl,hx4,rfl,X.nTooMany,kit_self K _,_,rfl,iteT ?_⟩
   refine⟨_,rfl,x,C_TooMany,_,_,_,rfl,hx4,rfl,X.nTooMany,X.vTooMany,_,rfl,iteT ?_⟩
   refine⟨_,rfl,l3,[false,false,false,false,false,false,false],C_TooMany,rfl,SqL.of h34,hx4,_,rfl,?_⟩
   exact k _ (hs.trans s4)
theorem a7l(F:a0s K mg "_law_folded_good" a2a ["_law_curve","_law_level"])(B:Blt mg){C_TooMany:Addr}(D_l_folded:a1e P w K mg base CX0 1 "_law_folded" ["_law_level"] (b5h K))(D_meets:a1e P w K mg base (CXx P w) 7 "meets" ["one","other","level"] (a7s K C_TooMany))(D_l_refused:a1e P w K mg base CX0 8 "_law_refused" ["_law_one","_law_other","_law_level"] (a8h K)):a1e P w K mg base CX0 9 "_law_folded_good" ["_law_curve","_law_level"] (b0c K):=by
 refine a1i F a4t (fun vs H Q E h=>?_) (fun f cdv A outer s H vs Q E hr h=>?_)
 · obtain⟨a,us,B,W,D,m,L,rfl,_⟩:=h;rfl
 obtain⟨a,us,Bp,W,D,m,L,rfl,ha,hP,hW,hD,zD,hm,oB,oW,hL,k⟩:=h
 have hu:=hr.units
 refine⟨_,(a0f (a0x (i:=2) a4t.nd rfl (Or.inl rfl) (a1c D_l_folded hr a1q (a0a (pvI 1) a0b))) (a0f (a3i (a1k b6u (a0w (a2y K) (by rfl) B.len PySem.boot_len (a0a (pvI 2) a0b)) a0c (a2i _)) (a0i (a0z (a1c D_l_refused hr a1q (a0a (a2s (a1l K) rfl B.list c4j (a0a (pvI 0) a0b)) (a0a (a2s (a1l K) rfl B.list c4j (a0a (pvI 0) a0b)) (a0a (pvI 1) a0b)))))) a2m) (a0i (a0z (a7x (a6y K hu) (a0n (a1d K) (a1c D_meets hr b9s (a0a (a2s (a1l K) rfl B.list c4j (a0a (pvI 0) a0b)) (a0a (a2s (a1l K) rfl B.list c4j (a0a (pvI 0) a0b)) (a0a (pvI 1) a0b)))) a0c (fun _ _=>rfl)) (pvI 2) (a2i _)))))),?_⟩
 have hov:∀ p∈[Bp,(Bp.1+W.1,Bp.2+W.2),Bp]++[Bp,(Bp.1+W.1,Bp.2+W.2),Bp],OvP D m p:=fun p hp=>by
   simp only[c7e,List.nil_append,c2x,c3u,or_false] at hp
   rcases hp with rfl | rfl | rfl | rfl | rfl | rfl<;>assumption
 walk_at "rd"
 refine⟨hL,fun ld yd H1 s1 hld hyd hPd=>?_⟩
 have hyl:=hPd.len
 replace ha:=s1 _ _ ha
 replace hP:=hP.same s1
 walk_at "rd"
 refine ifB (fun hb=>?_) (fun hb=>?_)
 · have h6:L=6:=fold_six hL (by have:=of_decide_eq_true hb;omega)
   walk_at "rd"
   intro l1 hl1
   have t1:=Same.new (o:=.lst us) hl1
   walk_at "rd"
   intro l2 hl2
   have t2:=Same.new (o:=.lst us) hl2
   walk_at "rd"
   dsimp only[tNil]
   refine⟨l1,l2,us,us,_,_,D,m,L,rfl,t2 _ _ a0d,hP.same (t1.trans t2),a0d,hP.same (t1.trans t2),by simp,by simp,by simp,by simp,hD,zD,hm,hov,hL,by show L*2≤40;omega,by rw[h6];exact few_not hW,fun H9 s9=>?_⟩
   exact k H9 (s1.trans (t1.trans (t2.trans s9)))
 · have h5:L≤5:=c1c hL (by have:=of_decide_eq_false hb;omega)
   walk_at "rd"
   intro l1 hl1
   have t1:=Same.new (o:=.lst us) hl1
   walk_at "rd"
   intro l2 hl2
   have t2:=Same.new (o:=.lst us) hl2
   walk_at "rd"
   dsimp only[tNil]
   refine⟨l1,l2,us,us,_,_,D,m,L,rfl,t2 _ _ a0d,hP.same (t1.trans t2),a0d,hP.same (t1.trans t2),by simp,by simp,by simp,by simp,hD,zD,hm,hov,hL,by show L*2≤40;omega,fun c lf lh vf vh fl tt H9 s9 hc hlf hlh hf hh hne hPf hT hTo hFw=>?_,fun d fl tt H9 hd s9 hTo hbig=>few_big hW hTo (by omega) hbig⟩
   have hfl:=a8f hW hL hTo
   subst hfl
   walk_at "rd"
   have tt9:=t1.trans (t2.trans s9)
   refine⟨a5x (a6p L),a5x (a6p L),b2r hf hPf,b2r (tt9 _ _ hyd) (hPd.same tt9),a4l _ 6,a4l _ 6,fun b hb=>?_⟩
   rw[hb.mpr rfl]
   exact k H9 (s1.trans tt9)
theorem b9z(F:a0s K mg "_law_part" a5m ["_law_one","_law_other"]):a1e P w K mg base CX0 1 "_law_part" ["_law_one","_law_other"] spPart:=by
 refine a1i F b2b (fun vs H Q E h=>?_) (fun f cdv A outer s H vs Q E hr h=>?_)
 · obtain⟨a,b,rfl,_⟩:=h;rfl
 obtain⟨a,b,rfl,h0,h1,k⟩:=h
 have hu:=hr.units
 refine⟨_,(a0f (a6k PassesOwn.never (a1k b6u (pvI 1) a0c (a2i _)) (a0i (a6d (i:=0) (j:=1) rfl b2b.nd rfl rfl (by decide) rfl rfl (a0a (pvI 1) (a0a (a0g a2h (pvI 0) (pvI 1)) a0b)) rfl))) (a0i (a0z (pvI 0)))),?_⟩
 refine b0q (fun σ H'=>∃ x y:Int,σ=[some (.int x),some (.int y)]∧H'=H∧0≤x∧0≤y∧c3s x y=c3s a b) (fun σ _=>match σ with | [_,some (.int y)]=>y.natAbs | _=>0) ⟨a,b,rfl,rfl,h0,h1,rfl⟩ ?_ ?_
 · rintro σ H' ⟨x,y,rfl,rfl,hx,hy,e⟩
   refine⟨_,rfl,_,_,rfl,rfl,_,rfl,b1f (fun hn=>?_) (fun hn=>?_)⟩
   · refine⟨_,rfl,_,rfl,_,rfl,_,_,rfl,rfl,hn,_,_,rfl,⟨_,_,rfl,rfl,hy,Int.emod_nonneg x (by omega),?_⟩,?_⟩
     · rw[emod_gcd x y hn];exact e
     · show (x % y).natAbs<y.natAbs
       have:=Int.emod_lt_of_pos x hn
       have:=Int.emod_nonneg x (b:=y) (by omega)
       omega
   · refine⟨_,rfl,?_⟩
     have hy0:y=0:=by omega
     subst hy0
     rw[Int.gcd_zero] at e
     have:x=(c3s a b:Int):=by omega
     show Q (.int x) H'
     rw[this];exact k
 · rintro σ H' Q Q' hq ⟨v,h1,i,j,e1,e2,b',e3,h3⟩
   exact⟨v,h1,i,j,e1,e2,b',e3,hq _ _ h3⟩
theorem b6w(F:a0s K mg "_law_share" a4i ["_law_top","_law_bottom"])(B:Blt mg)(D_l_part:a1e P w K mg base CX0 1 "_law_part" ["_law_one","_law_other"] spPart):a1e P w K mg base CX0 2 "_law_share" ["_law_top","_law_bottom"] b5d:=by
 refine a1i F b0f (fun vs H Q E h=>?_) (fun f cdv A outer s H vs Q E hr h=>?_)
 · obtain⟨a,b,rfl,_⟩:=h;rfl
 obtain⟨t,b,rfl,hb,hz,k⟩:=h
 have hu:=hr.units
 refine⟨_,(a0f (a0x (i:=2) b0f.nd rfl (Or.inl rfl) (a1c D_l_part hr a1q (a0a (a0w b6k (by rfl) B.abs PyProof.Rows.boot_abs (a0a (pvI 0) a0b)) (a0a (pvI 1) a0b)))) (a0i (a0z (a0t (a0a (a0g a4q (pvI 0) (pvI 2)) (a0a (a0g a4q (pvI 1) (pvI 2)) a0b)))))),?_⟩
 have g0:(c3s t b:Int)≠0:=b6c t b (by omega)
 have gz:Sz 9000 (c3s t b:Int):=hz.le (by
   rw[Int.natAbs_natCast]
   exact Nat.le_of_dvd (by omega) (Int.gcd_dvd_natAbs_right t b))
 refine⟨_,rfl,_,rfl,_,rfl,_,_,rfl,(by split<;>omega),by omega,?_⟩
 rw[gcd_abs]
 refine⟨_,rfl,_,rfl,_,_,rfl,rfl,⟨g0,gz⟩,_,rfl,_,rfl,_,_,rfl,rfl,⟨g0,gz⟩,(by show 2≤sizeLine;decide),fun p hp=>?_⟩
 have e:=a8k t b hb
 refine k _ _ (Same.new hp) ⟨p,rfl,?_⟩
 rw[a0d,← e.1,← e.2]
theorem b4e(F:a0s K mg "_law_stream" a3p ["_law_cell","_law_place"])(B:Blt mg):a1e P w K mg base CX0 1 "_law_stream" ["_law_cell","_law_place"] b5b:=by
 refine a1i F a3s (fun vs H Q E h=>?_) (fun f cdv A outer s H vs Q E hr h=>?_)
 · obtain⟨c,p,rfl,_⟩:=h;rfl
 obtain⟨c,p,rfl,k⟩:=h
 have hu:=hr.units
 refine⟨_,(a0f (a0x (i:=2) a3s.nd rfl (Or.inl rfl) (a0g a2h (a0g a2n (pvI 0) (a0g a1g a0c (pvI 1))) a0c)) (a0f (a0x (i:=3) a3s.nd rfl (Or.inl rfl) (a1m a0b)) (a0f (a4v PassesOwn.never rfl (a3f rfl B.range (a0a a0c a0b)) (a0k (i:=4) a3s.nd rfl (Or.inl rfl)) (a0f (a0x (i:=2) a3s.nd rfl (Or.inl rfl) (a0g a2h (a0g a2n (a0g a2n (a0g a1g (pvI 2) a0c) (a0g a1g a0c (pvI 4))) a0c) a0c)) (a0i (a3g (show PEi _ _ (tBM K _ _ _ _) from (a5u c4e c4p c4q a2q (pvI 3) (a0a (a0g b4b (pvI 2) a0c) a0b))))))) (a0i (a0z (a3u (a7t K) (pvI 3) (a4c a0c) a4p)))))),?_⟩
 refine⟨_,rfl,_,rfl,_,_,rfl,rfl,mulL (by decide) (by decide),_,_,rfl,rfl,_,_,rfl,rfl,pl,(c4d _),fun l hl=>?_⟩
 refine⟨25,rfl,by decide,by decide,a9b (n:=25) (fun i σ H'=>∃ (x:Int) (xs:List Int) (y:Option V),σ=[some (.int c),some (.int p),some (.int x),some (.ref l),y]∧Same H H'∧H' l=some (.lst (xs.map V.int))∧xs.length=i∧∀ z∈xs,0≤z) ⟨_,[],none,rfl,Same.new hl,a0d,rfl,fun _ h=>nomatch h⟩ ?_ ?_⟩
 · rintro i σ H2 hi ⟨x,xs,y,rfl,s2,h2,hlen,hx⟩
   refine⟨_,rfl,_,_,rfl,rfl,mulR (by decide) (by decide),_,rfl,_,_,rfl,rfl,mulL (by decide) (by decide),_,_,rfl,rfl,_,_,rfl,rfl,_,_,rfl,rfl,pl,?_⟩
   refine⟨_,rfl,.inl ⟨rfl,_,SqL.of h2⟩,_,rfl,_,_,rfl,rfl,⟨by decide,by decide⟩,l,_,_,rfl,rfl,h2,?_,?_⟩
   · rw[c2h,hlen];exact b8s (by omega)
   · refine⟨_,xs++[(x*48271+2*(0+(i:Int))+11) % 2147483647 / 64],_,rfl,fun b o e=>?_,?_,?_,?_⟩
     · rw[a0j (a0l e hl)];exact s2 b o e
     · rw[a0d,List.map_append];rfl
     · rw[c2k,hlen];rfl
     · intro z hz
       rcases c3n.mp hz with hz | hz
       · exact hx z hz
       · cases c3h.mp hz
         have:=Int.emod_nonneg (x*48271+2*(0+(i:Int))+11) (b:=2147483647) (by decide)
         exact Int.ediv_nonneg this (by decide)
 · rintro σ H2 ⟨x,xs,y,rfl,s2,h2,hlen,hx⟩
   refine⟨_,rfl,1,rfl,l,_,rfl,SqL.of h2,fun q hq=>?_⟩
   rw[cut_one xs (by omega)]
   exact k q (xs.drop 1) _ (s2.trans (Same.new hq)) a0d (by rw[c3k,hlen]) fun z hz=>hx z (c4f hz)
theorem ok_law(F:a0s K mg "law" a5r ["_law_script"])(B:Blt mg){C_TooMany:Addr}(D_l_all:a1e P w K mg base CX0 1 "_law_all" ["_law_level"] (spAllL K))(D_l_cell_at:a1e P w K mg base CX0 1 "_law_cell_at" ["_law_script","_law_k"] (spCell K))(D_meets:a1e P w K mg base (CXx P w) 7 "meets" ["one","other","level"] (a7s K C_TooMany))(D_l_refused:a1e P w K mg base CX0 8 "_law_refused" ["_law_one","_law_other","_law_level"] (a8h K))(D_l_folded_good:a1e P w K mg base CX0 9 "_law_folded_good" ["_law_curve","_law_level"] (b0c K))(D_l_share:a1e P w K mg base CX0 2 "_law_share" ["_law_top","_law_bottom"] b5d)(D_l_stream:a1e P w K mg base CX0 1 "_law_stream" ["_law_cell","_law_place"] b5b):a1e P w K mg base CX0 10 "law" ["_law_script"] (spLaw K):=by
 refine a1i F a3y (fun vs H Q E h=>?_) (fun f cdv A outer s H vs Q E hr h=>?_)
 · obtain⟨a,ns,rfl,_⟩:=h;rfl
 obtain⟨a,ns,rfl,hS,hlen,k⟩:=h
 have hu:=hr.units
 refine cutI (List.drop 12 (a0p a5r)) (a0f (a0x (i:=12) a3y.nd rfl (Or.inr rfl) (a0t (a0a (a1c D_l_share hr a1q (a0a (a0g a2n (a0n (a0r K) (pvI 4) a0c (fun _ _=>rfl)) (a0n (a1d K) (pvI 9) a0c (fun _ _=>rfl))) (a0a (pvI 3) a0b))) (a0a (a1c D_l_share hr a1q (a0a (a0g a2n (a0n (a0r K) (pvI 4) a0c (fun _ _=>rfl)) (a0n (a1d K) (pvI 9) a0c (fun _ _=>rfl))) (a0a (pvI 3) a0b))) a0b)))) (a0f (a0x (i:=13) a3y.nd rfl (Or.inl rfl) (a1c D_meets hr b9s (a0a (a2s (a1l K) rfl B.list c4j (a0a (pvI 6) a0b)) (a0a (a3j (os:=["_law_k"]) (caps:=[(12,"_law_far")]) ["_law_script","_law_cell","_law_s","_law_bottom","_law_tops","_law_place","_law_one","_law_other","_law_level","_law_way","_law_base","_law_turn","_law_far","_law_found"] (a0e a5r) (a3f rfl B.range (a0a (a0w (a2y K) (by rfl) B.len PySem.boot_len (a0a (pvI 7) a0b)) a0b)) (fun _ _ _ _ _=>(a0k (i:=0) (show c3x (["_law_k","_law_far"]:List Str) from by decide +kernel) rfl (Or.inl rfl))) (fun _ _ _ _ _=>(pvI 1)) (by decide +kernel)) (a0a (a0g a2h (a0n (a0r K) (pvI 2) a0c (fun _ _=>rfl)) a0c) a0b))))) (a0i (a0z (b1b (a7x (a6y K hu) (a0n (a1d K) (pvI 13) a0c (fun _ _=>rfl)) (a1m a0b) (a2i _)) (b1b (a7x op_eq (a0w (a2y K) (by rfl) B.len PySem.boot_len (a0a (a0n (a1d K) (pvI 13) a0c (fun _ _=>rfl)) a0b)) a0c (a2i _)) (b9k (a7x (a6y K hu) (a3u (b3p K) (a0n (a0r K) (a0n (a1d K) (pvI 13) a0c (fun _ _=>rfl)) a0c (fun _ _=>rfl)) a4p (a4c a0c)) (a0t (a0a a0c (a0a a0c (a0a a0c a0b)))) (a2i _))))))))) (fun R4 hc4 e4=>?_)
 refine cutI (List.drop 10 (a0p a5r)) (a0f (a0x (i:=9) a3y.nd rfl (Or.inl rfl) (a0n (a0r K) (a1m (a0a (a0t (a0a a0c (a0a (a0g a2n a0c (a0g a2h (a0n (a0r K) (pvI 2) a0c (fun _ _=>rfl)) a0c)) a0b))) (a0a (a0t (a0a (a0g a2n a0c (a0g a2h (a0n (a0r K) (pvI 2) a0c (fun _ _=>rfl)) a0c)) (a0a a0c a0b))) (a0a (a0t (a0a (a0g a3b (a0g a3b a0c a0c) (a0g a2h (a0n (a0r K) (pvI 2) a0c (fun _ _=>rfl)) a0c)) (a0a (a0g a2h (a0n (a0r K) (pvI 2) a0c (fun _ _=>rfl)) a0c) a0b))) a0b)))) (a0g a2h (a0n (a0r K) (pvI 2) a0c (fun _ _=>rfl)) a0c) (fun _ _=>rfl))) (a0f (a3i (a1k op_eq (a0g a2h (a0n (a0r K) (pvI 2) a0c (fun _ _=>rfl)) a0c) a0c (a2i _)) (a0f (a0x (i:=10) a3y.nd rfl (Or.inl rfl) (a0t (a0a (a1c D_l_share hr a1q (a0a (a0g a3b (a0g a2h (a0n (a0r K) (pvI 2) a0c (fun _ _=>rfl)) a0c) a0c) (a0a (pvI 3) a0b))) (a0a (a1c D_l_share hr a1q (a0a (a0g a3b (a0g a2h (a0n (a0r K) (pvI 2) a0c (fun _ _=>rfl)) a0c) a0c) (a0a (pvI 3) a0b))) a0b)))) (a0f (a0x (i:=11) a3y.nd rfl (Or.inl rfl) (a0t (a0a (a1c D_l_share hr a1q (a0a (a0g a2n (a0g a3b (a0g a2h (a0n (a0r K) (pvI 2) a0c (fun _ _=>rfl)) a0c) a0c) (a0n (a1d K) (pvI 9) a0c (fun _ _=>rfl))) (a0a (pvI 3) a0b))) (a0a (a1c D_l_share hr a1q (a0a (a0g a2n (a0g a3b (a0g a2h (a0n (a0r K) (pvI 2) a0c (fun _ _=>rfl)) a0c) a0c) (a0n (a1d K) (pvI 9) a0c (fun _ _=>rfl))) (a0a (pvI 3) a0b))) a0b)))) (a0i (a3i (b9b (b3w (a1c D_l_folded_good hr a1q (a0a (a1m (a0a (pvI 10) (a0a (pvI 11) (a0a (pvI 10) a0b)))) (a0a (a0n (a0r K) (a1m (a0a a0c (a0a a0c (a0a a0c (a0a a0c a0b))))) (a0g a2h (a0n (a0r K) (pvI 2) a0c (fun _ _=>rfl)) a0c) (fun _ _=>rfl)) a0b))))) (a0i (a0z b2i)) a2m)))) a2m) hc4)) (fun R3 hc3 e3=>?_)
 refine cutI (List.drop 8 (a0p a5r)) (a0f (a3i (a1k (op_neDK K hu) (a1c D_meets hr b9s (a0a (a2s (a1l K) rfl B.list c4j (a0a (pvI 6) a0b)) (a0a (a2s (a1l K) rfl B.list c4j (a0a (pvI 7) a0b)) (a0a (pvI 8) a0b)))) (a0t (a0a (a1c D_l_all hr a1q (a0a (pvI 8) a0b)) (a0a (a1m a0b) a0b))) (a2i _)) (a0i (a0z b2i)) a2m) (a0f (a3i (PW_ptI (b9a (a1k op_eq (a0g a2h (a0n (a0r K) (pvI 2) a0c (fun _ _=>rfl)) a0c) a0c (a2i _)) (b5n (b9b (b3w (a1c D_l_refused hr a1q (a0a (a2s (a1l K) rfl B.list c4j (a0a (pvI 6) a0b)) (a0a (a2s (a1l K) rfl B.list c4j (a0a (pvI 7) a0b)) (a0a (a0g a2n a0c (a0g a2h (a0n (a0r K) (pvI 2) a0c (fun _ _=>rfl)) a0c)) a0b))))))))) (a0i (a0z b2i)) a2m) hc3)) (fun R2 hc2 e2=>?_)
 refine cutI (List.drop 5 (a0p a5r)) (a0f (a6l (i:=6) (os:=["_law_k"]) (caps:=[(5,"_law_place")]) ["_law_script","_law_cell","_law_s","_law_bottom","_law_tops","_law_place","_law_one","_law_other","_law_level","_law_way","_law_base","_law_turn","_law_far","_law_found"] (a0e a5r) a3y.nd rfl rfl (a3f rfl B.range (a0a (a0g a2n a0c (a0g a2h (a0n (a0r K) (pvI 2) a0c (fun _ _=>rfl)) a0c)) a0b)) (fun _ _ _ _ _=>(a0k (i:=0) (show c3x (["_law_k","_law_place"]:List Str) from by decide +kernel) rfl (Or.inl rfl))) (fun _ _ _ _ _=>(pvI 1)) (by decide +kernel)) (a0f (a6l (i:=7) (os:=["_law_k"]) (caps:=[(5,"_law_place")]) ["_law_script","_law_cell","_law_s","_law_bottom","_law_tops","_law_place","_law_one","_law_other","_law_level","_law_way","_law_base","_law_turn","_law_far","_law_found"] (a0e a5r) a3y.nd rfl rfl (a3f rfl B.range (a0a (a0g a2n a0c (a0g a2h (a0n (a0r K) (pvI 2) a0c (fun _ _=>rfl)) a0c)) a0b)) (fun _ _ _ _ _=>(a0k (i:=0) (show c3x (["_law_k","_law_place"]:List Str) from by decide +kernel) rfl (Or.inl rfl))) (fun _ _ _ _ _=>(pvI 1)) (by decide +kernel)) (a0f (a0x (i:=8) a3y.nd rfl (Or.inl rfl) (a0n (a0r K) (a1m (a0a a0c (a0a a0c (a0a a0c (a0a a0c (a0a a0c (a0a a0c (a0a a0c (a0a a0c a0b))))))))) (a0g a2h (a0n (a0r K) (pvI 2) a0c (fun _ _=>rfl)) a0c) (fun _ _=>rfl))) hc2))) (fun R1 hc1 e1=>?_)
 refine⟨_,(a0f (a0x (i:=1) a3y.nd rfl (Or.inl rfl) (a1c D_l_cell_at hr a1q (a0a (pvI 0) (a0a a0c a0b)))) (a0f (a0x (i:=2) a3y.nd rfl (Or.inl rfl) (a1c D_l_stream hr a1q (a0a (a1c D_l_cell_at hr a1q (a0a (pvI 0) (a0a a0c a0b))) (a0a a0c a0b)))) (a0f (a0x (i:=3) a3y.nd rfl (Or.inl rfl) (a0g a2n a0c (a0g a2h (a0n (a0r K) (pvI 2) a0c (fun _ _=>rfl)) a0c))) (a0f (a0x (i:=4) a3y.nd rfl (Or.inl rfl) (a1m (a0a (a0g a1g (a0g a2h (pvI 1) (a0g b9v a0c a0c)) (a0g a3b a0c (a0g a1g a0c (a0g a2h (a0n (a0r K) (pvI 2) a0c (fun _ _=>rfl)) a0c)))) (a0a (a0g a3b (a0g a2h (a1c D_l_cell_at hr a1q (a0a (pvI 0) (a0a a0c a0b))) (a0g b9v a0c a0c)) (a0g b9v a0c a0c)) a0b)))) (a0f (a0x (i:=5) a3y.nd rfl (Or.inr rfl) (a0t (a0a (a1c D_l_share hr a1q (a0a (a0n (a0r K) (pvI 4) a0c (fun _ _=>rfl)) (a0a (pvI 3) a0b))) (a0a (a1c D_l_share hr a1q (a0a (a0n (a0r K) (pvI 4) a0c (fun _ _=>rfl)) (a0a (pvI 3) a0b))) a0b)))) hc1))))),?_⟩
 walk_at "rd"
 refine⟨a,ns,0,rfl,hS,by omega,fun z0=>?_⟩
 walk_at "rd"
 refine⟨a,ns,1,rfl,hS,by omega,fun z1=>?_⟩
 walk_at "rd"
 dsimp only[tNil]
 refine⟨z1,2,rfl,fun l xs H1 s1 hl hxl hx0=>?_⟩
 replace hS:=SqL.same' hS s1
 walk_at "rd"
 dsimp only[tNil]
 refine⟨a,ns,2,rfl,hS,by omega,fun z2=>?_⟩
 walk_at "rd"
 have e30:(10:Int)^c3p 30=1000000000000000000000000000000:=by decide
 have e6:(10:Int)^c3p 6=1000000:=by decide
 dsimp only
 rw[e30,e6]
 have zT0:Sz 101 (z0 % 1000000000000000000000000000000*(1 - 2*(xs.getD (c3p 1) 0 % 2))):=by
   have:xs.getD (c3p 1) 0 % 2=0∨xs.getD (c3p 1) 0 % 2=1:=by omega
   rcases this with z | z<;>rw[z]<;>exact a5q (b:=1000000000000000000000000000000) (by omega) (by decide)
 have zT1:Sz 101 (z2 % 1000000000000000000000000000000 - 1000000):=a5q (b:=1000000000000000000000000000000) (by omega) (by decide)
 have hB:1≤1+xs.getD (c3p 0) 0 % 12∧1+xs.getD (c3p 0) 0 % 12≤12:=by omega
 generalize z0 % 1000000000000000000000000000000*(1 - 2*(xs.getD (c3p 1) 0 % 2))=T0 at *
 generalize z2 % 1000000000000000000000000000000 - 1000000=T1 at *
 generalize 1+xs.getD (c3p 0) 0 % 12=BB at *
 obtain⟨hB1,hB2⟩:=hB
 have zB:Sz 4 BB:=a5q (b:=12) (by omega) (by decide)
 intro lt hlt
 have s2:=Same.new (o:=.lst [.int T0,.int T1]) hlt
 have ht:=a0d (H:=H1) (a:=lt) (o:=.lst [.int T0,.int T1])
 generalize upd H1 lt (.lst [.int T0,.int T1])=H2 at *
 have gl:=s2 _ _ hl
 walk_at "rd"
 dsimp only[tNil]
 refine⟨T0,BB,rfl,by omega,zB.mono (by decide),fun v1 H3 s3 hv1=>?_⟩
 replace ht:=s3 _ _ ht
 walk_at "rd"
 dsimp only[tNil]
 refine⟨T1,BB,rfl,by omega,zB.mono (by decide),fun v2 H4 s4 hv2=>?_⟩
 walk_at "rd"
 intro tp htp
 have s5:=Same.new (o:=.tup [v1,v2]) htp
 have hp:=a0d (H:=H4) (a:=tp) (o:=.tup [v1,v2])
 generalize upd H4 tp (.tup [v1,v2])=H5 at *
 have oP:OvP BB 101 (c2i T0 BB,c2i T1 BB):=⟨a4y (by omega) zT0,a4y (by omega) zT1⟩
 have hPl:PtV H5 (.ref tp) (c2i T0 BB) (c2i T1 BB):=⟨tp,v1,v2,rfl,hp,(hv1.same s4).same s5,hv2.same s5⟩
 replace ht:=s5 _ _ (s4 _ _ ht)
 replace gl:=s5 _ _ (s4 _ _ (s3 _ _ gl))
 replace hS:=SqL.same' hS (s2.trans (s3.trans (s4.trans s5)))
 clear s2 s3 s4 s5 hv1 hv2 hp htp hlt hl s1
 subst e1
 walk_at "rd"
 refine⟨by omega,by omega,?_⟩
 generalize en1:(1+xs.getD (c3p 2) 0 % 3).toNat=n1
 have hn1:1≤n1∧n1≤3:=by omega
 refine b2w (a3t 0 _ _) (by omega) (fun _ v _=>v=.ref tp) (fun _ _ _ _ _ h=>h) (fun j H6 kk hj s6 hk=>?_) (fun la ys H6 hla s6 ha hyl hy=>?_)
 · walk_at "rd"
   exact hk _ _ (L2.Same.refl _) rfl
 have hP1:=b3v (hPl.same s6) hyl hy
 replace hPl:=hPl.same s6
 replace ht:=s6 _ _ ht
 replace gl:=s6 _ _ gl
 replace hS:=SqL.same' hS s6
 clear s6 hy hyl
 walk_at "rd"
 refine⟨by omega,by omega,?_⟩
 generalize en2:(1+xs.getD (c3p 3) 0 % 3).toNat=n2
 have hn2:1≤n2∧n2≤3:=by omega
 refine b2w (a3t 0 _ _) (by omega) (fun _ v _=>v=.ref tp) (fun _ _ _ _ _ h=>h) (fun j H7 kk hj s7 hk=>?_) (fun lb ws H7 hlb s7 hb hyl hy=>?_)
 · walk_at "rd"
   exact hk _ _ (L2.Same.refl _) rfl
 have hP2:=b3v (hPl.same s7) hyl hy
 replace hPl:=hPl.same s7
 replace hP1:=hP1.same s7
 replace ha:=s7 _ _ ha
 replace ht:=s7 _ _ ht
 replace gl:=s7 _ _ gl
 replace hS:=SqL.same' hS s7
 clear s7 hy
 walk_at "rd"
 intro lz hlz
 have s8:=Same.new (o:=.lst [V.int 1,V.int 2,V.int 0,V.int 3,V.int 2,V.int 1,V.int 4,V.int 2]) hlz
 have hz:=a0d (H:=H7) (a:=lz) (o:=.lst [V.int 1,V.int 2,V.int 0,V.int 3,V.int 2,V.int 1,V.int 4,V.int 2])
 generalize upd H7 lz (.lst [V.int 1,V.int 2,V.int 0,V.int 3,V.int 2,V.int 1,V.int 4,V.int 2])=H8 at *
 replace hPl:=hPl.same s8
 replace hP1:=hP1.same s8
 replace hP2:=hP2.same s8
 replace ha:=s8 _ _ ha
 replace hb:=s8 _ _ hb
 replace ht:=s8 _ _ ht
 replace gl:=s8 _ _ gl
 clear s8
 walk_at "rd"
 obtain⟨v4,hv4,hm4⟩:=c1s [V.int 1,V.int 2,V.int 0,V.int 3,V.int 2,V.int 1,V.int 4,V.int 2] (xs.getD (c3p 4) 0 % 8) (by omega) (by show _<(8:Int);omega)
 have hL0:∃ L:Nat,v4=V.int (L:Int)∧L≤4:=by
   simp only[c2x,c3u,or_false] at hm4
   rcases hm4 with rfl | rfl | rfl | rfl | rfl | rfl | rfl | rfl
   · exact⟨1,rfl,by decide⟩
   · exact⟨2,rfl,by decide⟩
   · exact⟨0,rfl,by decide⟩
   · exact⟨3,rfl,by decide⟩
   · exact⟨2,rfl,by decide⟩
   · exact⟨1,rfl,by decide⟩
   · exact⟨4,rfl,by decide⟩
   · exact⟨2,rfl,by decide⟩
 obtain⟨L,rfl,hL⟩:=hL0
 refine⟨lz,_,_,_,rfl,rfl,SqL.of hz,hv4,?_⟩
 clear hv4 hm4 hz hlz
 have k1:1≤(c2n n1 (c2i T0 BB,c2i T1 BB)).length:=by rw[c2r];omega
 have k2:1≤(c2n n2 (c2i T0 BB,c2i T1 BB)).length:=by rw[c2r];omega
 have j1:(c2n n1 (c2i T0 BB,c2i T1 BB)).length≤3:=by rw[c2r];omega
 have j2:(c2n n2 (c2i T0 BB,c2i T1 BB)).length≤3:=by rw[c2r];omega
 have al1:=b3u (P:=(c2i T0 BB,c2i T1 BB)) (n:=n1)
 have al2:=b3u (P:=(c2i T0 BB,c2i T1 BB)) (n:=n2)
 have hov:∀ p∈c2n n1 (c2i T0 BB,c2i T1 BB)++c2n n2 (c2i T0 BB,c2i T1 BB),OvP BB 101 p:=fun p hp=>by
   rcases c3n.mp hp with hp | hp
   · rw[al1 p hp];exact oP
   · rw[al2 p hp];exact oP
 generalize eQ1:c2n n1 (c2i T0 BB,c2i T1 BB)=Q1 at *
 generalize eQ2:c2n n2 (c2i T0 BB,c2i T1 BB)=Q2 at *
 have hmx:∀ d,d≤6→d*(max Q1.length Q2.length - 1)≤40:=fun d hd=>by
   have:=Nat.mul_le_mul hd (show max Q1.length Q2.length - 1≤2 by omega)
   omega
 subst e2
 walk_at "rd"
 intro l1 hl1
 have s9:=Same.new (o:=.lst ys) hl1
 have h1:=a0d (H:=H8) (a:=l1) (o:=.lst ys)
 generalize upd H8 l1 (.lst ys)=H9 at *
 have hb9:=s9 _ _ hb
 walk_at "rd"
 intro l2 hl2
 have s10:=Same.new (o:=.lst ws) hl2
 have h2:=a0d (H:=H9) (a:=l2) (o:=.lst ws)
 generalize upd H9 l2 (.lst ws)=H10 at *
 walk_at "rd"
 dsimp only[tNil]
 refine⟨l1,l2,ys,ws,Q1,Q2,BB,101,L,rfl,s10 _ _ h1,(hP1.same s9).same s10,h2,(hP2.same s9).same s10,k1,by omega,k2,by omega,by omega,zB.mono (by decide),by decide,hov,by omega,hmx L (by omega),fun c lf lh vf vh fl tt H11 s11 hc hlf hlh hf hh hne hPf hT hTo hFw=>?_,fun d fl tt H11 hd s11 hTo hbig=>c1z al1 al2 k1 k2 hTo (by omega) hbig⟩
 have hM:∀ e p,e≤L→InL e p→MQ Q1 Q2 e p:=fun e p _ i=>b1e al1 al2 k1 k2 e p i
 have e1:=hTo.allPr hM
 have e2:=(hTo.alls hM).1
 subst e1 e2
 have hvh:vh=[]:=c6t hT.len
 subst hvh
 walk_at "rd"
 refine⟨by omega,fun lA yA H12 s12 hlA hA hPA=>?_⟩
 walk_at "rd"
 intro le hle
 have s13:=Same.new (o:=.lst []) hle
 have he:=a0d (H:=H12) (a:=le) (o:=.lst [])
 generalize upd H12 le (.lst [])=H13 at *
 walk_at "rd"
 intro tq htq
 have s14:=Same.new (o:=.tup [.ref lA,.ref le]) htq
 have hq:=a0d (H:=H13) (a:=tq) (o:=.tup [.ref lA,.ref le])
 generalize upd H13 tq (.tup [.ref lA,.ref le])=H14 at *
 have sx:=s12.trans (s13.trans s14)
 have sy:=s13.trans s14
 refine⟨_,_,dnTup2 (sx _ _ hc) (b2r (sx _ _ hf) (hPf.same sx)) (b2r (sx _ _ hh) (PlsV.nil _)),dnTup2 hq (b2r (sy _ _ hA) (hPA.same sy)) (b2r (s14 _ _ he) (PlsV.nil _)),b6h _ _,b6h _ _,fun b hb2=>?_⟩
 rw[hb2.mpr rfl]
 have sz:=s9.trans (s10.trans (s11.trans sx))
 replace hPl:=hPl.same sz
 replace hP1:=hP1.same sz
 replace hP2:=hP2.same sz
 replace ha:=sz _ _ ha
 replace hb:=sz _ _ hb
 replace ht:=sz _ _ ht
 replace gl:=sz _ _ gl
 clear sz sx sy s9 s10 s11 s12 s13 s14 hq he hA hPA hh hf hPf hc hT hTo hFw hM hle hlA hlf hlh htq h1 h2 hl1 hl2 hb9 hb2
 refine⟨_,rfl,ifF rfl ?_⟩
 have go:∀ H',Same H14 H'→R3 { nx:=fun _ H'=>Q V.non H',rt:=Q } [some (.ref a),some (.int z0),some (.ref l),some (.int BB),some (.ref lt),some (.ref tp),some (.ref la),some (.ref lb),some (.int (L:Int)),none,none,none,none,none] H':=by
   intro H15 s15
   replace hPl:=hPl.same s15
   replace hP1:=hP1.same s15
   replace hP2:=hP2.same s15
   replace ha:=s15 _ _ ha
   replace hb:=s15 _ _ hb
   replace ht:=s15 _ _ ht
   replace gl:=s15 _ _ gl
   clear s15
   subst e3
   walk_at "rd"
   intro t1 ht1
   have u1:=Same.new (o:=.tup [.int 0,.int (1+xs.getD (c3p 6) 0 % 5)]) ht1
   have f1:=a0d (H:=H15) (a:=t1) (o:=.tup [.int 0,.int (1+xs.getD (c3p 6) 0 % 5)])
   generalize upd H15 t1 (.tup [.int 0,.int (1+xs.getD (c3p 6) 0 % 5)])=H16 at *
   replace gl:=u1 _ _ gl
   walk_at "rd"
   intro t2 ht2
   have u2:=Same.new (o:=.tup [.int (1+xs.getD (c3p 6) 0 % 5),.int 0]) ht2
   have f2:=a0d (H:=H16) (a:=t2) (o:=.tup [.int (1+xs.getD (c3p 6) 0 % 5),.int 0])
   generalize upd H16 t2 (.tup [.int (1+xs.getD (c3p 6) 0 % 5),.int 0])=H17 at *
   replace gl:=u2 _ _ gl
   replace f1:=u2 _ _ f1
   walk_at "rd"
   intro t3 ht3
   have u3:=Same.new (o:=.tup [.int (0 - 1 - xs.getD (c3p 7) 0 % 9),.int (xs.getD (c3p 6) 0 % 9)]) ht3
   have f3:=a0d (H:=H17) (a:=t3) (o:=.tup [.int (0 - 1 - xs.getD (c3p 7) 0 % 9),.int (xs.getD (c3p 6) 0 % 9)])
   generalize upd H17 t3 (.tup [.int (0 - 1 - xs.getD (c3p 7) 0 % 9),.int (xs.getD (c3p 6) 0 % 9)])=H18 at *
   replace gl:=u3 _ _ gl
   replace f1:=u3 _ _ f1
   replace f2:=u3 _ _ f2
   walk_at "rd"
   intro lw hlw
   have u4:=Same.new (o:=.lst [.ref t1,.ref t2,.ref t3]) hlw
   have f4:=a0d (H:=H18) (a:=lw) (o:=.lst [.ref t1,.ref t2,.ref t3])
   generalize upd H18 lw (.lst [.ref t1,.ref t2,.ref t3])=H19 at *
   replace gl:=u4 _ _ gl
   walk_at "rd"
   obtain⟨v8,hv8,hm8⟩:=c1s [V.ref t1,V.ref t2,V.ref t3] (xs.getD (c3p 8) 0 % 3) (by omega) (by show _<(3:Int);omega)
   have hw0:∃ (tw:Addr) (w0 w1:Int),v8=V.ref tw∧H19 tw=some (.tup [.int w0,.int w1])∧(w0≠0∨w1≠0)∧-10≤w0∧w0≤10∧0≤w1∧w1≤10:=by
     simp only[c2x,c3u,or_false] at hm8
     rcases hm8 with rfl | rfl | rfl
     · exact⟨t1,_,_,rfl,u4 _ _ f1,by omega,by omega,by omega,by omega,by omega⟩
     · exact⟨t2,_,_,rfl,u4 _ _ f2,by omega,by omega,by omega,by omega,by omega⟩
     · exact⟨t3,_,_,rfl,u4 _ _ f3,by omega,by omega,by omega,by omega,by omega⟩
   obtain⟨tw,w0,w1,rfl,hw,hne,hw1,hw2,hw3,hw4⟩:=hw0
   refine⟨lw,_,_,_,rfl,rfl,SqL.of f4,hv8,?_⟩
   have sw:=u1.trans (u2.trans (u3.trans u4))
   replace hPl:=hPl.same sw
   replace hP1:=hP1.same sw
   replace hP2:=hP2.same sw
   replace ha:=sw _ _ ha
   replace hb:=sw _ _ hb
   replace ht:=sw _ _ ht
   clear sw u1 u2 u3 u4 f1 f2 f3 f4 hv8 hm8 ht1 ht2 ht3 hlw
   have go2:∀ (y10 y11:Option V) H',Same H19 H'→R4 { nx:=fun _ H'=>Q V.non H',rt:=Q } [some (.ref a),some (.int z0),some (.ref l),some (.int BB),some (.ref lt),some (.ref tp),some (.ref la),some (.ref lb),some (.int (L:Int)),some (.ref tw),y10,y11,none,none] H':=by
     intro y10 y11 H20 s20
     replace hPl:=hPl.same s20
     replace hP1:=hP1.same s20
     replace hP2:=hP2.same s20
     replace ha:=s20 _ _ ha
     replace hb:=s20 _ _ hb
     replace ht:=s20 _ _ ht
     replace gl:=s20 _ _ gl
     replace hw:=s20 _ _ hw
     clear s20
     subst e4
     walk_at "rd"
     dsimp only[tNil]
     refine⟨T0+w0,BB,rfl,by omega,zB.mono (by decide),fun v1 H21 s21 hv1=>?_⟩
     replace ht:=s21 _ _ ht
     replace hw:=s21 _ _ hw
     walk_at "rd"
     dsimp only[tNil]
     refine⟨T1+w1,BB,rfl,by omega,zB.mono (by decide),fun v2 H22 s22 hv2=>?_⟩
     walk_at "rd"
     intro tf htf
     have s23:=Same.new (o:=.tup [v1,v2]) htf
     have hp:=a0d (H:=H22) (a:=tf) (o:=.tup [v1,v2])
     generalize upd H22 tf (.tup [v1,v2])=H23 at *
     have hF:PtV H23 (.ref tf) (c2i (T0+w0) BB) (c2i (T1+w1) BB):=⟨tf,v1,v2,rfl,hp,(hv1.same s22).same s23,hv2.same s23⟩
     have sv:=s21.trans (s22.trans s23)
     replace hP1:=hP1.same sv
     replace ha:=sv _ _ ha
     replace hb:=sv _ _ hb
     replace gl:=sv _ _ gl
     clear sv s21 s22 s23 hp hv1 hv2 htf ht hw hPl
     walk_at "rd"
     intro l1 hl1
     have s9:=Same.new (o:=.lst ys) hl1
     have h1:=a0d (H:=H23) (a:=l1) (o:=.lst ys)
     generalize upd H23 l1 (.lst ys)=H24 at *
     replace hb:=s9 _ _ hb
     replace gl:=s9 _ _ gl
     walk_at "rd"
     refine⟨by omega,by omega,?_⟩
     generalize en3:((ws.length:Nat):Int).toNat=n3
     have hn3:1≤n3∧n3≤3:=by omega
     refine b2w (a3t 0 _ _) (by omega) (fun _ v _=>v=.ref tf) (fun _ _ _ _ _ h=>h) (fun j H25 kk hj s25 hk=>?_) (fun lc us H25 hlc s25 hc hul hu9=>?_)
     · walk_at "rd"
       exact hk _ _ (L2.Same.refl _) rfl
     have hP3:=b3v ((hF.same s9).same s25) hul hu9
     have al3:=b3u (P:=(c2i (T0+w0) BB,c2i (T1+w1) BB)) (n:=n3)
     have k3:(c2n n3 (c2i (T0+w0) BB,c2i (T1+w1) BB)).length=n3:=c2r
     have oF:OvP BB 103 (c2i (T0+w0) BB,c2i (T1+w1) BB):=⟨a4y (by omega) ((zT0.add (a5q (n:=101) (b:=10) (by omega) (by decide))).mono (by decide)),a4y (by omega) ((zT1.add (a5q (n:=101) (b:=10) (by omega) (by decide))).mono (by decide))⟩
     generalize c2n n3 (c2i (T0+w0) BB,c2i (T1+w1) BB)=Q3 at *
     replace gl:=s25 _ _ gl
     have hov3:∀ p∈Q1++Q3,OvP BB 103 p:=fun p hp=>by
       rcases c3n.mp hp with hp | hp
       · exact⟨(hov p (c3n.mpr (.inl hp))).1.mono (by decide),(hov p (c3n.mpr (.inl hp))).2.mono (by decide)⟩
       · rw[al3 p hp];exact oF
     obtain⟨d,ed,hd6⟩ : ∃ d:Nat,xs.getD (c3p 9) 0 % 7=(d:Int)∧d≤6:=⟨(xs.getD (c3p 9) 0 % 7).toNat,by omega,by omega⟩
     have hd4:d*(max Q1.length Q3.length - 1)≤40:=by
       have:=Nat.mul_le_mul hd6 (show max Q1.length Q3.length - 1≤2 by omega)
       omega
     have hap:=mq_apart al1 al3 (dv_neP (by omega) hne)
     walk_at "rd"
     dsimp only[tNil]
     rw[ed]
     refine⟨l1,lc,ys,us,Q1,Q3,BB,103,d,rfl,s25 _ _ h1,(hP1.same s9).same s25,hc,hP3,k1,by omega,by omega,by omega,by omega,zB.mono (by decide),by decide,hov3,by omega,hd4,fun c lf lh vf vh fl tt H26 s26 hc hlf hlh hf hh hn4 hPf hT hTo hFw=>?_,fun e fl tt H26 he s26 hTo hbig=>by rw[(hTo.nones hap).1] at hbig;simp at hbig⟩
     obtain⟨ef,et⟩:=hTo.nones hap
     subst ef et
     have hvf:vf=[]:=c6t hPf.len
     subst hvf
     obtain⟨v9,rfl⟩ : ∃ v9,vh=[v9]:=by
       match vh,hT.len with
       | [x],_=>exact⟨x,rfl⟩
     obtain⟨t9,q1,q2,q3,_,_,_,rfl,ht9,_⟩:=hT.get 0 _ _ rfl rfl
     walk_at "rd"
     intro le hle
     have s27:=Same.new (o:=.lst []) hle
     have he:=a0d (H:=H26) (a:=le) (o:=.lst [])
     generalize upd H26 le (.lst [])=H27 at *
     replace hc:=s27 _ _ hc
     replace hh:=s27 _ _ hh
     replace ht9:=s27 _ _ ht9
     refine⟨a5x [],a5x [],b2r (s27 _ _ hf) (PlsV.nil _),b2r he (PlsV.nil _),a4l _ 6,a4l _ 6,fun b hb=>?_⟩
     rw[hb.mpr rfl]
     refine⟨_,rfl,ifT rfl ?_⟩
     walk_at "rd"
     refine⟨t9,_,rfl,SqT.of ht9,by show ¬ (HT.sIx 6 0 none=0∧HT.sIx 6 6 (some 3)=6);decide,fun p hp=>?_⟩
     have f9:(upd H27 p (.tup (cutV [V.int ((0:Nat):Int),V.int 0,V.int 0,q1,q2,q3] none (some 3)))) p=some (.tup [.int 0,.int 0,.int 0]):=a0d
     generalize upd H27 p (.tup (cutV [V.int ((0:Nat):Int),V.int 0,V.int 0,q1,q2,q3] none (some 3)))=H28 at *
     walk_at "rd"
     intro p2 hp2
     refine⟨_,_,dn000 (a2k hp2 f9),dn000 a0d,rfl,rfl,fun b hb=>?_⟩
     rw[hb.mpr rfl]
     exact k _
   walk_at "rd"
   dsimp only
   refine ifB (fun z=>?_) (fun z=>?_)
   rotate_left
   · exact go2 _ _ _ (L2.Same.refl _)
   have zc:-4≤xs.getD (c3p 13) 0 % 9 - 4∧xs.getD (c3p 13) 0 % 9 - 4≤4:=by omega
   have zd:-4≤xs.getD (c3p 14) 0 % 9 - 4∧xs.getD (c3p 14) 0 % 9 - 4≤4:=by omega
   walk_at "rd"
   dsimp only[tNil]
   refine⟨_,BB,rfl,by omega,zB.mono (by decide),fun v1 W1 r1 hv1=>?_⟩
   replace gl:=r1 _ _ gl
   replace hw:=r1 _ _ hw
   walk_at "rd"
   dsimp only[tNil]
   refine⟨_,BB,rfl,by omega,zB.mono (by decide),fun v2 W2 r2 hv2=>?_⟩
   replace gl:=r2 _ _ gl
   replace hw:=r2 _ _ hw
   walk_at "rd"
   intro tb htb
   have r3:=Same.new (o:=.tup [v1,v2]) htb
   have hp3:=a0d (H:=W2) (a:=tb) (o:=.tup [v1,v2])
   generalize upd W2 tb (.tup [v1,v2])=W3 at *
   replace gl:=r3 _ _ gl
   replace hw:=r3 _ _ hw
   have hBs:PtV W3 (.ref tb) _ _:=⟨tb,v1,v2,rfl,hp3,(hv1.same r2).same r3,hv2.same r3⟩
   walk_at "rd"
   dsimp only[tNil]
   refine⟨_,BB,rfl,by omega,zB.mono (by decide),fun v3 W4 r4 hv3=>?_⟩
   replace gl:=r4 _ _ gl
   replace hw:=r4 _ _ hw
   walk_at "rd"
   dsimp only[tNil]
   refine⟨_,BB,rfl,by omega,zB.mono (by decide),fun v4 W5 r5 hv4=>?_⟩
   replace gl:=r5 _ _ gl
   walk_at "rd"
   intro tn htn
   have r6:=Same.new (o:=.tup [v3,v4]) htn
   have hp4:=a0d (H:=W5) (a:=tn) (o:=.tup [v3,v4])
   generalize upd W5 tn (.tup [v3,v4])=W6 at *
   replace gl:=r6 _ _ gl
   replace hBs:=hBs.same (r4.trans (r5.trans r6))
   have hTn:PtV W6 (.ref tn) _ _:=⟨tn,v3,v4,rfl,hp4,(hv3.same r5).same r6,hv4.same r6⟩
   walk_at "rd"
   intro lc hlc
   have r7:=Same.new (o:=.lst [.ref tb,.ref tn,.ref tb]) hlc
   have hp7:=a0d (H:=W6) (a:=lc) (o:=.lst [.ref tb,.ref tn,.ref tb])
   generalize upd W6 lc (.lst [.ref tb,.ref tn,.ref tb])=W7 at *
   replace gl:=r7 _ _ gl
   walk_at "rd"
   intro lg hlg
   have r8:=Same.new (o:=.lst [.int 5,.int 6,.int 4,.int 3]) hlg
   have hp8:=a0d (H:=W7) (a:=lg) (o:=.lst [.int 5,.int 6,.int 4,.int 3])
   generalize upd W7 lg (.lst [.int 5,.int 6,.int 4,.int 3])=W8 at *
   replace gl:=r8 _ _ gl
   walk_at "rd"
   obtain⟨v5,hv5,hm5⟩:=c1s [V.int 5,V.int 6,V.int 4,V.int 3] (xs.getD (c3p 12) 0 % 4) (by omega) (by show _<(4:Int);omega)
   have hL5:∃ L5:Nat,v5=V.int (L5:Int)∧L5≤6:=by
     simp only[c2x,c3u,or_false] at hm5
     rcases hm5 with rfl | rfl | rfl | rfl
     · exact⟨5,rfl,by decide⟩
     · exact⟨6,rfl,by decide⟩
     · exact⟨4,rfl,by decide⟩
     · exact⟨3,rfl,by decide⟩
   obtain⟨L5,rfl,hL5⟩:=hL5
   refine⟨lg,_,_,_,rfl,rfl,SqL.of hp8,hv5,?_⟩
   rw[← a7d (show 0<BB by omega),← a7d (show 0<BB by omega)] at hTn
   have r78:=r7.trans r8
   have oB:OvP BB 10 (c2i (xs.getD (c3p 13) 0 % 9 - 4) BB,c2i (xs.getD (c3p 14) 0 % 9 - 4) BB):=⟨a4y (by omega) (a5q (b:=100) (by omega) (by decide)),a4y (by omega) (a5q (b:=100) (by omega) (by decide))⟩
   have oW:OvP BB 10 (c2i (xs.getD (c3p 13) 0 % 9 - 4) BB+c2i w0 BB,c2i (xs.getD (c3p 14) 0 % 9 - 4) BB+c2i w1 BB):=by
     rw[a7d (show 0<BB by omega),a7d (show 0<BB by omega)]
     exact⟨a4y (by omega) (a5q (b:=100) (by omega) (by decide)),a4y (by omega) (a5q (b:=100) (by omega) (by decide))⟩
   have hWn:(c2i w0 BB,c2i w1 BB)≠((0,0):Pt):=fun e=>by
     rw[c6u.injEq] at e
     rcases hne with h | h
     · exact b6f (by omega) h e.1
     · exact b6f (by omega) h e.2
   walk_at "rd"
   dsimp only[tNil]
   refine⟨lc,_,(c2i (xs.getD (c3p 13) 0 % 9 - 4) BB,c2i (xs.getD (c3p 14) 0 % 9 - 4) BB),(c2i w0 BB,c2i w1 BB),BB,10,L5,rfl,r8 _ _ hp7,pts3 (hBs.same r78) (hTn.same r78) (hBs.same r78),hWn,by omega,zB.mono (by decide),by decide,oB,oW,hL5,fun W9 r9=>?_⟩
   walk_at "rd"
   exact go2 _ _ _ (r1.trans (r2.trans (r3.trans (r4.trans (r5.trans (r6.trans (r78.trans r9)))))))
 walk_at "rd"
 dsimp only
 refine ifB (fun z=>?_) (fun z=>?_)
 rotate_left
 · refine ifF rfl ?_
   exact go _ (L2.Same.refl _)
 obtain⟨L',eL,hL5,hL6⟩ : ∃ L':Nat,5+xs.getD (c3p 5) 0 % 2=(L':Int)∧5≤L'∧L'≤6:=⟨(5+xs.getD (c3p 5) 0 % 2).toNat,by omega,by omega,by omega⟩
 walk_at "rd"
 intro l1 hl1
 have s9:=Same.new (o:=.lst ys) hl1
 have h1:=a0d (H:=H14) (a:=l1) (o:=.lst ys)
 generalize upd H14 l1 (.lst ys)=H15 at *
 have hb9:=s9 _ _ hb
 have gl9:=s9 _ _ gl
 walk_at "rd"
 intro l2 hl2
 have s10:=Same.new (o:=.lst ws) hl2
 have h2:=a0d (H:=H15) (a:=l2) (o:=.lst ws)
 generalize upd H15 l2 (.lst ws)=H16 at *
 have gl10:=s10 _ _ gl9
 walk_at "rd"
 dsimp only[tNil]
 rw[eL]
 refine⟨l1,l2,ys,ws,Q1,Q2,BB,101,L',rfl,s10 _ _ h1,(hP1.same s9).same s10,h2,(hP2.same s9).same s10,k1,by omega,k2,by omega,by omega,zB.mono (by decide),by decide,hov,by omega,hmx L' (by omega),c1y al1 al2 k1 k2 hL5,fun H17 s17=>?_⟩
 walk_at "rd"
 exact go _ (s9.trans (s10.trans s17))
end
theorem all_mk{w:World}{K:c2f}{h:Heap}{mg:Str→Option Value}{fa:Addr}(KX:K.In h)(GN:h.Ns mainGlobals mg)(hfa:mg "law" = some (.ref fa)){f0 f1 f2 f3 f4 f5 f6 f7 f8 f9 f10 f11 f12 f13 f14 f15 f16 f17 f18 f19 f20 f21 f22 f23 f24 f25 f26 f27 f28 f29 f30:Addr}{od0 an0 od1 an1 od2 an2 od3 an3 od4 an4 od5 an5 od6 an6 od7 an7 od8 an8 od9 an9 od10 an10 od11 an11 od12 an12 od13 an13 od14 an14 od15 an15 od16 an16 od17 an17 od18 an18 od19 an19 od20 an20 od21 an21 od22 an22 od23 an23 od24 an24 od25 an25 od26 an26 od27 an27 od28 an28 od29 an29 od30 an30:Option Addr}{sl0 sl1 sl2 sl3 sl4 sl5 sl6 sl7 sl8 sl9 sl10 sl11 sl12 sl13 sl14 sl15 sl16 sl17 sl18 sl19 sl20 sl21 sl22 sl23 sl24 sl25 sl26 sl27 sl28 sl29 sl30:Array (Option Value)}{oc0 kV0 dc0 pm0 cd0 ct0 oc1 kV1 dc1 pm1 cd1 ct1 oc2 kV2 dc2 pm2 cd2 ct2 oc3 kV3 dc3 pm3 cd3 ct3 oc4 kV4 dc4 pm4 cd4 ct4 oc5 kV5 dc5 pm5 cd5 ct5 oc6 kV6 dc6 pm6 cd6 ct6 oc7 kV7 dc7 pm7 cd7 ct7 oc8 kV8 dc8 pm8 cd8 ct8 oc9 kV9 dc9 pm9 cd9 ct9 oc10 kV10 dc10 pm10 cd10 ct10 oc11 kV11 dc11 pm11 cd11 ct11 oc12 kV12 dc12 pm12 cd12 ct12 oc13 kV13 dc13 pm13 cd13 ct13 oc14 kV14 dc14 pm14 cd14 ct14 oc15 kV15 dc15 pm15 cd15 ct15 oc16 kV16 dc16 pm16 cd16 ct16 oc17 kV17 dc17 pm17 cd17 ct17 oc18 kV18 dc18 pm18 cd18 ct18 oc19 kV19 dc19 pm19 cd19 ct19 oc20 kV20 dc20 pm20 cd20 ct20 oc21 kV21 dc21 pm21 cd21 ct21 oc22 kV22 dc22 pm22 cd22 ct22 oc23 kV23 dc23 pm23 cd23 ct23 oc24 kV24 dc24 pm24 cd24 ct24 oc25 kV25 dc25 pm25 cd25 ct25 oc26 kV26 dc26 pm26 cd26 ct26 oc27 kV27 dc27 pm27 cd27 ct27 oc28 kV28 dc28 pm28 cd28 ct28 oc29 kV29 dc29 pm29 cd29 ct29 oc30 kV30 dc30 pm30 cd30 ct30:Value}{C_Ground:Addr}(aC_Ground:c2l K mainGlobals "Ground" = some (some (.ref C_Ground)))(pg_Ground:c7g K C_Ground Str.empty=true)(hd_Ground:c7w K C_Ground=true)(po_Ground:PySem.W.plainOver K C_Ground=true)(sa_Ground:c3l K (.ref C_Ground) "__setattr__" = some (some (.builtin "object.__setattr__")))(mk_Ground:PySem.W.makesIn K C_Ground=true)(kc_Ground:c2s K (.ref C_Ground)=true)(nA_Ground_room:c3l K (.ref C_Ground) "room" = some none)(nA_Ground_x_bottoms:c3l K (.ref C_Ground) "x_bottoms" = some none)(nA_Ground_y_bottoms:c3l K (.ref C_Ground) "y_bottoms" = some none)(nA_Ground_ones:c3l K (.ref C_Ground) "ones" = some none)(nA_Ground_others:c3l K (.ref C_Ground) "others" = some none)(a0:c2l K mainGlobals "_law_all" = some (some (.ref f0)))(l0:K.lookup f0=some ⟨oc0,od0,.func (c2z "_law_all" "_law_all" (a0y a6a) (a0p a6a) (a0e a6a) .none kV0 dc0 pm0 an0 cd0 ct0),sl0⟩)(c0:c2y K cd0 "_law_all" = true)(k0:c2s K (.ref f0)=true)(a1:c2l K mainGlobals "_law_cell_at" = some (some (.ref f1)))(l1:K.lookup f1=some ⟨oc1,od1,.func (c2z "_law_cell_at" "_law_cell_at" (a0y a3e) (a0p a3e) (a0e a3e) .none kV1 dc1 pm1 an1 cd1 ct1),sl1⟩)(c1:c2y K cd1 "_law_cell_at" = true)(k1:c2s K (.ref f1)=true)(a2:c2l K mainGlobals "_law_folded" = some (some (.ref f2)))(l2:K.lookup f2=some ⟨oc2,od2,.func (c2z "_law_folded" "_law_folded" (a0y a2w) (a0p a2w) (a0e a2w) .none kV2 dc2 pm2 an2 cd2 ct2),sl2⟩)(c2:c2y K cd2 "_law_folded" = true)(k2:c2s K (.ref f2)=true)(a3:c2l K mainGlobals "greatest_common" = some (some (.ref f3)))(l3:K.lookup f3=some ⟨oc3,od3,.func (c2z "greatest_common" "greatest_common" (a0y a1o) (a0p a1o) (a0e a1o) .none kV3 dc3 pm3 an3 cd3 ct3),sl3⟩)(c3:c2y K cd3 "greatest_common" = true)(k3:c2s K (.ref f3)=true)(a4:c2l K mainGlobals "common_bottoms" = some (some (.ref f4)))(l4:K.lookup f4=some ⟨oc4,od4,.func (c2z "common_bottoms" "common_bottoms" (a0y a1u) (a0p a1u) (a0e a1u) .none kV4 dc4 pm4 an4 cd4 ct4),sl4⟩)(c4:c2y K cd4 "common_bottoms" = true)(k4:c2s K (.ref f4)=true)(a5:c2l K mainGlobals "product" = some (some (.ref f5)))(l5:K.lookup f5=some ⟨oc5,od5,.func (c2z "product" "product" (a0y a4h) (a0p a4h) (a0e a4h) .none kV5 dc5 pm5 an5 cd5 ct5),sl5⟩)(c5:c2y K cd5 "product" = true)(k5:c2s K (.ref f5)=true)(a6:c2l K mainGlobals "axis" = some (some (.ref f6)))(l6:K.lookup f6=some ⟨oc6,od6,.func (c2z "axis" "axis" (a0y a8n) (a0p a8n) (a0e a8n) .none kV6 dc6 pm6 an6 cd6 ct6),sl6⟩)(c6:c2y K cd6 "axis" = true)(k6:c2s K (.ref f6)=true)(a7:c2l K mainGlobals "axes" = some (some (.ref f7)))(l7:K.lookup f7=some ⟨oc7,od7,.func (c2z "axes" "axes" (a0y a7g) (a0p a7g) (a0e a7g) .none kV7 dc7 pm7 an7 cd7 ct7),sl7⟩)(c7:c2y K cd7 "axes" = true)(k7:c2s K (.ref f7)=true)(a8:c2l K mainGlobals "room_for" = some (some (.ref f8)))(l8:K.lookup f8=some ⟨oc8,od8,.func (c2z "room_for" "room_for" (a0y a3o) (a0p a3o) (a0e a3o) .none kV8 dc8 pm8 an8 cd8 ct8),sl8⟩)(c8:c2y K cd8 "room_for" = true)(k8:c2s K (.ref f8)=true)(a9:c2l K mainGlobals "whole_curve" = some (some (.ref f9)))(l9:K.lookup f9=some ⟨oc9,od9,.func (c2z "whole_curve" "whole_curve" (a0y a2e) (a0p a2e) (a0e a2e) .none kV9 dc9 pm9 an9 cd9 ct9),sl9⟩)(c9:c2y K cd9 "whole_curve" = true)(k9:c2s K (.ref f9)=true)(a10:c3l K (.ref C_Ground) "__init__" = some (some (.ref f10)))(i10:c7u K (.ref f10)=true)(l10:K.lookup f10=some ⟨oc10,od10,.func (c2z "__init__" "Ground.__init__" (a0y a1p) (a0p a1p) (a0e a1p) .none kV10 dc10 pm10 an10 cd10 ct10),sl10⟩)(c10:c2y K cd10 "Ground.__init__" = true)(k10:c2s K (.ref f10)=true)(a11:c2l K mainGlobals "halves" = some (some (.ref f11)))(l11:K.lookup f11=some ⟨oc11,od11,.func (c2z "halves" "halves" (a0y a4n) (a0p a4n) (a0e a4n) .none kV11 dc11 pm11 an11 cd11 ct11),sl11⟩)(c11:c2y K cd11 "halves" = true)(k11:c2s K (.ref f11)=true)(a12:c2l K mainGlobals "halved" = some (some (.ref f12)))(l12:K.lookup f12=some ⟨oc12,od12,.func (c2z "halved" "halved" (a0y a4o) (a0p a4o) (a0e a4o) .none kV12 dc12 pm12 an12 cd12 ct12),sl12⟩)(c12:c2y K cd12 "halved" = true)(k12:c2s K (.ref f12)=true)(a13:c3l K (.ref C_Ground) "go_down" = some (some (.ref f13)))(i13:c7u K (.ref f13)=true)(l13:K.lookup f13=some ⟨oc13,od13,.func (c2z "go_down" "Ground.go_down" (a0y a1v) (a0p a1v) (a0e a1v) .none kV13 dc13 pm13 an13 cd13 ct13),sl13⟩)(c13:c2y K cd13 "Ground.go_down" = true)(k13:c2s K (.ref f13)=true)(a14:c2l K mainGlobals "pairs_below" = some (some (.ref f14)))(l14:K.lookup f14=some ⟨oc14,od14,.func (c2z "pairs_below" "pairs_below" (a0y a2f) (a0p a2f) (a0e a2f) .none kV14 dc14 pm14 an14 cd14 ct14),sl14⟩)(c14:c2y K cd14 "pairs_below" = true)(k14:c2s K (.ref f14)=true)(a15:c2l K mainGlobals "along" = some (some (.ref f15)))(l15:K.lookup f15=some ⟨oc15,od15,.func (c2z "along" "along" (a0y a6b) (a0p a6b) (a0e a6b) .none kV15 dc15 pm15 an15 cd15 ct15),sl15⟩)(c15:c2y K cd15 "along" = true)(k15:c2s K (.ref f15)=true)(a16:c2l K mainGlobals "step_across" = some (some (.ref f16)))(l16:K.lookup f16=some ⟨oc16,od16,.func (c2z "step_across" "step_across" (a0y a2r) (a0p a2r) (a0e a2r) .none kV16 dc16 pm16 an16 cd16 ct16),sl16⟩)(c16:c2y K cd16 "step_across" = true)(k16:c2s K (.ref f16)=true)(a17:c2l K mainGlobals "reach" = some (some (.ref f17)))(l17:K.lookup f17=some ⟨oc17,od17,.func (c2z "reach" "reach" (a0y a6v) (a0p a6v) (a0e a6v) .none kV17 dc17 pm17 an17 cd17 ct17),sl17⟩)(c17:c2y K cd17 "reach" = true)(k17:c2s K (.ref f17)=true)(a18:c2l K mainGlobals "turn_between" = some (some (.ref f18)))(l18:K.lookup f18=some ⟨oc18,od18,.func (c2z "turn_between" "turn_between" (a0y a2j) (a0p a2j) (a0e a2j) .none kV18 dc18 pm18 an18 cd18 ct18),sl18⟩)(c18:c2y K cd18 "turn_between" = true)(k18:c2s K (.ref f18)=true)(a19:c2l K mainGlobals "way_amid" = some (some (.ref f19)))(l19:K.lookup f19=some ⟨oc19,od19,.func (c2z "way_amid" "way_amid" (a0y a3n) (a0p a3n) (a0e a3n) .none kV19 dc19 pm19 an19 cd19 ct19),sl19⟩)(c19:c2y K cd19 "way_amid" = true)(k19:c2s K (.ref f19)=true)(a20:c2l K mainGlobals "parted" = some (some (.ref f20)))(l20:K.lookup f20=some ⟨oc20,od20,.func (c2z "parted" "parted" (a0y a5l) (a0p a5l) (a0e a5l) .none kV20 dc20 pm20 an20 cd20 ct20),sl20⟩)(c20:c2y K cd20 "parted" = true)(k20:c2s K (.ref f20)=true)(a21:c2l K mainGlobals "share" = some (some (.ref f21)))(l21:K.lookup f21=some ⟨oc21,od21,.func (c2z "share" "share" (a0y a6u) (a0p a6u) (a0e a6u) .none kV21 dc21 pm21 an21 cd21 ct21),sl21⟩)(c21:c2y K cd21 "share" = true)(k21:c2s K (.ref f21)=true)(a22:c2l K mainGlobals "told_line" = some (some (.ref f22)))(l22:K.lookup f22=some ⟨oc22,od22,.func (c2z "told_line" "told_line" (a0y a3c) (a0p a3c) (a0e a3c) .none kV22 dc22 pm22 an22 cd22 ct22),sl22⟩)(c22:c2y K cd22 "told_line" = true)(k22:c2s K (.ref f22)=true)(a23:c2l K mainGlobals "sifted" = some (some (.ref f23)))(l23:K.lookup f23=some ⟨oc23,od23,.func (c2z "sifted" "sifted" (a0y a5k) (a0p a5k) (a0e a5k) .none kV23 dc23 pm23 an23 cd23 ct23),sl23⟩)(c23:c2y K cd23 "sifted" = true)(k23:c2s K (.ref f23)=true)(a24:c2l K mainGlobals "meets" = some (some (.ref f24)))(l24:K.lookup f24=some ⟨oc24,od24,.func (c2z "meets" "meets" (a0y a4u) (a0p a4u) (a0e a4u) .none kV24 dc24 pm24 an24 cd24 ct24),sl24⟩)(c24:c2y K cd24 "meets" = true)(k24:c2s K (.ref f24)=true)(a25:c2l K mainGlobals "_law_refused" = some (some (.ref f25)))(l25:K.lookup f25=some ⟨oc25,od25,.func (c2z "_law_refused" "_law_refused" (a0y a3d) (a0p a3d) (a0e a3d) .none kV25 dc25 pm25 an25 cd25 ct25),sl25⟩)(c25:c2y K cd25 "_law_refused" = true)(k25:c2s K (.ref f25)=true)(a26:c2l K mainGlobals "_law_folded_good" = some (some (.ref f26)))(l26:K.lookup f26=some ⟨oc26,od26,.func (c2z "_law_folded_good" "_law_folded_good" (a0y a2a) (a0p a2a) (a0e a2a) .none kV26 dc26 pm26 an26 cd26 ct26),sl26⟩)(c26:c2y K cd26 "_law_folded_good" = true)(k26:c2s K (.ref f26)=true)(a27:c2l K mainGlobals "_law_part" = some (some (.ref f27)))(l27:K.lookup f27=some ⟨oc27,od27,.func (c2z "_law_part" "_law_part" (a0y a5m) (a0p a5m) (a0e a5m) .none kV27 dc27 pm27 an27 cd27 ct27),sl27⟩)(c27:c2y K cd27 "_law_part" = true)(k27:c2s K (.ref f27)=true)(a28:c2l K mainGlobals "_law_share" = some (some (.ref f28)))(l28:K.lookup f28=some ⟨oc28,od28,.func (c2z "_law_share" "_law_share" (a0y a4i) (a0p a4i) (a0e a4i) .none kV28 dc28 pm28 an28 cd28 ct28),sl28⟩)(c28:c2y K cd28 "_law_share" = true)(k28:c2s K (.ref f28)=true)(a29:c2l K mainGlobals "_law_stream" = some (some (.ref f29)))(l29:K.lookup f29=some ⟨oc29,od29,.func (c2z "_law_stream" "_law_stream" (a0y a3p) (a0p a3p) (a0e a3p) .none kV29 dc29 pm29 an29 cd29 ct29),sl29⟩)(c29:c2y K cd29 "_law_stream" = true)(k29:c2s K (.ref f29)=true)(a30:c2l K mainGlobals "law" = some (some (.ref f30)))(l30:K.lookup f30=some ⟨oc30,od30,.func (c2z "law" "law" (a0y a5r) (a0p a5r) (a0e a5r) .none kV30 dc30 pm30 an30 cd30 ct30),sl30⟩)(c30:c2y K cd30 "law" = true)(k30:c2s K (.ref f30)=true)(z_len:c2l K mainGlobals "len" = some none)(z_abs:c2l K mainGlobals "abs" = some none)(z_range:c2l K mainGlobals "range" = some none)(z_max:c2l K mainGlobals "max" = some none)(z_min:c2l K mainGlobals "min" = some none)(z_any:c2l K mainGlobals "any" = some none)(z_all:c2l K mainGlobals "all" = some none)(z_sum:c2l K mainGlobals "sum" = some none)(z_isinstance:c2l K mainGlobals "isinstance" = some none)(z_int:c2l K mainGlobals "int" = some none)(z_bool:c2l K mainGlobals "bool" = some none)(z_tuple:c2l K mainGlobals "tuple" = some none)(z_list:c2l K mainGlobals "list" = some none)(z_str:c2l K mainGlobals "str" = some none)(z_ValueError:c2l K mainGlobals "ValueError" = some none)(z_zip:c2l K mainGlobals "zip" = some none)(z_reversed:c2l K mainGlobals "reversed" = some none)(z_enumerate:c2l K mainGlobals "enumerate" = some none)(z_sorted:c2l K mainGlobals "sorted" = some none)(z_dict:c2l K mainGlobals "dict" = some none){C_SeatError C_TooMany C_NoShare C_NoLower C_NoMap C_NoJoin C_NoPlace C_NoText C_NoName:Addr}(a_SeatError:c2l K mainGlobals "SeatError" = some (some (.ref C_SeatError)))(a_TooMany:c2l K mainGlobals "TooMany" = some (some (.ref C_TooMany)))(a_NoShare:c2l K mainGlobals "NoShare" = some (some (.ref C_NoShare)))(a_NoLower:c2l K mainGlobals "NoLower" = some (some (.ref C_NoLower)))(a_NoMap:c2l K mainGlobals "NoMap" = some (some (.ref C_NoMap)))(a_NoJoin:c2l K mainGlobals "NoJoin" = some (some (.ref C_NoJoin)))(a_NoPlace:c2l K mainGlobals "NoPlace" = some (some (.ref C_NoPlace)))(a_NoText:c2l K mainGlobals "NoText" = some (some (.ref C_NoText)))(a_NoName:c2l K mainGlobals "NoName" = some (some (.ref C_NoName))){nm_TooMany q_TooMany:Str}{N_TooMany:Addr}{bs_TooMany bm_TooMany:List Value}{hd_TooMany:Bool}{sn_TooMany:List Str}{sub_TooMany:List Value}{ab_TooMany:Bool}{col_TooMany:Option Bool}{dd_TooMany:Option Addr}{k0_TooMany k1_TooMany k2_TooMany k3_TooMany k5_TooMany:Option Value}(l_TooMany:K.lookup C_TooMany=some (excClassObj nm_TooMany q_TooMany C_TooMany N_TooMany bs_TooMany bm_TooMany hd_TooMany sn_TooMany sub_TooMany ab_TooMany col_TooMany dd_TooMany k0_TooMany k1_TooMany k2_TooMany k3_TooMany k5_TooMany "ValueError.__new__"))(n_TooMany:PySem.W.nsOkIn K N_TooMany=true)(i_TooMany:c2l K N_TooMany "__init__" = some none)(t_TooMany:PySem.W.tailIn K mroV bm_TooMany=true)(m_TooMany:c7v K (.ref C_TooMany) (.ref C_SeatError)=some true)(v_TooMany:c3m K (.ref C_TooMany) (.type "ValueError")=some true)(m_STooMany:c7v K (.ref C_TooMany) (.ref C_TooMany)=some true)(xhg_TooMany:c3l K (.ref C_TooMany) "__getattribute__" = some (some (.builtin "BaseException.__getattribute__")))(xhk_TooMany:c3l K (.ref C_TooMany) "__getattr__" = some none)(xhd_TooMany:(c7m K C_TooMany).isSome=true)(xha_TooMany:c3l K (.ref C_TooMany) "__class__" = some (some (.builtin "object.__class__")))(xhn_TooMany:PySem.W.specialIn K (.builtin "object.__class__") "__get__" = some (some (.builtin "getset_descriptor.__get__")))(xht_TooMany:PySem.W.takesIn K (.builtin "object.__class__")=some true)(xhm_TooMany:PySem.W.mroIn K C_TooMany (.type "object")=some true)(xhb_TooMany:PySem.W.mroIn K C_TooMany (.type "BaseException")=some true)(v_TooMany_NoShare:c3m K (.ref C_TooMany) (.ref C_NoShare)=some false)(v_TooMany_NoLower:c3m K (.ref C_TooMany) (.ref C_NoLower)=some false)(v_TooMany_NoMap:c3m K (.ref C_TooMany) (.ref C_NoMap)=some false)(v_TooMany_NoJoin:c3m K (.ref C_TooMany) (.ref C_NoJoin)=some false)(v_TooMany_NoPlace:c3m K (.ref C_TooMany) (.ref C_NoPlace)=some false)(v_TooMany_NoText:c3m K (.ref C_TooMany) (.ref C_NoText)=some false)(v_TooMany_NoName:c3m K (.ref C_TooMany) (.ref C_NoName)=some false){t_MOST_PAIRS:Tok}(a_MOST_PAIRS:c2l K mainGlobals "MOST_PAIRS" = some (some (.int 256 t_MOST_PAIRS))){A_PLAIN_WAYS B1_PLAIN_WAYS B2_PLAIN_WAYS B3_PLAIN_WAYS B4_PLAIN_WAYS:Addr}{d0_PLAIN_WAYS d1_PLAIN_WAYS d2_PLAIN_WAYS d3_PLAIN_WAYS d4_PLAIN_WAYS:Option Addr}{s0_PLAIN_WAYS s1_PLAIN_WAYS s2_PLAIN_WAYS s3_PLAIN_WAYS s4_PLAIN_WAYS:Array (Option Value)}{n0_PLAIN_WAYS n1_PLAIN_WAYS n2_PLAIN_WAYS n3_PLAIN_WAYS n4_PLAIN_WAYS:Nat}{t1_PLAIN_WAYS t2_PLAIN_WAYS t3_PLAIN_WAYS t4_PLAIN_WAYS t5_PLAIN_WAYS t6_PLAIN_WAYS t7_PLAIN_WAYS t8_PLAIN_WAYS:Tok}(a_PLAIN_WAYS:c2l K mainGlobals "PLAIN_WAYS" = some (some (.ref A_PLAIN_WAYS)))(lA_PLAIN_WAYS:K.lookup A_PLAIN_WAYS=some ⟨.type "tuple",d0_PLAIN_WAYS,.seq #[.ref B1_PLAIN_WAYS,.ref B2_PLAIN_WAYS,.ref B3_PLAIN_WAYS,.ref B4_PLAIN_WAYS] n0_PLAIN_WAYS,s0_PLAIN_WAYS⟩)(l1_PLAIN_WAYS:K.lookup B1_PLAIN_WAYS=some ⟨.type "tuple",d1_PLAIN_WAYS,.seq #[.int (1) t1_PLAIN_WAYS,.int (0) t2_PLAIN_WAYS] n1_PLAIN_WAYS,s1_PLAIN_WAYS⟩)(l2_PLAIN_WAYS:K.lookup B2_PLAIN_WAYS=some ⟨.type "tuple",d2_PLAIN_WAYS,.seq #[.int (-1) t3_PLAIN_WAYS,.int (0) t4_PLAIN_WAYS] n2_PLAIN_WAYS,s2_PLAIN_WAYS⟩)(l3_PLAIN_WAYS:K.lookup B3_PLAIN_WAYS=some ⟨.type "tuple",d3_PLAIN_WAYS,.seq #[.int (0) t5_PLAIN_WAYS,.int (1) t6_PLAIN_WAYS] n3_PLAIN_WAYS,s3_PLAIN_WAYS⟩)(l4_PLAIN_WAYS:K.lookup B4_PLAIN_WAYS=some ⟨.type "tuple",d4_PLAIN_WAYS,.seq #[.int (0) t7_PLAIN_WAYS,.int (-1) t8_PLAIN_WAYS] n4_PLAIN_WAYS,s4_PLAIN_WAYS⟩)
   : ∃ fd:FuncData,(∀ (s:Shared) (v:Value),BindsTo s fd ⟨[v],[]⟩ [("_law_script",v)])∧∀ (P:Program) (base:Heap),K.In base→base.Ns mainGlobals mg→FnOk P w K mg base CX0 10 fa fd ["_law_script"] ((spLaw K)):=by
 have e:=hfa.symm.trans (c2t KX GN a30)
 cases e
 have B:Blt mg:=⟨c3i KX GN z_len,c3i KX GN z_abs,c3i KX GN z_range,c3i KX GN z_max,c3i KX GN z_min,c3i KX GN z_any,c3i KX GN z_all,c3i KX GN z_sum,c3i KX GN z_isinstance,c3i KX GN z_int,c3i KX GN z_bool,c3i KX GN z_tuple,c3i KX GN z_list,c3i KX GN z_str,c3i KX GN z_ValueError,c3i KX GN z_zip,c3i KX GN z_reversed,c3i KX GN z_enumerate,c3i KX GN z_sorted,c3i KX GN z_dict⟩
 have X:Exc K mg C_SeatError C_TooMany C_NoShare C_NoLower C_NoMap C_NoJoin C_NoPlace C_NoText C_NoName:=⟨c2t KX GN a_SeatError,c2t KX GN a_TooMany,c2t KX GN a_NoShare,c2t KX GN a_NoLower,c2t KX GN a_NoMap,c2t KX GN a_NoJoin,c2t KX GN a_NoPlace,c2t KX GN a_NoText,c2t KX GN a_NoName,⟨c2t KX GN a_TooMany,_,_,_,_,_,_,_,_,_,_,_,_,_,_,_,_,l_TooMany,n_TooMany,i_TooMany,t_TooMany⟩,m_TooMany,v_TooMany,m_STooMany,⟨xhg_TooMany,xhk_TooMany,xhd_TooMany,xha_TooMany,xhn_TooMany,xht_TooMany,xhm_TooMany,xhb_TooMany⟩,v_TooMany_NoShare,v_TooMany_NoLower,v_TooMany_NoMap,v_TooMany_NoJoin,v_TooMany_NoPlace,v_TooMany_NoText,v_TooMany_NoName⟩
 have G:Cst K mg A_PLAIN_WAYS B1_PLAIN_WAYS B2_PLAIN_WAYS B3_PLAIN_WAYS B4_PLAIN_WAYS t_MOST_PAIRS:=⟨c2t KX GN a_MOST_PAIRS,c2t KX GN a_PLAIN_WAYS,fun _=>kFour lA_PLAIN_WAYS,fun _=>⟨kPair l1_PLAIN_WAYS,kPair l2_PLAIN_WAYS,kPair l3_PLAIN_WAYS,kPair l4_PLAIN_WAYS⟩⟩
 have T_Ground:ClsK K mg "Ground" C_Ground:=⟨⟨pg_Ground,hd_Ground,po_Ground,sa_Ground⟩,mk_Ground,kc_Ground,c2t KX GN aC_Ground⟩
 have F0:a0s K mg "_law_all" a6a ["_law_level"]:=a0s.mk' (c2t KX GN a0) l0 c0 k0 fun _ _ _ _ _ _ us hl=>uln1 (fun _=>rfl) us hl
 have F1:a0s K mg "_law_cell_at" a3e ["_law_script","_law_k"]:=a0s.mk' (c2t KX GN a1) l1 c1 k1 fun _ _ _ _ _ _ us hl=>uln2 (fun _ _=>rfl) us hl
 have F2:a0s K mg "_law_folded" a2w ["_law_level"]:=a0s.mk' (c2t KX GN a2) l2 c2 k2 fun _ _ _ _ _ _ us hl=>uln1 (fun _=>rfl) us hl
 have F3:a0s K mg "greatest_common" a1o ["one","other"]:=a0s.mk' (c2t KX GN a3) l3 c3 k3 fun _ _ _ _ _ _ us hl=>uln2 (fun _ _=>rfl) us hl
 have F4:a0s K mg "common_bottoms" a1u ["shares"]:=a0s.mk' (c2t KX GN a4) l4 c4 k4 fun _ _ _ _ _ _ us hl=>uln1 (fun _=>rfl) us hl
 have F5:a0s K mg "product" a4h ["numbers"]:=a0s.mk' (c2t KX GN a5) l5 c5 k5 fun _ _ _ _ _ _ us hl=>uln1 (fun _=>rfl) us hl
 have F6:a0s K mg "axis" a8n ["shares"]:=a0s.mk' (c2t KX GN a6) l6 c6 k6 fun _ _ _ _ _ _ us hl=>uln1 (fun _=>rfl) us hl
 have F7:a0s K mg "axes" a7g ["points"]:=a0s.mk' (c2t KX GN a7) l7 c7 k7 fun _ _ _ _ _ _ us hl=>uln1 (fun _=>rfl) us hl
 have F8:a0s K mg "room_for" a3o ["seats","level"]:=a0s.mk' (c2t KX GN a8) l8 c8 k8 fun _ _ _ _ _ _ us hl=>uln2 (fun _ _=>rfl) us hl
 have F9:a0s K mg "whole_curve" a2e ["xs","ys","room"]:=a0s.mk' (c2t KX GN a9) l9 c9 k9 fun _ _ _ _ _ _ us hl=>uln3 (fun _ _ _=>rfl) us hl
 have F10:b1t K C_Ground "__init__" "Ground.__init__" a1p ["self","one","other","level"]:=b1t.mk' a10 i10 l10 c10 k10 fun _ _ _ _ _ _ us hl=>uln4 (fun _ _ _ _=>rfl) us hl
 have F11:a0s K mg "halves" a4n ["curve"]:=a0s.mk' (c2t KX GN a11) l11 c11 k11 fun _ _ _ _ _ _ us hl=>uln1 (fun _=>rfl) us hl
 have F12:a0s K mg "halved" a4o ["curves"]:=a0s.mk' (c2t KX GN a12) l12 c12 k12 fun _ _ _ _ _ _ us hl=>uln1 (fun _=>rfl) us hl
 have F13:b1t K C_Ground "go_down" "Ground.go_down" a1v ["self"]:=b1t.mk' a13 i13 l13 c13 k13 fun _ _ _ _ _ _ us hl=>uln1 (fun _=>rfl) us hl
 have F14:a0s K mg "pairs_below" a2f ["pairs"]:=a0s.mk' (c2t KX GN a14) l14 c14 k14 fun _ _ _ _ _ _ us hl=>uln1 (fun _=>rfl) us hl
 have F15:a0s K mg "along" a6b ["places","way"]:=a0s.mk' (c2t KX GN a15) l15 c15 k15 fun _ _ _ _ _ _ us hl=>uln2 (fun _ _=>rfl) us hl
 have F16:a0s K mg "step_across" a2r ["ones","others","i","j"]:=a0s.mk' (c2t KX GN a16) l16 c16 k16 fun _ _ _ _ _ _ us hl=>uln4 (fun _ _ _ _=>rfl) us hl
 have F17:a0s K mg "reach" a6v ["ones","others","way"]:=a0s.mk' (c2t KX GN a17) l17 c17 k17 fun _ _ _ _ _ _ us hl=>uln3 (fun _ _ _=>rfl) us hl
 have F18:a0s K mg "turn_between" a2j ["one","other"]:=a0s.mk' (c2t KX GN a18) l18 c18 k18 fun _ _ _ _ _ _ us hl=>uln2 (fun _ _=>rfl) us hl
 have F19:a0s K mg "way_amid" a3n ["right","left"]:=a0s.mk' (c2t KX GN a19) l19 c19 k19 fun _ _ _ _ _ _ us hl=>uln2 (fun _ _=>rfl) us hl
 have F20:a0s K mg "parted" a5l ["ones","others"]:=a0s.mk' (c2t KX GN a20) l20 c20 k20 fun _ _ _ _ _ _ us hl=>uln2 (fun _ _=>rfl) us hl
 have F21:a0s K mg "share" a6u ["top","bottom"]:=a0s.mk' (c2t KX GN a21) l21 c21 k21 fun _ _ _ _ _ _ us hl=>uln2 (fun _ _=>rfl) us hl
 have F22:a0s K mg "told_line" a3c ["line","x_bottom","y_bottom","room"]:=a0s.mk' (c2t KX GN a22) l22 c22 k22 fun _ _ _ _ _ _ us hl=>uln4 (fun _ _ _ _=>rfl) us hl
 have F23:a0s K mg "sifted" a5k ["ground","pairs"]:=a0s.mk' (c2t KX GN a23) l23 c23 k23 fun _ _ _ _ _ _ us hl=>uln2 (fun _ _=>rfl) us hl
 have F24:a0s K mg "meets" a4u ["one","other","level"]:=a0s.mk' (c2t KX GN a24) l24 c24 k24 fun _ _ _ _ _ _ us hl=>uln3 (fun _ _ _=>rfl) us hl
 have F25:a0s K mg "_law_refused" a3d ["_law_one","_law_other","_law_level"]:=a0s.mk' (c2t KX GN a25) l25 c25 k25 fun _ _ _ _ _ _ us hl=>uln3 (fun _ _ _=>rfl) us hl
 have F26:a0s K mg "_law_folded_good" a2a ["_law_curve","_law_level"]:=a0s.mk' (c2t KX GN a26) l26 c26 k26 fun _ _ _ _ _ _ us hl=>uln2 (fun _ _=>rfl) us hl
 have F27:a0s K mg "_law_part" a5m ["_law_one","_law_other"]:=a0s.mk' (c2t KX GN a27) l27 c27 k27 fun _ _ _ _ _ _ us hl=>uln2 (fun _ _=>rfl) us hl
 have F28:a0s K mg "_law_share" a4i ["_law_top","_law_bottom"]:=a0s.mk' (c2t KX GN a28) l28 c28 k28 fun _ _ _ _ _ _ us hl=>uln2 (fun _ _=>rfl) us hl
 have F29:a0s K mg "_law_stream" a3p ["_law_cell","_law_place"]:=a0s.mk' (c2t KX GN a29) l29 c29 k29 fun _ _ _ _ _ _ us hl=>uln2 (fun _ _=>rfl) us hl
 have F30:a0s K mg "law" a5r ["_law_script"]:=a0s.mk' (c2t KX GN a30) l30 c30 k30 fun _ _ _ _ _ _ us hl=>uln1 (fun _=>rfl) us hl
 refine⟨c2z "law" "law" (a0y a5r) (a0p a5r) (a0e a5r) .none kV30 dc30 pm30 an30 cd30 ct30,fun s v=>.of_eq rfl,fun P base _ _=>?_⟩
 have D0:=ok_l_all (P:=P) (w:=w) (base:=base) F0 B
 have D1:=b2n (P:=P) (w:=w) (base:=base) F1 B
 have D2:=b4f (P:=P) (w:=w) (base:=base) F2 B
 have D3:=a6n (P:=P) (w:=w) (base:=base) F3 B
 have D4:=a6z (P:=P) (w:=w) (base:=base) F4 D3
 have D5:=b6v (P:=P) (w:=w) (base:=base) F5
 have D6:=ok_axis (P:=P) (w:=w) (base:=base) F6 D4 D5
 have D7:=ok_axes (P:=P) (w:=w) (base:=base) F7 D6
 have D8:=b4d (P:=P) (w:=w) (base:=base) F8
 have D9:=a9r (P:=P) (w:=w) (base:=base) F9 B
 have D10:=a6o (P:=P) (w:=w) (base:=base) T_Ground nA_Ground_room nA_Ground_x_bottoms nA_Ground_y_bottoms nA_Ground_ones nA_Ground_others F10 B D7 D8 D9
 have D11:=c0a (P:=P) (w:=w) (base:=base) F11 B
 have D12:=c0b (P:=P) (w:=w) (base:=base) F12 D11
 have D13:=a7a (P:=P) (w:=w) (base:=base) T_Ground nA_Ground_room nA_Ground_x_bottoms nA_Ground_y_bottoms nA_Ground_ones nA_Ground_others F13 D12
 have D14:=a9t (P:=P) (w:=w) (base:=base) F14 B
 have D15:=ok_along (P:=P) (w:=w) (base:=base) F15
 have D16:=a9s (P:=P) (w:=w) (base:=base) F16
 have D17:=ok_reach (P:=P) (w:=w) (base:=base) F17 B D15 D16
 have D18:=a8s (P:=P) (w:=w) (base:=base) F18
 have D19:=b4c (P:=P) (w:=w) (base:=base) F19
 have D20:=b9y (P:=P) (w:=w) (base:=base) F20 G D16 D17 D18 D19
 have D21:=ok_share (P:=P) (w:=w) (base:=base) F21 D3
 have D22:=b2l (P:=P) (w:=w) (base:=base) F22 D21
 have D23:=b9x (P:=P) (w:=w) (base:=base) T_Ground nA_Ground_room nA_Ground_x_bottoms nA_Ground_y_bottoms nA_Ground_ones nA_Ground_others F23 B X G D5 D20 D22
 have D24:=ok_meets (P:=P) (w:=w) (base:=base) T_Ground nA_Ground_room nA_Ground_x_bottoms nA_Ground_y_bottoms nA_Ground_ones nA_Ground_others F24 B G D10 D13 D14 D23
 have D25:=b2m (P:=P) (w:=w) (base:=base) F25 B X D24
 have D26:=a7l (P:=P) (w:=w) (base:=base) F26 B D2 D24 D25
 have D27:=b9z (P:=P) (w:=w) (base:=base) F27
 have D28:=b6w (P:=P) (w:=w) (base:=base) F28 B D27
 have D29:=b4e (P:=P) (w:=w) (base:=base) F29 B
 have D30:=ok_law (P:=P) (w:=w) (base:=base) F30 B D0 D1 D24 D25 D26 D28 D29
 exact D30.law l30 (c2t KX GN a30)
end Cv
open PySem PySem.W PyProof.Rows
set_option maxHeartbeats 0 in
theorem PySem.Challenge.cw_curveseat_k64_too_many_holds : PySem.Challenge.rw_curveseat_k64_too_many.Holds := by
 w_on;o_law;k_head;(case hw=>w_witness2)
 k_fill
 refine Cv.walk (l:=PySem.Challenge.rw_curveseat_k64_too_many) (k:=10) (x := "_law_script") (CX:=L2.CX0) (sp:=fun K=>(Cv.spLaw K)) rfl rfl ⟨rfl,by decide,by decide⟩ (fun w h Y=>PySem.W.kIn_of Y) ?F (fun K H a ns h1 h2 h3=>⟨a,ns,rfl,h3,h1,fun _=>rfl⟩) (fun _ _ _ _ z=>z)
 case F=>
   intro w mg fa h KX G hmg
   refine' Cv.all_mk KX G hmg ?aC_Ground ?pg_Ground ?hd_Ground ?po_Ground ?sa_Ground ?mk_Ground ?kc_Ground ?nA_Ground_room ?nA_Ground_x_bottoms ?nA_Ground_y_bottoms ?nA_Ground_ones ?nA_Ground_others ?a0 ?l0 ?c0 ?k0 ?a1 ?l1 ?c1 ?k1 ?a2 ?l2 ?c2 ?k2 ?a3 ?l3 ?c3 ?k3 ?a4 ?l4 ?c4 ?k4 ?a5 ?l5 ?c5 ?k5 ?a6 ?l6 ?c6 ?k6 ?a7 ?l7 ?c7 ?k7 ?a8 ?l8 ?c8 ?k8 ?a9 ?l9 ?c9 ?k9 ?a10 ?i10 ?l10 ?c10 ?k10 ?a11 ?l11 ?c11 ?k11 ?a12 ?l12 ?c12 ?k12 ?a13 ?i13 ?l13 ?c13 ?k13 ?a14 ?l14 ?c14 ?k14 ?a15 ?l15 ?c15 ?k15 ?a16 ?l16 ?c16 ?k16 ?a17 ?l17 ?c17 ?k17 ?a18 ?l18 ?c18 ?k18 ?a19 ?l19 ?c19 ?k19 ?a20 ?l20 ?c20 ?k20 ?a21 ?l21 ?c21 ?k21 ?a22 ?l22 ?c22 ?k22 ?a23 ?l23 ?c23 ?k23 ?a24 ?l24 ?c24 ?k24 ?a25 ?l25 ?c25 ?k25 ?a26 ?l26 ?c26 ?k26 ?a27 ?l27 ?c27 ?k27 ?a28 ?l28 ?c28 ?k28 ?a29 ?l29 ?c29 ?k29 ?a30 ?l30 ?c30 ?k30 ?z_len ?z_abs ?z_range ?z_max ?z_min ?z_any ?z_all ?z_sum ?z_isinstance ?z_int ?z_bool ?z_tuple ?z_list ?z_str ?z_ValueError ?z_zip ?z_reversed ?z_enumerate ?z_sorted ?z_dict ?a_SeatError ?a_TooMany ?a_NoShare ?a_NoLower ?a_NoMap ?a_NoJoin ?a_NoPlace ?a_NoText ?a_NoName ?l_TooMany ?n_TooMany ?i_TooMany ?t_TooMany ?m_TooMany ?v_TooMany ?m_STooMany ?xhg_TooMany ?xhk_TooMany ?xhd_TooMany ?xha_TooMany ?xhn_TooMany ?xht_TooMany ?xhm_TooMany ?xhb_TooMany ?v_TooMany_NoShare ?v_TooMany_NoLower ?v_TooMany_NoMap ?v_TooMany_NoJoin ?v_TooMany_NoPlace ?v_TooMany_NoText ?v_TooMany_NoName ?a_MOST_PAIRS ?a_PLAIN_WAYS ?lA_PLAIN_WAYS ?l1_PLAIN_WAYS ?l2_PLAIN_WAYS ?l3_PLAIN_WAYS ?l4_PLAIN_WAYS
   case aC_Ground | pg_Ground | hd_Ground | po_Ground | sa_Ground | mk_Ground | kc_Ground | nA_Ground_room | nA_Ground_x_bottoms | nA_Ground_y_bottoms | nA_Ground_ones | nA_Ground_others | a0 | l0 | c0 | k0 | a1 | l1 | c1 | k1 | a2 | l2 | c2 | k2 | a3 | l3 | c3 | k3 | a4 | l4 | c4 | k4 | a5 | l5 | c5 | k5 | a6 | l6 | c6 | k6 | a7 | l7 | c7 | k7 | a8 | l8 | c8 | k8 | a9 | l9 | c9 | k9 | a10 | i10 | l10 | c10 | k10 | a11 | l11 | c11 | k11 | a12 | l12 | c12 | k12 | a13 | i13 | l13 | c13 | k13 | a14 | l14 | c14 | k14 | a15 | l15 | c15 | k15 | a16 | l16 | c16 | k16 | a17 | l17 | c17 | k17 | a18 | l18 | c18 | k18 | a19 | l19 | c19 | k19 | a20 | l20 | c20 | k20 | a21 | l21 | c21 | k21 | a22 | l22 | c22 | k22 | a23 | l23 | c23 | k23 | a24 | l24 | c24 | k24 | a25 | l25 | c25 | k25 | a26 | l26 | c26 | k26 | a27 | l27 | c27 | k27 | a28 | l28 | c28 | k28 | a29 | l29 | c29 | k29 | a30 | l30 | c30 | k30 | z_len | z_abs | z_range | z_max | z_min | z_any | z_all | z_sum | z_isinstance | z_int | z_bool | z_tuple | z_list | z_str | z_ValueError | z_zip | z_reversed | z_enumerate | z_sorted | z_dict | a_SeatError | a_TooMany | a_NoShare | a_NoLower | a_NoMap | a_NoJoin | a_NoPlace | a_NoText | a_NoName | l_TooMany=>k_is
   case n_TooMany=>kernel_rfl
   case i_TooMany=>k_is
   case t_TooMany=>kernel_rfl
   case m_TooMany=>kts_exm
   case v_TooMany=>kit_is
   case m_STooMany=>kts_exm
   case xhg_TooMany | xhk_TooMany=>k_is
   case xhd_TooMany=>kernel_rfl
   case xha_TooMany | xhn_TooMany | xht_TooMany | xhm_TooMany | xhb_TooMany=>k_is
   case v_TooMany_NoShare | v_TooMany_NoLower | v_TooMany_NoMap | v_TooMany_NoJoin | v_TooMany_NoPlace | v_TooMany_NoText | v_TooMany_NoName=>kit_is
   case a_MOST_PAIRS | a_PLAIN_WAYS | lA_PLAIN_WAYS | l1_PLAIN_WAYS | l2_PLAIN_WAYS | l3_PLAIN_WAYS | l4_PLAIN_WAYS=>k_is
#print axioms PySem.Challenge.cw_curveseat_k64_too_many_holds
