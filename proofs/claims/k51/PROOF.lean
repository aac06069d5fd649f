import PyProof.Rows.All
import Wide.All
import OpenK.AllK
import Wide.FinOn
import Lean
import PyProof.EqAt
import PyProof.EqKinds
import PyProof.TupleCall
import PySem.Challenge.RW_curveseat_k51_whole_parted_or_not
set_option compiler.extract_closed false
set_option genSizeOfSpec false
noncomputable def PySem.W.Fast.tw6083445495237707471 : Unit := ()
noncomputable def PySem.W.Fast.tw10481385245380195727 : Unit := ()
noncomputable def PySem.W.Fast.tw13050177720943962290 : Unit := ()
noncomputable def PySem.W.Fast.tw7563867540841543156 : Unit := ()
noncomputable def PySem.W.Fast.tw8966791187425434396 : Unit := ()
noncomputable def PySem.W.Fast.tw13794951297521722516 : Unit := ()
noncomputable def PySem.W.Fast.tw16907320579526619508 : Unit := ()
noncomputable def PySem.W.Fast.tw9127065374766837464 : Unit := ()
noncomputable def PySem.W.Fast.tw2279757479853084459 : Unit := ()
noncomputable def PySem.W.Fast.tw7895316435350975501 : Unit := ()
noncomputable def PySem.W.Fast.tw8168416542630861276 : Unit := ()
noncomputable def PySem.W.Fast.tw16072024335658124602 : Unit := ()
noncomputable def PySem.W.Fast.tw7794225623139390104 : Unit := ()
noncomputable def PySem.W.Fast.tw9661921223924819659 : Unit := ()
noncomputable def PySem.W.Fast.tw347066119223882342 : Unit := ()
noncomputable def PySem.W.Fast.tw17012349789571873787 : Unit := ()
noncomputable def PySem.W.Fast.tw15198107699384286591 : Unit := ()
noncomputable def PySem.W.Fast.tw10647489733162375504 : Unit := ()
noncomputable def PySem.W.Fast.tw10831781793288019316 : Unit := ()
noncomputable def PySem.W.Fast.tw7365051345556999210 : Unit := ()
noncomputable def PySem.W.Fast.tw16157838243913848529 : Unit := ()
noncomputable def PySem.W.Fast.tw10123623001806536846 : Unit := ()
noncomputable def PySem.W.Fast.tw13831982333851804718 : Unit := ()
noncomputable def PySem.W.Fast.tw1029803523593018970 : Unit := ()
noncomputable def PySem.W.Fast.tw5610553372817817649 : Unit := ()
noncomputable def PySem.W.Fast.tw15867469487852417992 : Unit := ()
noncomputable def PySem.W.Fast.tw8269225073953068732 : Unit := ()
noncomputable def PySem.W.Fast.tw5999953739348540896 : Unit := ()
noncomputable def PySem.W.Fast.tw15022364933212720053 : Unit := ()
noncomputable def PySem.W.Fast.tw4399794503900616315 : Unit := ()
noncomputable def PySem.W.Fast.tw1235865548637554374 : Unit := ()
noncomputable def PySem.W.Fast.tw11178082275428498919 : Unit := ()
noncomputable def PySem.W.Fast.tw4865551361512257866 : Unit := ()
noncomputable def PySem.W.Fast.tw1059135583343816166 : Unit := ()
noncomputable def PySem.W.Fast.tw9646193236182287252 : Unit := ()
noncomputable def PySem.W.Fast.tw11318398452462381259 : Unit := ()
noncomputable def PySem.W.Fast.tw1189567995807309284 : Unit := ()
noncomputable def PySem.W.Fast.tw13296906061846976352 : Unit := ()
noncomputable def PySem.W.Fast.tw17379449698053368069 : Unit := ()
noncomputable def PySem.W.Fast.tw13158399352400731308 : Unit := ()
noncomputable def PySem.W.Fast.tw18203558031424543585 : Unit := ()
noncomputable def PySem.W.Fast.tw16445318449314220389 : Unit := ()
noncomputable def PySem.W.Fast.tw8594545934192443418 : Unit := ()
noncomputable def PySem.W.Fast.tw5549315101128367359 : Unit := ()
noncomputable def PySem.W.Fast.tw10572748901219539188 : Unit := ()
noncomputable def PySem.W.Fast.tw17631397599361756826 : Unit := ()
noncomputable def PySem.W.Fast.tw5209487996444218414 : Unit := ()
noncomputable def PySem.W.Fast.tw3653355599360871661 : Unit := ()
noncomputable def PySem.W.Fast.tw3893345912524213694 : Unit := ()
noncomputable def PySem.W.Fast.tw4050789925439671052 : Unit := ()
noncomputable def PySem.W.Fast.tw3025939846169280793 : Unit := ()
noncomputable def PySem.W.Fast.tw8762599948705201826 : Unit := ()
noncomputable def PySem.W.Fast.tw10146256417026880723 : Unit := ()
noncomputable def PySem.W.Fast.tw9614977152990867208 : Unit := ()
noncomputable def PySem.W.Fast.tw10617922262465521366 : Unit := ()
noncomputable def PySem.W.Fast.tw3917793526461690870 : Unit := ()
noncomputable def PySem.W.Fast.tw6968546221865723837 : Unit := ()
noncomputable def PySem.W.Fast.tw5871412321161271742 : Unit := ()
noncomputable def PySem.W.Fast.tw343607265969651508 : Unit := ()
noncomputable def PySem.W.Fast.tw5039130129927134773 : Unit := ()
noncomputable def PySem.W.Fast.tw8456699075233850253 : Unit := ()
noncomputable def PySem.W.Fast.tw15124020126442530745 : Unit := ()
noncomputable def PySem.W.Fast.tw13328804518106185843 : Unit := ()
noncomputable def PySem.W.Fast.tw3241880757888012777 : Unit := ()
noncomputable def PySem.W.Fast.tw17667131370665060340 : Unit := ()
noncomputable def PySem.W.Fast.tw8898577410244938534 : Unit := ()
noncomputable def PySem.W.Fast.tw12316745516752329108 : Unit := ()
noncomputable def PySem.W.Fast.tw14656342959911482994 : Unit := ()
noncomputable def PySem.W.Fast.tw7684231764071416380 : Unit := ()
noncomputable def PySem.W.Fast.tw14433373515173665004 : Unit := ()
noncomputable def PySem.W.Fast.tw6947885240622799452 : Unit := ()
noncomputable def PySem.W.Fast.tw7122520772472991000 : Unit := ()
noncomputable def PySem.W.Fast.tw11254773236106107120 : Unit := ()
noncomputable def PySem.W.Fast.tw6147249220871985066 : Unit := ()
noncomputable def PySem.W.Fast.tw7369052692805670813 : Unit := ()
noncomputable def PySem.W.Fast.tw12315657264325452871 : Unit := ()
noncomputable def PySem.W.Fast.tw18431042726885213148 : Unit := ()
noncomputable def PySem.W.Fast.tw6431928379772344425 : Unit := ()
noncomputable def PySem.W.Fast.tw3801272894773360055 : Unit := ()
noncomputable def PySem.W.Fast.tw14662088886827394498 : Unit := ()
noncomputable def PySem.W.Fast.tw6098944553887727117 : Unit := ()
noncomputable def PySem.W.Fast.tw10926924131689584653 : Unit := ()
noncomputable def PySem.W.Fast.tw115997504220774161 : Unit := ()
noncomputable def PySem.W.Fast.tw3746657604267782429 : Unit := ()
noncomputable def PySem.W.Fast.tw9858691803385450589 : Unit := ()
noncomputable def PySem.W.Fast.tw1204118749974247513 : Unit := ()
noncomputable def PySem.W.Fast.tw9900374534358571424 : Unit := ()
noncomputable def PySem.W.Fast.tw8715750377510683349 : Unit := ()
noncomputable def PySem.W.Fast.tw2578060970915481737 : Unit := ()
noncomputable def PySem.W.Fast.tw1990367198532873108 : Unit := ()
noncomputable def PySem.W.Fast.tw12602495789477618742 : Unit := ()
noncomputable def PySem.W.Fast.tw8835411587754841475 : Unit := ()
noncomputable def PySem.W.Fast.tw9634159698442289985 : Unit := ()
noncomputable def PySem.W.Fast.tw11101765847507676165 : Unit := ()
noncomputable def PySem.W.Fast.tw3404302723806157033 : Unit := ()
noncomputable def PySem.W.Fast.tw2458953861810605401 : Unit := ()
noncomputable def PySem.W.Fast.tw13284731801444609013 : Unit := ()
noncomputable def PySem.W.Fast.tw14962093812018525757 : Unit := ()
noncomputable def PySem.W.Fast.tw16681144882213188092 : Unit := ()
noncomputable def PySem.W.Fast.tw5192263318215068669 : Unit := ()
noncomputable def PySem.W.Fast.tw15489898249543434503 : Unit := ()
noncomputable def PySem.W.Fast.tw3460906440676480369 : Unit := ()
noncomputable def PySem.W.Fast.tw2951800939985705818 : Unit := ()
noncomputable def PySem.W.Fast.tw14730815607814094994 : Unit := ()
noncomputable def PySem.W.Fast.tw9875849719627333220 : Unit := ()
noncomputable def PySem.W.Fast.tw16511960604076723990 : Unit := ()
noncomputable def PySem.W.Fast.tw8339336332915460425 : Unit := ()
noncomputable def PySem.W.Fast.tw8698691708006690559 : Unit := ()
noncomputable def PySem.W.Fast.tw16836490190391171010 : Unit := ()
noncomputable def PySem.W.Fast.tw17244291623027360908 : Unit := ()
noncomputable def PySem.W.Fast.tw16203165048564359646 : Unit := ()
noncomputable def PySem.W.Fast.tw9075754480561650645 : Unit := ()
noncomputable def PySem.W.Fast.tw13374891289253457913 : Unit := ()
noncomputable def PySem.W.Fast.tw14410224114622951414 : Unit := ()
noncomputable def PySem.W.Fast.tw9487721852266278956 : Unit := ()
noncomputable def PySem.W.Fast.tw13185786176200586561 : Unit := ()
noncomputable def PySem.W.Fast.tw8203367903858624657 : Unit := ()
noncomputable def PySem.W.Fast.tw13856027277083016548 : Unit := ()
noncomputable def PySem.W.Fast.tw18344809277712888889 : Unit := ()
noncomputable def PySem.W.Fast.tw2985942838863365645 : Unit := ()
noncomputable def PySem.W.Fast.tw1227079789295548958 : Unit := ()
noncomputable def PySem.W.Fast.tw6875041896091773991 : Unit := ()
noncomputable def PySem.W.Fast.tw16153554267996374025 : Unit := ()
noncomputable def PySem.W.Fast.tw2551523007521343556 : Unit := ()
noncomputable def PySem.W.Fast.tw6288818070011099506 : Unit := ()
noncomputable def PySem.W.Fast.tw8211952958857490895 : Unit := ()
noncomputable def PySem.W.Fast.tw14293536582307169981 : Unit := ()
noncomputable def PySem.W.Fast.tw10860088477179687319 : Unit := ()
noncomputable def PySem.W.Fast.tw2546492197941411258 : Unit := ()
noncomputable def PySem.W.Fast.tw6634405886403103173 : Unit := ()
noncomputable def PySem.W.Fast.tw6898635733232159308 : Unit := ()
noncomputable def PySem.W.Fast.tw477994195252276983 : Unit := ()
noncomputable def PySem.W.Fast.tw17136571992008287063 : Unit := ()
noncomputable def PySem.W.Fast.tw13705646630527502253 : Unit := ()
noncomputable def PySem.W.Fast.tw1707779818997878007 : Unit := ()
noncomputable def PySem.W.Fast.tw17561940877137881323 : Unit := ()
noncomputable def PySem.W.Fast.tw13163207303192994452 : Unit := ()
noncomputable def PySem.W.Fast.tw16218070573433954830 : Unit := ()
noncomputable def PySem.W.Fast.tw12497743670276587053 : Unit := ()
noncomputable def PySem.W.Fast.tw14639329841678532182 : Unit := ()
noncomputable def PySem.W.Fast.tw7559240322016142707 : Unit := ()
noncomputable def PySem.W.Fast.tw2825220495145399405 : Unit := ()
noncomputable def PySem.W.Fast.tw17191011364465451818 : Unit := ()
noncomputable def PySem.W.Fast.tw5597422024490926189 : Unit := ()
noncomputable def PySem.W.Fast.tw4600682565554351553 : Unit := ()
noncomputable def PySem.W.Fast.tw785762349403236551 : Unit := ()
noncomputable def PySem.W.Fast.tw15685092348752364169 : Unit := ()
noncomputable def PySem.W.Fast.tw977089466928729887 : Unit := ()
noncomputable def PySem.W.Fast.tw2496038997194856526 : Unit := ()
noncomputable def PySem.W.Fast.tw14187476612519693409 : Unit := ()
noncomputable def PySem.W.Fast.tw1978352158822237164 : Unit := ()
noncomputable def PySem.W.Fast.tw9823357279244994602 : Unit := ()
noncomputable def PySem.W.Fast.tw13807666726449091655 : Unit := ()
noncomputable def PySem.W.Fast.tw16631818514642160884 : Unit := ()
noncomputable def PySem.W.Fast.tw17382165124847305712 : Unit := ()
noncomputable def PySem.W.Fast.tw4891759894730047508 : Unit := ()
noncomputable def PySem.W.Fast.tw7751131218984817819 : Unit := ()
noncomputable def PySem.W.Fast.tw1024322403240242400 : Unit := ()
noncomputable def PySem.W.Fast.tw6441644424821384277 : Unit := ()
noncomputable def PySem.W.Fast.tw12390472533002348480 : Unit := ()
noncomputable def PySem.W.Fast.tw12085309500741584022 : Unit := ()
noncomputable def PySem.W.Fast.tw13896768555521417472 : Unit := ()
noncomputable def PySem.W.Fast.tw5769851999684241553 : Unit := ()
noncomputable def PySem.W.Fast.tw11521235551920878190 : Unit := ()
noncomputable def PySem.W.Fast.tw9695339658637003933 : Unit := ()
noncomputable def PySem.W.Fast.tw15532348958663110356 : Unit := ()
noncomputable def PySem.W.Fast.tw15069138178738848111 : Unit := ()
noncomputable def PySem.W.Fast.tw878037556082467412 : Unit := ()
noncomputable def PySem.W.Fast.tw13475780994566418260 : Unit := ()
noncomputable def PySem.W.Fast.tw7242301694029239228 : Unit := ()
noncomputable def PySem.W.Fast.tw6646507764906855711 : Unit := ()
noncomputable def PySem.W.Fast.tw8036109304039046506 : Unit := ()
noncomputable def PySem.W.Fast.tw11752293063750048507 : Unit := ()
noncomputable def PySem.W.Fast.tw1406608442189300153 : Unit := ()
noncomputable def PySem.W.Fast.tw6481882029368446091 : Unit := ()
noncomputable def PySem.W.Fast.tw1614513107736450082 : Unit := ()
noncomputable def PySem.W.Fast.tw10886127589652851610 : Unit := ()
noncomputable def PySem.W.Fast.tw760698928969739330 : Unit := ()
noncomputable def PySem.W.Fast.tw1571202332554938001 : Unit := ()
noncomputable def PySem.W.Fast.tw18412173684908386998 : Unit := ()
noncomputable def PySem.W.Fast.tw1281405321893502144 : Unit := ()
noncomputable def PySem.W.Fast.tw2387816067113301274 : Unit := ()
noncomputable def PySem.W.Fast.tw18029309243041438943 : Unit := ()
noncomputable def PySem.W.Fast.tw11226838973105682323 : Unit := ()
noncomputable def PySem.W.Fast.tw3376874411707855651 : Unit := ()
noncomputable def PySem.W.Fast.tw14354713163190558037 : Unit := ()
noncomputable def PySem.W.Fast.tw9304348021519096233 : Unit := ()
noncomputable def PySem.W.Fast.tw13604127006369172056 : Unit := ()
noncomputable def PySem.W.Fast.tw2684358682737994663 : Unit := ()
noncomputable def PySem.W.Fast.tw11075220214008849510 : Unit := ()
noncomputable def PySem.W.Fast.tw13683264346796867073 : Unit := ()
noncomputable def PySem.W.Fast.tw14927919456923871489 : Unit := ()
noncomputable def PySem.W.Fast.tw12381935033168087820 : Unit := ()
noncomputable def PySem.W.Fast.tw13208359695454673659 : Unit := ()
noncomputable def PySem.W.Fast.tw10699664301167061596 : Unit := ()
noncomputable def PySem.W.Fast.tw14684826902408910841 : Unit := ()
noncomputable def PySem.W.Fast.tw9710894681739064770 : Unit := ()
noncomputable def PySem.W.Fast.tw15365495916394857311 : Unit := ()
noncomputable def PySem.W.Fast.tw6410482483847730975 : Unit := ()
noncomputable def PySem.W.Fast.tw6296217460984447496 : Unit := ()
noncomputable def PySem.W.Fast.tw2078375349929898517 : Unit := ()
noncomputable def PySem.W.Fast.tw9008016401375682695 : Unit := ()
noncomputable def PySem.W.Fast.tw11017753420564636025 : Unit := ()
noncomputable def PySem.W.Fast.tw17648804025003273023 : Unit := ()
noncomputable def PySem.W.Fast.tw9638501160253778906 : Unit := ()
noncomputable def PySem.W.Fast.tw13567003115734847962 : Unit := ()
noncomputable def PySem.W.Fast.tw736618558324450827 : Unit := ()
noncomputable def PySem.W.Fast.tw12556471314460725745 : Unit := ()
noncomputable def PySem.W.Fast.tw7691362221668006979 : Unit := ()
noncomputable def PySem.W.Fast.tw6098542229191653466 : Unit := ()
noncomputable def PySem.W.Fast.tw6856250967646617158 : Unit := ()
noncomputable def PySem.W.Fast.tw2543255336036856549 : Unit := ()
noncomputable def PySem.W.Fast.tw12179814588829194907 : Unit := ()
noncomputable def PySem.W.Fast.tw18339372877451003914 : Unit := ()
noncomputable def PySem.W.Fast.tw9622532583678924549 : Unit := ()
noncomputable def PySem.W.Fast.tw678645724729565892 : Unit := ()
noncomputable def PySem.W.Fast.tw17406317015114821166 : Unit := ()
noncomputable def PySem.W.Fast.tw16578226542738222064 : Unit := ()
noncomputable def PySem.W.Fast.tw10419790728184896349 : Unit := ()
noncomputable def PySem.W.Fast.tw8098187389205676750 : Unit := ()
noncomputable def PySem.W.Fast.tw16115485624210377931 : Unit := ()
noncomputable def PySem.W.Fast.tw9617978547652654787 : Unit := ()
noncomputable def PySem.W.Fast.tw13909107796806148320 : Unit := ()
noncomputable def PySem.W.Fast.tw17259482569626567252 : Unit := ()
noncomputable def PySem.W.Fast.tw2118478021194748320 : Unit := ()
noncomputable def PySem.W.Fast.tw11492414368637925641 : Unit := ()
noncomputable def PySem.W.Fast.tw9944444574952696626 : Unit := ()
noncomputable def PySem.W.Fast.tw16447407214649281327 : Unit := ()
noncomputable def PySem.W.Fast.tw4501752978815064624 : Unit := ()
noncomputable def PySem.W.Fast.tw12428377661017916322 : Unit := ()
noncomputable def PySem.W.Fast.tw4448627216538293501 : Unit := ()
noncomputable def PySem.W.Fast.tw5003851366899703967 : Unit := ()
noncomputable def PySem.W.Fast.tw10491606159352010169 : Unit := ()
noncomputable def PySem.W.Fast.tw4316745779120383747 : Unit := ()
noncomputable def PySem.W.Fast.tw9633769695657515422 : Unit := ()
noncomputable def PySem.W.Fast.tw3956341729159810059 : Unit := ()
noncomputable def PySem.W.Fast.tw12521897575072012874 : Unit := ()
noncomputable def PySem.W.Fast.tw10422884700082964747 : Unit := ()
noncomputable def PySem.W.Fast.tw4964657643345052232 : Unit := ()
set_option Elab.async false
set_option linter.all false
set_option maxRecDepth 100000
/-! THE HAND LAYER, for ints, bools, texts, own classes, LISTS and tuples (index, slices, in, append, pop ..), calls, loops. Paste it whole ahead of your own text; what your proof does not reach may be deleted. -/
namespace L2
open PySem PySem.Spec PyProof.Rows

/-- a key: an int or a str -/
noncomputable abbrev Key := Sum Int Str
noncomputable def keyIs : Key → Value → Bool
  | .inl k, v => Value.isInt k v
  | .inr x, v => Value.isStrOf x v
noncomputable def keyH (w : World) : Key → Int
  | .inl k => hashInt k
  | .inr x => hashStr w x
theorem keyIs_shape : ∀ {k : Key} {v : Value}, keyIs k v = true → (∃ i t, k = Sum.inl i ∧ v = Value.int i t) ∨ (∃ x t, k = Sum.inr x ∧ v = Value.str x t)
  | .inl i, v, h => by
    obtain ⟨t, e⟩ := Value.isInt_shape (k := i) (v := v) h
    exact .inl ⟨i, t, rfl, e⟩
  | .inr x, v, h => by
    obtain ⟨t, e⟩ := Value.isStrOf_shape (x := x) (v := v) h
    exact .inr ⟨x, t, rfl, e⟩
theorem key_ll (a b : Int) : decide ((Sum.inl a : Key) = Sum.inl b) = (a == b) := by
  by_cases e : a = b
  · subst e; simp
  · have h : ¬ (Sum.inl a : Key) = Sum.inl b := fun q => e (Sum.inl.inj q)
    rw [decide_eq_false h]
    exact (beq_eq_false_iff_ne.mpr e).symm
theorem key_rr (a b : Str) : decide ((Sum.inr a : Key) = Sum.inr b) = decide (a = b) := by
  by_cases e : a = b
  · subst e; simp
  · have h : ¬ (Sum.inr a : Key) = Sum.inr b := fun q => e (Sum.inr.inj q)
    rw [decide_eq_false h, decide_eq_false e]
theorem key_lr (a : Int) (b : Str) : decide ((Sum.inl a : Key) = Sum.inr b) = false := decide_eq_false (fun q => nomatch q)
theorem key_rl (a : Str) (b : Int) : decide ((Sum.inr a : Key) = Sum.inl b) = false := decide_eq_false (fun q => nomatch q)

noncomputable def mixKind (prog : Program) (w : World) : PySem.KeyKind prog w Key where
  is := keyIs
  hash := keyH w
  inj := fun v a b ha hb => by
    rcases keyIs_shape ha with ⟨i, t, rfl, rfl⟩ | ⟨x, t, rfl, rfl⟩
    · rcases keyIs_shape hb with ⟨j, u, rfl, e⟩ | ⟨y, u, rfl, e⟩
      · injection e with e1 _; rw [e1]
      · exact nomatch e
    · rcases keyIs_shape hb with ⟨j, u, rfl, e⟩ | ⟨y, u, rfl, e⟩
      · exact nomatch e
      · injection e with e1 _; rw [e1]
  byValue := fun k v h => by
    rcases keyIs_shape h with ⟨i, t, rfl, rfl⟩ | ⟨x, t, rfl, rfl⟩ <;> rfl
  pyHash := fun hv h => by
    rcases keyIs_shape hv with ⟨i, t, rfl, rfl⟩ | ⟨x, t, rfl, rfl⟩
    · exact wpAny_pyHash_int h
    · exact wpAny_pyHash_str h
  eqBool := fun hu hv h => by
    rcases keyIs_shape hu with ⟨i, t, rfl, rfl⟩ | ⟨x, t, rfl, rfl⟩
    · rcases keyIs_shape hv with ⟨j, u, rfl, rfl⟩ | ⟨y, u, rfl, rfl⟩
      · rw [key_ll] at h; exact wpAny_eqBool_int h
      · rw [key_lr] at h; exact SeqAt.EqAt.int_str i t y u _ _ _ _ h
    · rcases keyIs_shape hv with ⟨j, u, rfl, rfl⟩ | ⟨y, u, rfl, rfl⟩
      · rw [key_rl] at h; exact SeqAt.EqAt.str_int x t j u _ _ _ _ h
      · rw [key_rr] at h; exact wpAny_eqBool_str h
  «strs» := fun k x t v h => by
    rcases keyIs_shape h with ⟨i, u, rfl, e⟩ | ⟨y, u, rfl, e⟩
    · exact nomatch e
    · injection e with e1 _
      subst e1
      cases v <;> rfl

end L2

namespace L2
open PySem PySem.Spec PyProof.Rows

/-- a value, without the heap -/
inductive V where
  | non | bl (b : Bool) | int (i : Int) | str (x : Str) | byt (b : Array UInt8) | flt (b : UInt64) | ref (a : Addr) | ty (n : String)
  deriving DecidableEq

noncomputable def RelV : V → Value → Prop
  | .non, u => u = Value.none
  | .bl b, u => u = Value.bool b
  | .int i, u => ∃ t, u = Value.int i t
  | .str x, u => ∃ t, u = Value.str x t
  | .byt b, u => ∃ t, u = Value.bytes b t
  | .flt b, u => ∃ t, u = Value.float b t
  | .ref a, u => u = Value.ref a
  | .ty n, u => u = Value.type n

noncomputable abbrev Vals : List V → List Value → Prop := Paired RelV
theorem Vals.length {xs : List V} {us : List Value} (r : Vals xs us) : xs.length = us.length := Paired.length r
theorem Vals.get : ∀ {xs : List V} {us : List Value} {i : Nat} {x : V}, Vals xs us → xs[i]? = some x → ∃ u, us[i]? = some u ∧ RelV x u
  | _, _, _, _, .nil, e => by simp at e
  | _, _, 0, _, .cons r _, e => by simp at e; subst e; exact ⟨_, rfl, r⟩
  | _, _, i + 1, x, .cons _ t, e => by
    obtain ⟨u, h1, h2⟩ := Vals.get (i := i) (x := x) t (by simpa using e)
    exact ⟨u, by simpa using h1, h2⟩
theorem Vals.set {x : V} {u : Value} (r : RelV x u) : ∀ {xs : List V} {us : List Value} (i : Nat), Vals xs us → Vals (xs.set i x) (us.set i u)
  | _, _, _, .nil => .nil
  | _, _, 0, .cons _ t => .cons r t
  | _, _, i + 1, .cons q t => .cons q (Vals.set r i t)
theorem Vals.append : ∀ {xs ys : List V} {us ws : List Value}, Vals xs us → Vals ys ws → Vals (xs ++ ys) (us ++ ws)
  | _, _, _, _, .nil, s => s
  | _, _, _, _, .cons r t, s => .cons r (Vals.append t s)
theorem Vals.take : ∀ {xs : List V} {us : List Value} (n : Nat), Vals xs us → Vals (xs.take n) (us.take n)
  | _, _, 0, _ => .nil
  | _, _, _ + 1, .nil => .nil
  | _, _, n + 1, .cons r t => .cons r (Vals.take n t)
theorem Vals.drop : ∀ {xs : List V} {us : List Value} (n : Nat), Vals xs us → Vals (xs.drop n) (us.drop n)
  | _, _, 0, r => r
  | _, _, _ + 1, .nil => .nil
  | _, _, n + 1, .cons _ t => Vals.drop n t
theorem Vals.none_of : ∀ {xs : List V} {us : List Value} {i : Nat}, Vals xs us → xs[i]? = none → us[i]? = none := fun {xs us i} r e => by
  have h1 := r.length
  have h2 : xs.length ≤ i := List.getElem?_eq_none_iff.mp e
  exact List.getElem?_eq_none_iff.mpr (by omega)

noncomputable def RelO : Option V → Option Value → Prop
  | some v, some u => RelV v u
  | none, none => True
  | _, _ => False
noncomputable def KV {κ : Type} : List (κ × V) → List (κ × Value) → Prop := Paired fun (p : κ × V) (q : κ × Value) => p.1 = q.1 ∧ RelV p.2 q.2

/-- a key of a dict (00_mix): an int or a text -/
noncomputable def kV : Key → V
  | .inl i => .int i
  | .inr x => .str x

/-- what stands at a tracked address -/
inductive HO where
  /-- a list -/
  | lst (xs : List V)
  /-- a tuple (never changes) -/
  | tup (xs : List V)
  /-- a dict whose keys are ints and texts; one whose keys are tuples of ints and texts (the empty one is both) -/
  | dK (kvs : List (Key × V)) | dT (kvs : List (List Key × V))
  /-- a set of ints: its members, its size -/
  | set (S : Int → Bool) (n : Nat)
  /-- an instance of the class at C, its dict at dx, its attributes -/
  | ins (C dx : Addr) (fs : List (Str × V))
  /-- the dict of the instance at x -/
  | own (x : Addr)
  /-- the dict of an exception -/
  | xd (fs : List (Str × V))
  /-- a bound method, f of x -/
  | met (f x : Addr)
  /-- a range object lo, lo + 1, .. below hi -/
  | rng (lo hi : Int)
  /-- a thing that is known to the object (the script; a dict while a loop walks it): read, never written while it is so -/
  | frz (o : Obj) (u : HO)
  /-- a code object's table -/
  | tbl (ps : Array Value)
  /-- any other thing, by what is true of its one object (a def of one's own: SetO a S n := HO.ext fun h => ..) -/
  | ext (φ : Heap → Prop)

noncomputable abbrev Hp := Addr → Option HO
noncomputable def upd (H : Hp) (a : Addr) (o : HO) : Hp := fun b => if b = a then some o else H b
theorem upd_same {H : Hp} {a : Addr} {o : HO} : upd H a o a = some o := by unfold upd; rw [if_pos rfl]
theorem upd_ne {H : Hp} {a b : Addr} {o : HO} (h : b ≠ a) : upd H a o b = H b := by unfold upd; rw [if_neg h]
/-- two objects of different content stand apart -/
theorem ne_of_none {H : Hp} {a b : Addr} {o : HO} (h : H a = some o) (h' : H b = none) : a ≠ b := by
  intro e; subst e; rw [h] at h'; cases h'

section
variable (P : Program) (w : World)
noncomputable def ObjOk (H : Hp) (h : Heap) (a : Addr) : HO → Prop
  | .lst xs => xs.length ≤ sizeLine ∧ ∃ (its : List Value) (n : Nat), Vals xs its ∧ h.get? a = some { cls := .type "list", data := .seq its.toArray n }
  | .tup xs => xs.length ≤ sizeLine ∧ ∃ its : List Value, Vals xs its ∧ IsTup h a its.toArray
  | .dK kvs => kvs.length ≤ sizeLine ∧ (a == sysModules) = false ∧ ∃ vs, KV kvs vs ∧ h.DictOf (mixKind P w) a vs
  | .dT kvs => kvs.length ≤ sizeLine ∧ (a == sysModules) = false ∧ ∃ xs : List (List Key × Addr × Value),
      Paired (fun (p : List Key × V) (q : List Key × Addr × Value) => p.1 = q.1 ∧ H q.2.1 = some (.tup (p.1.map kV)) ∧ RelV p.2 q.2.2) kvs xs ∧
      ∃ o es ep, h.get? a = some o ∧ o.ExactDict ∧ o.data = .dict es ep ∧ es.toList = xs.map (entryOfKey (tupleKind (mixKind P w))) ∧ (xs.map (·.1)).Nodup
  | .set S n => h.SetOf (intKind P w) a S n
  | .ins C dx fs => H dx = some (.own a) ∧ fs.length ≤ 1000 ∧ dx ≠ a ∧ h.get? a = some (PySem.W.instObj C dx) ∧
      ∃ mA, h.Ns1 dx mA ∧ (∀ f, RelO (fs.lookup f) (mA f)) ∧ PySem.Within mA (fs.map (·.1))
  | .own _ => ∃ o, h.get? a = some o
  | .xd fs => ∃ mA, h.Ns1 a mA ∧ ∀ f, RelO (fs.lookup f) (mA f)
  | .rng lo hi => ∃ t u v, h.get? a = some { cls := .type "range", data := .fields #[.int lo t, .int hi u, .int 1 v] }
  | .frz o u => h.get? a = some o ∧ ObjOk H h a u
  | .tbl ps => h.get? a = some { cls := .none, data := .fields ps }
  | .met f x => h.get? a = some (PySem.W.methodObj (.ref f) (.ref x))
  | .ext φ => φ h ∧ (∃ o, h.get? a = some o) ∧ ∀ h1 h2 : Heap, φ h1 → (∀ o, h1.get? a = some o → h2.get? a = some o) → φ h2
/-- the abstract heap is held -/
noncomputable def HOk (H : Hp) (h : Heap) : Prop := ∀ a o, H a = some o → ObjOk P w H h a o
end

section
variable {P : Program} {w : World} {H H' : Hp} {h h' : Heap} {a : Addr} {o : HO}
theorem ObjOk.lt (x : ObjOk P w H h a o) : a < h.objs.size := by
  cases o with
  | lst xs => obtain ⟨_, _, _, _, e⟩ := x; exact Heap.lt_size e
  | tup xs => obtain ⟨_, _, _, p⟩ := x; exact p.lt
  | dK kvs => obtain ⟨_, _, _, _, o, _, _, e, _⟩ := x; exact Heap.lt_size e
  | dT kvs => obtain ⟨_, _, _, _, o, _, _, e, _⟩ := x; exact Heap.lt_size e
  | set S n => obtain ⟨o, _, _, _, e, _⟩ := x; exact Heap.lt_size e
  | ins C dx fs => obtain ⟨_, _, _, e, _⟩ := x; exact Heap.lt_size e
  | own y => obtain ⟨_, e⟩ := x; exact Heap.lt_size e
  | xd fs => obtain ⟨_, ⟨_, _, _, e, _⟩, _⟩ := x; exact Heap.lt_size e
  | rng lo hi => obtain ⟨_, _, _, e⟩ := x; exact Heap.lt_size e
  | frz ob u => obtain ⟨e, _⟩ := x; exact Heap.lt_size e
  | tbl ps => exact Heap.lt_size (show h.get? a = some _ from x)
  | met f y => exact Heap.lt_size (show h.get? a = some _ from x)
  | ext φ => obtain ⟨_, ⟨_, e⟩, _⟩ := x; exact Heap.lt_size e
theorem Paired.mapP {α β : Type} {F G : α → β → Prop} : ∀ {l₁ : List α} {l₂ : List β}, Paired F l₁ l₂ → (∀ a b, F a b → G a b) → Paired G l₁ l₂
  | _, _, .nil, _ => .nil
  | _, _, .cons r t, f => .cons (f _ _ r) (Paired.mapP t f)
/-- what an object's description leans on: its own object, its own dict, the tuples -/
theorem ObjOk.stay (x : ObjOk P w H h a o) (k : ∀ b u, (b = a ∨ H b = some (.own a)) → h.get? b = some u → h'.get? b = some u)
    (ho : ∀ b, H b = some (.own a) → H' b = some (.own a)) (ht : ∀ b xs, H b = some (.tup xs) → H' b = some (.tup xs)) : ObjOk P w H' h' a o := by
  induction o with
  | lst xs => obtain ⟨z, its, n, r, e⟩ := x; exact ⟨z, its, n, r, k _ _ (.inl rfl) e⟩
  | tup xs => obtain ⟨z, its, r, ob, e, c⟩ := x; exact ⟨z, its, r, ob, k _ _ (.inl rfl) e, c⟩
  | dK kvs => obtain ⟨z, y, vs, r, ob, es, ep, e, c⟩ := x; exact ⟨z, y, vs, r, ob, es, ep, k _ _ (.inl rfl) e, c⟩
  | dT kvs =>
    obtain ⟨z, y, xs, r, ob, es, ep, e, c⟩ := x
    exact ⟨z, y, xs, Paired.mapP r fun p q z => ⟨z.1, ht _ _ z.2.1, z.2.2⟩, ob, es, ep, k _ _ (.inl rfl) e, c⟩
  | set S n => obtain ⟨ob, es, ep, t, e, c⟩ := x; exact ⟨ob, es, ep, t, k _ _ (.inl rfl) e, c⟩
  | ins C dx fs =>
    obtain ⟨d, z, ne, e, mA, ⟨od, es, ep, e2, c⟩, r⟩ := x
    exact ⟨ho _ d, z, ne, k _ _ (.inl rfl) e, mA, ⟨od, es, ep, k _ _ (.inr d) e2, c⟩, r⟩
  | own y => obtain ⟨ob, e⟩ := x; exact ⟨ob, k _ _ (.inl rfl) e⟩
  | xd fs => obtain ⟨mA, ⟨od, es, ep, e, c⟩, r⟩ := x; exact ⟨mA, ⟨od, es, ep, k _ _ (.inl rfl) e, c⟩, r⟩
  | rng lo hi => obtain ⟨t, u, v, e⟩ := x; exact ⟨t, u, v, k _ _ (.inl rfl) e⟩
  | frz ob u ih => obtain ⟨e, q⟩ := x; exact ⟨k _ _ (.inl rfl) e, ih q⟩
  | tbl ps =>
    have e : h.get? a = some { cls := .none, data := .fields ps } := x
    show h'.get? a = some { cls := .none, data := .fields ps }
    exact k a _ (.inl rfl) e
  | met f y =>
    have e : h.get? a = some (PySem.W.methodObj (.ref f) (.ref y)) := x
    show h'.get? a = some (PySem.W.methodObj (.ref f) (.ref y))
    exact k a _ (.inl rfl) e
  | ext φ => obtain ⟨p, ⟨o, e⟩, st⟩ := x; exact ⟨st _ _ p fun o q => k _ _ (.inl rfl) q, ⟨o, k _ _ (.inl rfl) e⟩, st⟩
theorem HOk.lt (x : HOk P w H h) (e : H a = some o) : a < h.objs.size := (x a o e).lt
theorem HOk.fresh (x : HOk P w H h) (e : h.objs.size ≤ a) : H a = none := by
  cases q : H a with
  | none => rfl
  | some u => exact absurd (Nat.lt_of_lt_of_le (x.lt q) e) (Nat.lt_irrefl _)
/-- every object of the heap is kept -/
theorem HOk.kept (x : HOk P w H h) (k : ∀ b u, h.get? b = some u → h'.get? b = some u) : HOk P w H h' := fun a o e =>
  (x a o e).stay (fun b u _ q => k b u q) (fun _ q => q) fun _ _ q => q
/-- a new object is laid and tracked -/
theorem HOk.laid (x : HOk P w H h) (k : ∀ b u, h.get? b = some u → h'.get? b = some u) (hp : h.objs.size ≤ a) (new : ObjOk P w (upd H a o) h' a o) : HOk P w (upd H a o) h' := fun b u e => by
  have hn := x.fresh hp
  by_cases hb : b = a
  · subst hb; rw [upd_same] at e; cases e; exact new
  · rw [upd_ne hb] at e
    exact (x b u e).stay (fun c v _ q => k c v q) (fun c q => by rw [upd_ne (ne_of_none q hn)]; exact q) fun c xs q => by rw [upd_ne (ne_of_none q hn)]; exact q
end

/-- what may be read as u: it is u, or a known u -/
noncomputable def Rd (H : Hp) (a : Addr) (u : HO) : Prop := H a = some u ∨ ∃ o, H a = some (.frz o u)
theorem Rd.of {H : Hp} {a : Addr} {u : HO} (h : H a = some u) : Rd H a u := .inl h
theorem Rd.ok {P : Program} {w : World} {H : Hp} {h : Heap} {a : Addr} {u : HO} (r : Rd H a u) (x : HOk P w H h) : ObjOk P w H h a u := by
  rcases r with r | ⟨o, r⟩
  · exact x a u r
  · obtain ⟨_, q⟩ := x a _ r
    exact q
/-- what may be written -/
noncomputable def Mut : Option HO → Prop
  | some (.lst _) => True
  | some (.dK _) => True
  | some (.dT _) => True
  | some (.set _ _) => True
  | some (.ins _ _ _) => True
  | some (.ext _) => True
  | _ => False
section
variable {P : Program} {w : World} {H : Hp} {h h' : Heap} {x e : Addr} {o' : HO}
/-- the object at e is changed: x itself, or the dict of the instance x -/
theorem HOk.write (ok : HOk P w H h) (mu : Mut (H x)) (he : e = x ∨ H e = some (.own x)) (k : ∀ b u, b ≠ e → h.get? b = some u → h'.get? b = some u) (heo : ∃ u, h'.get? e = some u)
    (new : ObjOk P w (upd H x o') h' x o') : HOk P w (upd H x o') h' := fun b u q => by
  have nown : ∀ c y, H c = some (.own y) → c ≠ x := fun c y r z => by subst z; rw [r] at mu; exact mu
  have ntup : ∀ c xs, H c = some (.tup xs) → c ≠ x := fun c xs r z => by subst z; rw [r] at mu; exact mu
  by_cases hb : b = x
  · subst hb; rw [upd_same] at q; cases q; exact new
  · rw [upd_ne hb] at q
    by_cases hbe : b = e
    · have q' : H b = some (.own x) := by
        rcases he with z | z
        · exact absurd (hbe.trans z) hb
        · rw [hbe]; exact z
      rw [q] at q'; cases q'
      obtain ⟨v, hv⟩ := heo
      exact ⟨v, by rw [hbe]; exact hv⟩
    · refine (ok b u q).stay (fun c v hc r => k c v ?_ r) (fun c r => by rw [upd_ne (nown c b r)]; exact r) fun c xs r => by rw [upd_ne (ntup c xs r)]; exact r
      rcases hc with rfl | hc
      · exact hbe
      · rintro rfl
        rcases he with z | z
        · exact nown c b hc z
        · rw [hc] at z; cases z; exact hb rfl
end

/-! ### kept unless tracked; of the frames at fs (the callers') the slots may change (an exception that passes writes there); of the records at ex (iterators) nothing is said -/
structure Un (fs ex : List Addr) (H H' : Hp) (h h' : Heap) : Prop where
  keep : ∀ b o, h.get? b = some o → H b = none → b ∉ fs → b ∉ ex → h'.get? b = some o
  slot : ∀ b o, h.get? b = some o → H b = none → b ∈ fs → b ∉ ex → ∃ sl, h'.get? b = some { o with slots := sl }
  free : ∀ b o, h.get? b = some o → H b = none → b ∉ ex → H' b = none
  there : ∀ b o, h.get? b = some o → b ∉ ex → ∃ o', h'.get? b = some o'
  tups : ∀ b xs, H b = some (.tup xs) → H' b = some (.tup xs)
  frzs : ∀ b o u, H b = some (.frz o u) → H' b = some (.frz o u)
  tbls : ∀ b ps, H b = some (.tbl ps) → ∃ more, H' b = some (.tbl (ps ++ more))
section
variable {fs fs' ex ex' : List Addr} {H H1 H2 : Hp} {h h1 h2 h' : Heap} {a x e : Addr} {o : HO}
theorem Un.any (u : Un fs ex H H1 h h1) {b : Addr} {ob : Obj} (q : h.get? b = some ob) (n : H b = none) (hx : b ∉ ex) : ∃ sl, h1.get? b = some { ob with slots := sl } := by
  by_cases hb : b ∈ fs
  · exact u.slot b ob q n hb hx
  · exact ⟨ob.slots, u.keep b ob q n hb hx⟩
theorem Un.trans (a : Un fs ex H H1 h h1) (b : Un fs ex H1 H2 h1 h2) : Un fs ex H H2 h h2 where
  keep := fun c ob q n hc hx => b.keep c ob (a.keep c ob q n hc hx) (a.free c ob q n hx) hc hx
  slot := fun c ob q n hc hx => by
    obtain ⟨sl, e1⟩ := a.slot c ob q n hc hx
    obtain ⟨sl', e2⟩ := b.slot c _ e1 (a.free c ob q n hx) hc hx
    exact ⟨sl', e2⟩
  free := fun c ob q n hx => by
    obtain ⟨o', e1⟩ := a.there c ob q hx
    exact b.free c o' e1 (a.free c ob q n hx) hx
  there := fun c ob q hx => by
    obtain ⟨o', e1⟩ := a.there c ob q hx
    exact b.there c o' e1 hx
  tups := fun c xs q => b.tups c xs (a.tups c xs q)
  frzs := fun c ob xs q => b.frzs c ob xs (a.frzs c ob xs q)
  tbls := fun c ps q => by
    obtain ⟨m1, e1⟩ := a.tbls c ps q
    obtain ⟨m2, e2⟩ := b.tbls c _ e1
    exact ⟨m1 ++ m2, by rw [e2, Array.append_assoc]⟩
theorem Un.kept (k : ∀ b u, h.get? b = some u → h'.get? b = some u) : Un fs ex H H h h' :=
  ⟨fun b ob q _ _ _ => k b ob q, fun b ob q _ _ _ => ⟨ob.slots, k b ob q⟩, fun _ _ _ n _ => n, fun b ob q _ => ⟨ob, k b ob q⟩, fun _ _ q => q, fun _ _ _ q => q, fun _ ps q => ⟨#[], by rw [q]; simp⟩⟩
theorem Un.refl : Un fs ex H H h h := Un.kept fun _ _ q => q
theorem Un.laid (k : ∀ b u, h.get? b = some u → h'.get? b = some u) (hp : h.objs.size ≤ a) (hn : H a = none) : Un fs ex H (upd H a o) h h' where
  keep := fun b u q _ _ _ => k b u q
  slot := fun b u q _ _ _ => ⟨u.slots, k b u q⟩
  free := fun b u q n _ => by rw [upd_ne (Nat.ne_of_lt (Nat.lt_of_lt_of_le (Heap.lt_size q) hp))]; exact n
  there := fun b u q _ => ⟨u, k b u q⟩
  tups := fun b xs q => by rw [upd_ne (ne_of_none q hn)]; exact q
  frzs := fun b u xs q => by rw [upd_ne (ne_of_none q hn)]; exact q
  tbls := fun b ps q => ⟨#[], by rw [upd_ne (ne_of_none q hn), q]; simp⟩
theorem Un.write (mu : Mut (H x)) (he : e = x ∨ H e = some (.own x)) (k : ∀ b u, b ≠ e → h.get? b = some u → h'.get? b = some u) (heo : ∃ u, h'.get? e = some u) : Un fs ex H (upd H x o) h h' := by
  have hx : ∀ b, H b = none → b ≠ x := fun b n z => by subst z; rw [n] at mu; exact mu
  have hb : ∀ b, H b = none → b ≠ e := fun b n z => by
    subst z
    rcases he with r | r
    · exact hx b n r
    · rw [n] at r; cases r
  have hm : ∀ b u, H b = some u → ¬ Mut (some u) → b ≠ x := fun b u q nm z => by subst z; rw [q] at mu; exact nm mu
  refine ⟨fun b u q n _ _ => k b u (hb b n) q, fun b u q n _ _ => ⟨u.slots, k b u (hb b n) q⟩, fun b u q n _ => by rw [upd_ne (hx b n)]; exact n, fun b u q _ => ?_,
    fun b xs q => by rw [upd_ne (hm b _ q fun z => z)]; exact q, fun b u xs q => by rw [upd_ne (hm b _ q fun z => z)]; exact q, fun b ps q => ⟨#[], by rw [upd_ne (hm b _ q fun z => z), q]; simp⟩⟩
  by_cases hbe : b = e
  · subst hbe; exact heo
  · exact ⟨u, k b u hbe q⟩
theorem Un.mono (u : Un fs ex H H1 h h1) (hs : ∀ b ∈ fs, b ∈ fs') (hx : ∀ b ∈ ex, b ∈ ex') : Un fs' ex' H H1 h h1 :=
  ⟨fun b ob q n hb he => u.keep b ob q n (fun z => hb (hs b z)) fun z => he (hx b z), fun _ _ q n _ he => u.any q n fun z => he (hx _ z), fun b ob q n he => u.free b ob q n fun z => he (hx b z), fun b ob q he => u.there b ob q fun z => he (hx b z), u.tups, u.frzs, u.tbls⟩
end

/-! ### the heap without what is tracked -/
noncomputable def trk (h : Heap) (H : Hp) : List Addr := (List.range h.objs.size).filter fun a => (H a).isSome
noncomputable def hidT (h : Heap) (H : Hp) : Heap := PySem.W.hideAll h (trk h H)
theorem hidT_size (h : Heap) (H : Hp) : (hidT h H).objs.size = h.objs.size := PySem.W.hideAll_size _ _
theorem hidT_get {h : Heap} {H : Hp} {b : Addr} {o : Obj} (e : h.get? b = some o) (n : H b = none) : (hidT h H).get? b = some o :=
  PySem.W.hideAll_get _ e fun hm => by
    have q : (H b).isSome = true := (List.mem_filter.mp hm).2
    rw [n] at q; simp at q
theorem of_hidT {h : Heap} {H : Hp} {b : Addr} {o : Obj} (e : (hidT h H).get? b = some o) : h.get? b = some o ∧ H b = none := by
  have e' : h.get? b = some o := PySem.W.of_hideAll (trk h H) e
  refine ⟨e', ?_⟩
  cases q : H b with
  | none => rfl
  | some x =>
    have hm : b ∈ trk h H := List.mem_filter.mpr ⟨List.mem_range.mpr (Heap.lt_size e'), by simp [q]⟩
    have z : (hidT h H).get? b = none := PySem.W.hideAll_none (trk h H) hm
    rw [z] at e; cases e

/-! ### OpenK's ledger, filled with every new object but one -/
noncomputable def allNews (g h : Heap) (L : Addr) : List (Addr × Obj) := (List.range h.objs.size).filterMap fun a => if a = L ∨ (g.get? a).isSome = true then none else (h.get? a).map fun o => (a, o)
noncomputable def rest (g h : Heap) (L d : Addr) : List (Addr × Obj) := (allNews g h L).filter fun p => decide (p.1 ≠ d)
end L2

namespace L2
open PySem PySem.Spec PyProof.Rows

/-- the module's facts, over the base: the heap at the law's entry without what is tracked there -/
structure Mod (K : PySem.W.Frag) (mg : Str → Option Value) (base : Heap) : Prop where
  kin : K.In base
  glob : base.Ns mainGlobals mg
  blt : ∃ mb, base.Ns builtinsNs mb ∧ ∀ x : Str, x ≠ "__name__" → mb x = bootBuiltins x
  nolimit : base.NoLimit

/-- the context: a def's body (or a comprehension's block) running. base: fixed through the whole law; s₀, H₀: the entry; outer: the frames whose slots others may change (a def's callers); stack: all frames that run;
   ex: iterators that were made ahead of the entry and are walked here (a comprehension's); fn: the names whose cells were made at the entry (a def: all; a comprehension's block: its own); calm: not within an except suite; pn: pins that every state bears; xe: what is wanted of an exception that leaves the code -/
structure Cx where
  prog : Program
  w : World
  K : PySem.W.Frag
  mg : Str → Option Value
  base : Heap
  A : Around
  N : List Str
  s₀ : Shared
  H₀ : Hp
  env : Env
  outer : List Env
  stack : List Env
  ex : List Addr
  fn : Str → Bool
  calm : Bool
  pn : List (Addr × Obj)
  xe : Value → Shared → Prop
/-- the callers' frames -/
noncomputable def frs (l : List Env) : List Addr := l.filterMap (·.frame)
noncomputable abbrev Cx.fs (X : Cx) : List Addr := frs X.outer

noncomputable def Vis (sc : Scope) (x : Str) : Prop := sc.names.lookup x = some .local ∨ sc.names.lookup x = some .cell ∨ sc.names.lookup x = some .free
noncomputable def Loc (sc : Scope) (x : Str) : Prop := sc.names.lookup x = some .local ∨ sc.names.lookup x = some .cell
noncomputable def Look (env : Env) (h : Heap) (m : Str → Option Value) (x : Str) (u : Value) : Prop :=
  (env.kindOf x = some .local ∧ m x = some u) ∨ ((env.kindOf x = some .cell ∨ env.kindOf x = some .free) ∧ ∃ c, env.cells.lookup x = some c ∧ h.IsCell c (some u))

structure Cx.Ok (X : Cx) : Prop where
  mod : Mod X.K X.mg X.base
  kind : X.env.scope.kind = .function
  glob : X.env.globals = mainGlobals
  blt : X.env.builtins = builtinsNs
  above : X.s₀.heap.objs.size ≤ X.env.locals
  inj : ∀ x y c, X.env.cells.lookup x = some c → X.env.cells.lookup y = some c → x = y
  has : ∀ x, (X.env.kindOf x = some .cell ∨ X.env.kindOf x = some .free) → ∃ c, X.env.cells.lookup x = some c
  cab : ∀ x c, X.fn x = true → X.env.cells.lookup x = some c → X.s₀.heap.objs.size ≤ c
  hd : X.calm = true → X.A.handled = none
  frames : X.A.frames = some X.stack
  stk : X.stack = X.outer ∨ (X.stack = X.env :: X.outer ∧ X.env.frame = some X.env.locals)
  exf : ∀ b ∈ X.ex, b ≠ X.env.locals ∧ ∀ x c, X.env.cells.lookup x = some c → c ≠ b
  bs : ∀ b o, X.base.get? b = some o → X.s₀.heap.get? b = some o ∧ X.H₀ b = none
  bsz : X.base.objs.size ≤ X.s₀.heap.objs.size
  noex : ∀ b o, X.base.get? b = some o → b ∉ X.ex
  exfs : ∀ b ∈ X.ex, b ∉ X.fs
  funs : X.s₀.heap.FunFrames X.base X.outer
  frf : ∀ b ∈ X.fs, X.H₀ b = none

structure Inv (X : Cx) (pins : List (Addr × Obj)) (σ : List (Option V)) (H : Hp) (s : Shared) : Prop where
  ok : X.Ok
  os : s.os = X.s₀.os
  bare : AllBare s.gens
  base : Un X.fs X.ex X.H₀ H X.s₀.heap s.heap
  loc : ∃ m, s.heap.Ns X.env.locals m ∧ ∀ (i : Nat) (x : Str) (v : V), X.N[i]? = some x → σ[i]? = some (some v) → Vis X.env.scope x → ∃ u, RelV v u ∧ Look X.env s.heap m x u
  cell : ∀ x c, X.env.cells.lookup x = some c → ∃ v, s.heap.IsCell c v
  free : H X.env.locals = none
  freeC : ∀ x c, X.env.cells.lookup x = some c → H c = none
  pin : ∀ p ∈ X.pn ++ pins, s.heap.get? p.1 = some p.2 ∧ H p.1 = none ∧ p.1 ≠ X.env.locals ∧ p.1 ∉ X.fs ∧ ∀ v, p.2.data ≠ .cell v
  hok : HOk X.prog X.w H s.heap
  len : σ.length = X.N.length

section
variable {X : Cx} {pins : List (Addr × Obj)} {σ : List (Option V)} {H H' : Hp} {s : Shared} {h' : Heap}

theorem Cx.Ok.nofr (ok : X.Ok) {b : Addr} {o : Obj} (e : X.base.get? b = some o) : b ∉ X.fs := fun hb => by
  have := (ok.funs.mem hb).1
  rw [e] at this; cases this
theorem Inv.bs (I : Inv X pins σ H s) : ∀ b o, X.base.get? b = some o → s.heap.get? b = some o ∧ H b = none := fun b o e =>
  ⟨I.base.keep b o (I.ok.bs b o e).1 (I.ok.bs b o e).2 (I.ok.nofr e) (I.ok.noex b o e), I.base.free b o (I.ok.bs b o e).1 (I.ok.bs b o e).2 (I.ok.noex b o e)⟩
theorem Inv.bk (I : Inv X pins σ H s) : ∀ b o, X.base.get? b = some o → s.heap.get? b = some o := fun b o e => (I.bs b o e).1
theorem Inv.mod (I : Inv X pins σ H s) : Mod X.K X.mg X.base := I.ok.mod
theorem Inv.kIn (I : Inv X pins σ H s) : X.K.In s.heap := I.ok.mod.kin.keeps I.bk
/-- the frame over the base: for OpenK's rules (K.In X.base is I.mod.kin) -/
theorem Inv.fr (I : Inv X pins σ H s) : ∃ m, Fr X.base X.env.locals s.heap m :=
  let ⟨m, hn, _⟩ := I.loc
  ⟨m, hn, I.bk, Nat.le_trans I.ok.bsz I.ok.above⟩
theorem Inv.lt (I : Inv X pins σ H s) : X.env.locals < s.heap.objs.size := let ⟨_, hn, _⟩ := I.loc; hn.lt
theorem Inv.sz (I : Inv X pins σ H s) : X.s₀.heap.objs.size ≤ s.heap.objs.size := Nat.le_trans I.ok.above (Nat.le_of_lt I.lt)
theorem Inv.nofs (I : Inv X pins σ H s) {a : Addr} (h : s.heap.objs.size ≤ a) : a ∉ X.fs := fun hb => by
  obtain ⟨_, o, ho, _⟩ := I.ok.funs.mem hb
  exact absurd (Nat.lt_of_lt_of_le (Heap.lt_size ho) (Nat.le_trans I.sz h)) (Nat.lt_irrefl _)
theorem Inv.cne (I : Inv X pins σ H s) : ∀ x c, X.env.cells.lookup x = some c → c ≠ X.env.locals := fun x c e z => by
  obtain ⟨v, o, ho, hd⟩ := I.cell x c e
  obtain ⟨m, ⟨o', es, ep, ho', hd', _⟩, _⟩ := I.loc
  rw [z, ho'] at ho; cases ho; rw [hd'] at hd; cases hd
theorem Inv.funs (I : Inv X pins σ H s) : s.heap.FunFrames X.base X.outer := by
  have all : ∀ (l : List Env), (∀ b ∈ frs l, b ∈ X.fs) → X.s₀.heap.FunFrames X.base l → s.heap.FunFrames X.base l := by
    intro l
    induction l with
    | nil => intro _ _; trivial
    | cons env r ih =>
      intro hs hl
      obtain ⟨hk, ⟨L, o, hf, hn, ho, hd⟩, hr⟩ := hl
      have hL : L ∈ X.fs := hs L (by unfold frs; rw [List.filterMap_cons, hf]; exact List.mem_cons_self)
      obtain ⟨sl, e⟩ := I.base.slot L o ho (I.ok.frf L hL) hL fun z => I.ok.exfs L z hL
      exact ⟨hk, ⟨L, _, hf, hn, e, hd⟩, ih (fun b hb => hs b (by unfold frs; rw [List.filterMap_cons, hf]; exact List.mem_cons_of_mem _ hb)) hr⟩
  exact all X.outer (fun _ hb => hb) I.ok.funs

/-- the frames that run, for a call -/
theorem Inv.stack (I : Inv X pins σ H s) : s.heap.FunFrames X.base X.stack := by
  rcases I.ok.stk with e | ⟨e, hf⟩
  · rw [e]; exact I.funs
  · rw [e]
    obtain ⟨m, hn, _⟩ := I.loc
    refine .cons (by rw [I.ok.kind]; decide) hf hn ?_ I.funs
    exact Heap.get?_none_of_le (Nat.le_trans I.ok.bsz I.ok.above)
theorem Inv.stkSub (I : Inv X pins σ H s) : ∀ b ∈ frs X.stack, b ∈ X.env.locals :: X.fs := fun b hb => by
  rcases I.ok.stk with e | ⟨e, hf⟩
  · rw [e] at hb; exact List.mem_cons_of_mem _ hb
  · rw [e] at hb
    unfold frs at hb
    rw [List.filterMap_cons, hf] at hb
    exact hb
theorem Inv.stkFree (I : Inv X pins σ H s) : ∀ b ∈ frs X.stack, H b = none := fun b hb => by
  rcases List.mem_cons.mp (I.stkSub b hb) with e | hb
  · rw [e]; exact I.free
  · obtain ⟨_, o, ho, _⟩ := I.ok.funs.mem hb
    exact I.base.free b o ho (I.ok.frf b hb) fun z => I.ok.exfs b z hb

/-- THE STEP: the untracked objects but the frame and the records at ch are kept (the callers' frames up to slots), the frame's map is kept, the new abstract heap is held -/
theorem Inv.step {g' : Array GenState} {t' : Nat} {d' : Drawn} {ch : List Addr} (I : Inv X pins σ H s)
    (hch : ∀ b ∈ ch, (b ∈ X.ex ∨ X.s₀.heap.objs.size ≤ b) ∧ b ≠ X.env.locals ∧ (∀ x c, X.env.cells.lookup x = some c → c ≠ b) ∧ ∀ p ∈ X.pn ++ pins, p.1 ≠ b)
    (keep : ∀ b o, b ≠ X.env.locals → b ∉ X.fs → b ∉ ch → s.heap.get? b = some o → H b = none → h'.get? b = some o)
    (slot : ∀ b o, b ≠ X.env.locals → b ∈ X.fs → b ∉ ch → s.heap.get? b = some o → H b = none → ∃ sl, h'.get? b = some { o with slots := sl }) (free : ∀ b o, b ∉ ch → s.heap.get? b = some o → H b = none → H' b = none)
    (there : ∀ b o, b ∉ ch → s.heap.get? b = some o → ∃ o', h'.get? b = some o')
    (tups : ∀ b xs, H b = some (.tup xs) → H' b = some (.tup xs)) (frzs : ∀ b o u, H b = some (.frz o u) → H' b = some (.frz o u)) (tbls : ∀ b ps, H b = some (.tbl ps) → ∃ more, H' b = some (.tbl (ps ++ more)))
    (ns : ∀ m, s.heap.Ns X.env.locals m → h'.Ns X.env.locals m) (hok : HOk X.prog X.w H' h') (hg : AllBare g') :
    Inv X pins σ H' { s with heap := h', gens := g', drawn := d', toks := t' } := by
  have neL : ∀ b o, X.s₀.heap.get? b = some o → b ≠ X.env.locals := fun b o e => Nat.ne_of_lt (Nat.lt_of_lt_of_le (Heap.lt_size e) I.ok.above)
  have neC : ∀ b o, X.s₀.heap.get? b = some o → b ∉ X.ex → b ∉ ch := fun b o e hx hb => by
    rcases (hch b hb).1 with z | z
    · exact hx z
    · exact absurd (Nat.lt_of_lt_of_le (Heap.lt_size e) z) (Nat.lt_irrefl _)
  have cellK : ∀ x c, X.env.cells.lookup x = some c → ∀ v, s.heap.IsCell c v → h'.IsCell c v := fun x c e v ⟨o, ho, hd⟩ => by
    have nch : c ∉ ch := fun z => (hch c z).2.2.1 x c e rfl
    by_cases hc : c ∈ X.fs
    · obtain ⟨sl, q⟩ := slot c o (I.cne x c e) hc nch ho (I.freeC x c e)
      exact ⟨_, q, hd⟩
    · exact ⟨o, keep c o (I.cne x c e) hc nch ho (I.freeC x c e), hd⟩
  refine ⟨I.ok, I.os, hg, ⟨fun b o e n hb hx => ?_, fun b o e n hb hx => ?_, fun b o e n hx => ?_, fun b o e hx => ?_, fun b xs e => tups b xs (I.base.tups b xs e), fun b o xs e => frzs b o xs (I.base.frzs b o xs e), fun b ps e => ?_⟩, ?_, fun x c e => ?_, ?_, fun x c e => ?_, fun p hp => ?_, hok, I.len⟩
  · exact keep b o (neL b o e) hb (neC b o e hx) (I.base.keep b o e n hb hx) (I.base.free b o e n hx)
  · obtain ⟨sl, e1⟩ := I.base.slot b o e n hb hx
    obtain ⟨sl', e2⟩ := slot b _ (neL b o e) hb (neC b o e hx) e1 (I.base.free b o e n hx)
    exact ⟨sl', e2⟩
  · obtain ⟨o', e1⟩ := I.base.there b o e hx
    exact free b o' (neC b o e hx) e1 (I.base.free b o e n hx)
  · obtain ⟨o', e1⟩ := I.base.there b o e hx
    exact there b o' (neC b o e hx) e1
  · obtain ⟨m1, e1⟩ := I.base.tbls b ps e
    obtain ⟨m2, e2⟩ := tbls b _ e1
    exact ⟨m1 ++ m2, by rw [e2, Array.append_assoc]⟩
  · obtain ⟨m, hn, hl⟩ := I.loc
    refine ⟨m, ns m hn, fun i x v e1 e2 e3 => ?_⟩
    obtain ⟨u, r, l⟩ := hl i x v e1 e2 e3
    refine ⟨u, r, ?_⟩
    rcases l with l | ⟨k, c, e, z⟩
    · exact .inl l
    · exact .inr ⟨k, c, e, cellK x c e _ z⟩
  · obtain ⟨v, z⟩ := I.cell x c e
    exact ⟨v, cellK x c e v z⟩
  · obtain ⟨m, ⟨o, _, _, ho, _⟩, _⟩ := I.loc
    exact free _ o (fun z => (hch _ z).2.1 rfl) ho I.free
  · obtain ⟨v, o, ho, hd⟩ := I.cell x c e
    exact free c o (fun z => (hch c z).2.2.1 x c e rfl) ho (I.freeC x c e)
  · obtain ⟨e, n, ne, nf, d⟩ := I.pin p hp
    have nch : p.1 ∉ ch := fun z => (hch p.1 z).2.2.2 p hp rfl
    exact ⟨keep p.1 p.2 ne nf nch e n, free p.1 p.2 nch e n, ne, nf, d⟩
/-- .. where the frame's own object is kept too -/
theorem Inv.un {t' : Nat} (I : Inv X pins σ H s) (u : Un X.fs [] H H' s.heap h') (hok : HOk X.prog X.w H' h') : Inv X pins σ H' { s with heap := h', toks := t' } := by
  obtain ⟨m, ⟨o, es, ep, ho, r⟩, _⟩ := id I.loc
  obtain ⟨sl, hL⟩ := u.any ho I.free (by simp)
  exact I.step (g' := s.gens) (d' := s.drawn) (ch := []) (fun _ z => nomatch z) (fun b o _ hb _ e n => u.keep b o e n hb (by simp)) (fun b o _ hb _ e n => u.slot b o e n hb (by simp)) (fun b o _ e n => u.free b o e n (by simp)) (fun b o _ e => u.there b o e (by simp)) u.tups u.frzs u.tbls (fun m' hm => by
    obtain ⟨o', es', ep', ho', r'⟩ := hm
    rw [ho] at ho'; cases ho'
    exact ⟨_, es', ep', hL, r'⟩) hok I.bare
/-- behind a call (or a comprehension's block): the slots of this frame may have changed too, the records at ch may have turned -/
theorem Inv.call {g' : Array GenState} {t' : Nat} {d' : Drawn} {ch : List Addr} (I : Inv X pins σ H s) (u : Un (frs X.stack) ch H H' s.heap h') (hok : HOk X.prog X.w H' h') (hg : AllBare g')
    (hch : ∀ b ∈ ch, (b ∈ X.ex ∨ X.s₀.heap.objs.size ≤ b) ∧ b ≠ X.env.locals ∧ (∀ x c, X.env.cells.lookup x = some c → c ≠ b) ∧ ∀ p ∈ X.pn ++ pins, p.1 ≠ b) :
    Inv X pins σ H' { s with heap := h', gens := g', drawn := d', toks := t' } := by
  obtain ⟨m, ⟨o, es, ep, ho, r⟩, _⟩ := id I.loc
  obtain ⟨sl, hL⟩ := u.any ho I.free fun z => (hch _ z).2.1 rfl
  exact I.step (ch := ch) hch (fun b o hL hb hc e n => u.keep b o e n (fun z => (List.mem_cons.mp (I.stkSub b z)).elim hL hb) hc) (fun b o _ _ hc e n => u.any e n hc) (fun b o hc e n => u.free b o e n hc) (fun b o hc e => u.there b o e hc) u.tups u.frzs u.tbls (fun m' hm => by
    obtain ⟨o', es', ep', ho', r'⟩ := hm
    rw [ho] at ho'; cases ho'
    exact ⟨_, es', ep', hL, r'⟩) hok hg
/-- an untracked record of ours (an iterator) has turned -/
theorem Inv.turned {t' : Nat} {it : Addr} (I : Inv X pins σ H s) (k : ∀ b o, b ≠ it → s.heap.get? b = some o → h'.get? b = some o) (hn : H it = none) (hL : it ≠ X.env.locals)
    (h1 : it ∈ X.ex ∨ X.s₀.heap.objs.size ≤ it) (h2 : ∀ x c, X.env.cells.lookup x = some c → c ≠ it) (h3 : ∀ p ∈ X.pn ++ pins, p.1 ≠ it) : Inv X pins σ H { s with heap := h', toks := t' } := by
  have nit : ∀ b u, H b = some u → b ≠ it := fun b u e z => by rw [z, hn] at e; cases e
  refine I.step (g' := s.gens) (d' := s.drawn) (ch := [it]) (fun b hb => ?_) (fun b o _ _ hc e _ => k b o (fun z => hc (by simp [z])) e) (fun b o _ _ hc e _ => ⟨o.slots, k b o (fun z => hc (by simp [z])) e⟩) (fun _ _ _ _ n => n)
    (fun b o hc e => ⟨o, k b o (fun z => hc (by simp [z])) e⟩) (fun _ _ e => e) (fun _ _ _ e => e) (fun b ps e => ⟨#[], by rw [e]; simp⟩) (fun m hm => ?_) (fun b u e => ?_) I.bare
  · have e : b = it := by simpa using hb
    subst e
    exact ⟨h1, hL, h2, h3⟩
  · obtain ⟨o, es, ep, ho, r⟩ := hm
    exact ⟨o, es, ep, k _ o (Ne.symm hL) ho, r⟩
  · refine (I.hok b u e).stay (fun c v hc q => k c v ?_ q) (fun _ q => q) fun _ _ q => q
    rcases hc with z | z
    · rw [z]; exact nit b u e
    · exact nit c _ z
theorem Inv.tok (I : Inv X pins σ H s) (t : Nat) : Inv X pins σ H { s with toks := t } := I.un (h' := s.heap) (t' := t) Un.refl I.hok
/-- all objects kept -/
theorem Inv.kept {t' : Nat} (I : Inv X pins σ H s) (k : ∀ b u, s.heap.get? b = some u → h'.get? b = some u) : Inv X pins σ H { s with heap := h', toks := t' } := I.un (Un.kept k) (I.hok.kept k)
/-- a new object laid and tracked -/
theorem Inv.laid {a : Addr} {o : HO} {t' : Nat} (I : Inv X pins σ H s) (k : ∀ b u, s.heap.get? b = some u → h'.get? b = some u) (hp : s.heap.objs.size ≤ a) (new : ObjOk X.prog X.w (upd H a o) h' a o) :
    Inv X pins σ (upd H a o) { s with heap := h', toks := t' } := I.un (Un.laid k hp (I.hok.fresh hp)) (I.hok.laid k hp new)
/-- an object written -/
theorem Inv.write {x e : Addr} {o : HO} {t' : Nat} (I : Inv X pins σ H s) (mu : Mut (H x)) (he : e = x ∨ H e = some (.own x)) (k : ∀ b u, b ≠ e → s.heap.get? b = some u → h'.get? b = some u) (heo : ∃ u, h'.get? e = some u)
    (new : ObjOk X.prog X.w (upd H x o) h' x o) : Inv X pins σ (upd H x o) { s with heap := h', toks := t' } := I.un (Un.write mu he k heo) (I.hok.write mu he k heo new)
/-- forgetting slots, pins -/
theorem Inv.pins_of {pins' : List (Addr × Obj)} (I : Inv X pins σ H s) (h : ∀ p ∈ pins', s.heap.get? p.1 = some p.2 ∧ H p.1 = none ∧ p.1 ≠ X.env.locals ∧ p.1 ∉ X.fs ∧ ∀ v, p.2.data ≠ .cell v) : Inv X pins' σ H s :=
  ⟨I.ok, I.os, I.bare, I.base, I.loc, I.cell, I.free, I.freeC, fun p hp => (List.mem_append.mp hp).elim (fun z => I.pin p (List.mem_append_left _ z)) (h p), I.hok, I.len⟩

theorem nodup_ix {N : List Str} (hN : N.Nodup) {i j : Nat} {x : Str} (a : N[i]? = some x) (b : N[j]? = some x) : i = j := by
  obtain ⟨h1, e1⟩ := List.getElem?_eq_some_iff.mp a
  obtain ⟨h2, e2⟩ := List.getElem?_eq_some_iff.mp b
  exact (List.getElem_inj hN).mp (e1.trans e2.symm)

/-- a name is stored; what changed -/
theorem store_ok2 {M : Model} {A : Around} {E : Value → Shared → Prop} {i : Nat} {x : Str} {v : V} {u : Value} {Q : Unit → Shared → Prop} (I : Inv X pins σ H s) (hN : X.N.Nodup) (hi : X.N[i]? = some x) (hx : Loc X.env.scope x) (r : RelV v u)
    (h : ∀ s', Inv X pins (σ.set i (some v)) H s' → (∃ a, Heap.SameBut a s.heap s'.heap ∧ (a = X.env.locals ∨ X.env.cells.lookup x = some a)) → Q () s') (hf : X.fn x = true ∨ X.env.scope.names.lookup x = some .local := by first | exact .inl rfl | exact .inr rfl | assumption) : wpAny M A (storeName X.env x u) Q E s := by
  obtain ⟨m, hn, hl⟩ := id I.loc
  have hcls : (X.env.scope.kind == .class || (X.env.scope.kind == .module && X.env.locals != X.env.globals)) = false := by rw [I.ok.kind]; rfl
  have hiσ : i < σ.length := by rw [I.len]; exact (List.getElem?_eq_some_iff.mp hi).1
  have cne := I.cne
  have tracked : ∀ {a : Addr} {h' : Heap}, (∃ o, s.heap.get? a = some o ∧ H a = none) → Heap.SameBut a s.heap h' → HOk X.prog X.w H h' := fun {a h'} ha hs b ob e => by
    obtain ⟨_, _, hfree⟩ := ha
    refine (I.hok b ob e).stay (fun c w' hc q => (hs.2 c ?_).trans q) (fun _ q => q) fun _ _ q => q
    rintro rfl
    rcases hc with rfl | hc
    · rw [hfree] at e; cases e
    · rw [hfree] at hc; cases hc
  rcases hx with hk | hk
  · refine wpAny_storeName_local hk hn (fun h' hn' hs => ?_) hcls
    obtain ⟨oL, _, _, hoL, _⟩ := id hn
    refine h _ ⟨I.ok, I.os, I.bare, ⟨fun b o e n hb hx => ?_, fun b o e n hb hx => ?_, I.base.free, fun b o e hx => ?_, I.base.tups, I.base.frzs, I.base.tbls⟩, ⟨_, hn', fun j y v' e1 e2 e3 => ?_⟩, fun y c e => ?_, I.free, I.freeC, fun p hp => ?_, tracked ⟨oL, hoL, I.free⟩ hs, by simpa using I.len⟩ ⟨_, hs, .inl rfl⟩
    · exact (hs.2 b (Nat.ne_of_lt (Nat.lt_of_lt_of_le (Heap.lt_size e) I.ok.above))).trans (I.base.keep b o e n hb hx)
    · obtain ⟨sl, e1⟩ := I.base.slot b o e n hb hx
      exact ⟨sl, (hs.2 b (Nat.ne_of_lt (Nat.lt_of_lt_of_le (Heap.lt_size e) I.ok.above))).trans e1⟩
    · obtain ⟨o', e1⟩ := I.base.there b o e hx
      exact ⟨o', (hs.2 b (Nat.ne_of_lt (Nat.lt_of_lt_of_le (Heap.lt_size e) I.ok.above))).trans e1⟩
    · by_cases hj : j = i
      · subst hj
        rw [hi] at e1; cases e1
        rw [List.getElem?_set_self hiσ] at e2
        cases e2
        exact ⟨u, r, .inl ⟨hk, by simp⟩⟩
      · rw [List.getElem?_set_ne (Ne.symm hj)] at e2
        obtain ⟨u', r', q⟩ := hl j y v' e1 e2 e3
        refine ⟨u', r', ?_⟩
        rcases q with ⟨k, e⟩ | ⟨k, c, e, z⟩
        · refine .inl ⟨k, ?_⟩
          have : y ≠ x := fun e => hj (nodup_ix hN e1 (e ▸ hi))
          simp [this, e]
        · exact .inr ⟨k, c, e, z.sameBut hs (cne y c e)⟩
    · obtain ⟨w', z⟩ := I.cell y c e
      exact ⟨w', z.sameBut hs (cne y c e)⟩
    · obtain ⟨e, n, ne, nf, d⟩ := I.pin p hp
      exact ⟨(hs.2 p.1 ne).trans e, n, ne, nf, d⟩
  · have hfn : X.fn x = true := by
      rcases hf with z | z
      · exact z
      · rw [z] at hk; cases hk
    obtain ⟨c, hc⟩ := I.ok.has x (.inl hk)
    obtain ⟨w', z⟩ := I.cell x c hc
    refine wpAny_storeName_cell I.ok.kind hk hc z (fun h' hc' hs => ?_)
    obtain ⟨oc, hoc, hocd⟩ := id z
    refine h { s with heap := h' } ⟨I.ok, I.os, I.bare, ⟨fun b o e n hb hx => ?_, fun b o e n hb hx => ?_, I.base.free, fun b o e hx => ?_, I.base.tups, I.base.frzs, I.base.tbls⟩, ⟨m, hn.sameBut hs (Ne.symm (cne x c hc)), fun j y v' e1 e2 e3 => ?_⟩, fun y c' e => ?_, I.free, I.freeC, fun p hp => ?_, tracked ⟨oc, hoc, I.freeC x c hc⟩ hs, by simpa using I.len⟩ ⟨c, hs, .inr hc⟩
    · exact (hs.2 b (Nat.ne_of_lt (Nat.lt_of_lt_of_le (Heap.lt_size e) (I.ok.cab x c hfn hc)))).trans (I.base.keep b o e n hb hx)
    · obtain ⟨sl, e1⟩ := I.base.slot b o e n hb hx
      exact ⟨sl, (hs.2 b (Nat.ne_of_lt (Nat.lt_of_lt_of_le (Heap.lt_size e) (I.ok.cab x c hfn hc)))).trans e1⟩
    · obtain ⟨o', e1⟩ := I.base.there b o e hx
      exact ⟨o', (hs.2 b (Nat.ne_of_lt (Nat.lt_of_lt_of_le (Heap.lt_size e) (I.ok.cab x c hfn hc)))).trans e1⟩
    · by_cases hj : j = i
      · subst hj
        rw [hi] at e1; cases e1
        rw [List.getElem?_set_self hiσ] at e2
        cases e2
        exact ⟨u, r, .inr ⟨.inl hk, c, hc, hc'⟩⟩
      · rw [List.getElem?_set_ne (Ne.symm hj)] at e2
        obtain ⟨u', r', q⟩ := hl j y v' e1 e2 e3
        refine ⟨u', r', ?_⟩
        rcases q with q | ⟨k, c', e, z'⟩
        · exact .inl q
        · refine .inr ⟨k, c', e, z'.sameBut hs ?_⟩
          rintro rfl
          exact hj (nodup_ix hN e1 (I.ok.inj _ _ _ e hc ▸ hi))
    · by_cases hcc : c' = c
      · subst hcc; exact ⟨_, hc'⟩
      · obtain ⟨w2, z2⟩ := I.cell y c' e
        exact ⟨w2, z2.sameBut hs hcc⟩
    · obtain ⟨e, n, ne, nf, d⟩ := I.pin p hp
      refine ⟨(hs.2 p.1 ?_).trans e, n, ne, nf, d⟩
      intro q
      rw [q, hoc] at e
      have q' : oc = p.2 := Option.some.inj e
      exact d w' (by rw [← q']; exact hocd)
theorem store_ok {M : Model} {A : Around} {E : Value → Shared → Prop} {i : Nat} {x : Str} {v : V} {u : Value} {Q : Unit → Shared → Prop} (I : Inv X pins σ H s) (hN : X.N.Nodup) (hi : X.N[i]? = some x) (hx : Loc X.env.scope x) (r : RelV v u)
    (h : ∀ s', Inv X pins (σ.set i (some v)) H s' → Q () s') (hf : X.fn x = true ∨ X.env.scope.names.lookup x = some .local := by first | exact .inl rfl | exact .inr rfl | assumption) : wpAny M A (storeName X.env x u) Q E s :=
  store_ok2 I hN hi hx r (fun s' I' _ => h s' I') hf
/-- behind a call or a block, the state as it is -/
theorem Inv.call' {s' : Shared} {ch : List Addr} (I : Inv X pins σ H s) (ho : s'.os = s.os) (u : Un (frs X.stack) ch H H' s.heap s'.heap) (hok : HOk X.prog X.w H' s'.heap) (hg : AllBare s'.gens)
    (hch : ∀ b ∈ ch, (b ∈ X.ex ∨ X.s₀.heap.objs.size ≤ b) ∧ b ≠ X.env.locals ∧ (∀ x c, X.env.cells.lookup x = some c → c ≠ b) ∧ ∀ p ∈ X.pn ++ pins, p.1 ≠ b) : Inv X pins σ H' s' := by
  obtain ⟨h', g', d', t', o'⟩ := s'
  have e : o' = s.os := ho
  subst e
  exact I.call (g' := g') (t' := t') (d' := d') u hok hg hch
end

/-! ### the judgements -/
/-- an exception: its class, its own dict's address (where it has one), the abstract heap behind it -/
noncomputable abbrev XK := Value → Option Addr → Hp → Prop
noncomputable abbrev St := List (Option V)
noncomputable abbrev VK := V → Hp → Prop
/-- an expression's reading; a test's; an argument list's -/
noncomputable abbrev TE := St → Hp → VK → Prop
noncomputable abbrev TT := St → Hp → (Bool → Hp → Prop) → Prop
noncomputable abbrev TA := St → Hp → (List V → Hp → Prop) → Prop
/-- what is wanted behind a statement -/
structure Ends where
  nx : St → Hp → Prop
  rt : VK
  bk : St → Hp → Prop := fun _ _ => False
  ct : St → Hp → Prop := fun _ _ => False
noncomputable abbrev TS := Ends → St → Hp → Prop

noncomputable def EP (X : Cx) (pins : List (Addr × Obj)) (σ : St) (Q : VK) (u : Value) (s' : Shared) : Prop := ∃ v H', Inv X pins σ H' s' ∧ RelV v u ∧ Q v H'
noncomputable def TP (X : Cx) (pins : List (Addr × Obj)) (σ : St) (Q : Bool → Hp → Prop) (b : Bool) (s' : Shared) : Prop := ∃ H', Inv X pins σ H' s' ∧ Q b H'
noncomputable def AP (X : Cx) (pins : List (Addr × Obj)) (σ : St) (Q : List V → Hp → Prop) (us : List Value) (s' : Shared) : Prop := ∃ vs H', Inv X pins σ H' s' ∧ Vals vs us ∧ Q vs H'
noncomputable def SP (X : Cx) (pins : List (Addr × Obj)) (D : Ends) (f : Flow) (s' : Shared) : Prop :=
  match f with
  | .next => ∃ σ' H', Inv X pins σ' H' s' ∧ D.nx σ' H'
  | .brk => ∃ σ' H', Inv X pins σ' H' s' ∧ D.bk σ' H'
  | .cont => ∃ σ' H', Inv X pins σ' H' s' ∧ D.ct σ' H'
  | .ret u => ∃ v σ' H', Inv X pins σ' H' s' ∧ RelV v u ∧ D.rt v H'

noncomputable def PE (X : Cx) (e : Expr) (t : TE) : Prop :=
  ∀ (pins : List (Addr × Obj)) (s : Shared) (σ : St) (H : Hp) (Q : VK), Inv X pins σ H s → t σ H Q → wpAny (model X.prog X.w) X.A (eval e X.env) (EP X pins σ Q) X.xe s
noncomputable def PT (X : Cx) (e : Expr) (t : TT) : Prop :=
  ∀ (pins : List (Addr × Obj)) (s : Shared) (σ : St) (H : Hp) (Q : Bool → Hp → Prop), Inv X pins σ H s → t σ H Q → wpAny (model X.prog X.w) X.A (isTrue e X.env (eval e X.env)) (TP X pins σ Q) X.xe s
/-- a test whatever its 'whole' is (and, or) -/
noncomputable def PW (X : Cx) (e : Expr) (t : TT) : Prop :=
  ∀ (whole : Sem Value) (pins : List (Addr × Obj)) (s : Shared) (σ : St) (H : Hp) (Q : Bool → Hp → Prop), Inv X pins σ H s → t σ H Q → wpAny (model X.prog X.w) X.A (isTrue e X.env whole) (TP X pins σ Q) X.xe s
theorem PW.pt {X : Cx} {e : Expr} {t : TT} (h : PW X e t) : PT X e t := h _
/-- an argument list (no star), from the left -/
noncomputable def PA (X : Cx) (es : List Expr) (t : TA) : Prop :=
  ∀ (pos : Pos) (pins : List (Addr × Obj)) (s : Shared) (σ : St) (H : Hp) (Q : List V → Hp → Prop), Inv X pins σ H s → t σ H Q → wpAny (model X.prog X.w) X.A (spliced (backTo pos (starEach es X.env))) (AP X pins σ Q) X.xe s
noncomputable def PS (X : Cx) (st : Stmt) (t : TS) : Prop :=
  ∀ (pins : List (Addr × Obj)) (s : Shared) (σ : St) (H : Hp) (D : Ends), Inv X pins σ H s → t D σ H → wpAny (model X.prog X.w) X.A (exec st X.env) (SP X pins D) X.xe s
noncomputable def PSs (X : Cx) (st : List Stmt) (t : TS) : Prop :=
  ∀ (pins : List (Addr × Obj)) (s : Shared) (σ : St) (H : Hp) (D : Ends), Inv X pins σ H s → t D σ H → wpAny (model X.prog X.w) X.A (execs st X.env) (SP X pins D) X.xe s
/-- weaken the end -/
theorem thn {α : Type} {t : Sem α} {Q Q' : α → Shared → Prop} {M : Model} {A : Around} {E : Value → Shared → Prop} {s : Shared} (h : wpAny M A t Q E s) (hQ : ∀ a s, Q a s → Q' a s) : wpAny M A t Q' E s := wpAny_mono h hQ fun _ _ x => x
end L2

namespace L2
open PySem PySem.Spec PyProof.Rows
section
variable {X : Cx}

/-! ### names and constants -/
noncomputable def tVar (i : Nat) : TE := fun σ H Q => ∃ v, σ[i]? = some (some v) ∧ Q v H
noncomputable def tC (v : V) : TE := fun _ H Q => Q v H
theorem pe_var {i : Nat} {x : Str} {pos : Pos} (hN : X.N[i]? = some x) (hv : Vis X.env.scope x) (hd : (x == ("__debug__" : Str)) = false := by decide) (hcd : (x == ("__classdict__" : Str)) = false := by decide) : PE X (.Name x pos) (tVar i) := by
  intro pins s σ H Q I h
  obtain ⟨v, e, h⟩ := h
  obtain ⟨m, hn, hl⟩ := I.loc
  obtain ⟨u, r, l⟩ := hl i x v hN e hv
  have fin : EP X pins σ Q u s := ⟨v, H, I, r, h⟩
  rcases l with ⟨hk, hm⟩ | ⟨hk, c, hc, hcell⟩
  · exact wpAny_Name (wpAny_loadName_local I.ok.kind hk hn hm fin) hd
  · rcases hk with hk | hk
    · exact wpAny_Name (wpAny_loadName_cell I.ok.kind hk hc hcell fin) hd
    · exact wpAny_Name (wpAny_loadName_free I.ok.kind hk hc hcell fin hcd) hd
theorem pe_int {i j pos} : PE X (.Constant (.int i) j pos) (tC (.int i)) := fun _ _ _ H _ I h => wpAny_Constant_int ⟨.int i, H, I.tok _, ⟨_, rfl⟩, h⟩
theorem pe_bl {b j pos} : PE X (.Constant (.bool b) j pos) (tC (.bl b)) := fun _ _ _ H _ I h => Constant_bool ⟨.bl b, H, I, rfl, h⟩
theorem pe_non {j pos} : PE X (.Constant .none j pos) (tC .non) := fun _ _ _ H _ I h => Constant_none ⟨.non, H, I, rfl, h⟩
theorem pe_str {x j pos} : PE X (.Constant (.str x) j pos) (tC (.str x)) := fun _ _ _ H _ I h => Calls.Constant_str ⟨.str x, H, I.tok _, ⟨_, rfl⟩, h⟩

/-- a global name of the def -/
noncomputable def Gl (X : Cx) (x : Str) : Prop := X.env.kindOf x = some .globalImplicit
theorem ld_glob {E : Value → Shared → Prop} {pins : List (Addr × Obj)} {s : Shared} {σ : St} {H : Hp} {x : Str} {u : Value} {pos : Pos} {Q : Value → Shared → Prop} (I : Inv X pins σ H s) (hg : Gl X x) (hm : X.mg x = some u) (h : Q u s)
    (hd : (x == ("__debug__" : Str)) = false := by decide) : wpAny (model X.prog X.w) X.A (eval (.Name x pos) X.env) Q E s :=
  Calls.Name_function_global I.ok.kind hg (Calls.loadGlobal_global (by rw [I.ok.glob]; exact I.mod.glob.keeps I.bk) hm h) hd
theorem ld_blt {E : Value → Shared → Prop} {pins : List (Addr × Obj)} {s : Shared} {σ : St} {H : Hp} {x : Str} {u : Value} {pos : Pos} {Q : Value → Shared → Prop} (I : Inv X pins σ H s) (hg : Gl X x) (hm : X.mg x = none) (hv : bootBuiltins x = some u) (h : Q u s)
    (hn : x ≠ "__name__" := by decide) (hd : (x == ("__debug__" : Str)) = false := by decide) : wpAny (model X.prog X.w) X.A (eval (.Name x pos) X.env) Q E s := by
  obtain ⟨mb, h1, h2⟩ := I.mod.blt
  exact Calls.Name_function_global I.ok.kind hg (Calls.loadGlobal_builtin (by rw [I.ok.glob]; exact I.mod.glob.keeps I.bk) hm (by rw [I.ok.blt]; exact h1.keeps I.bk) ((h2 x hn).trans hv) h) hd
/-- a module's constant, a class, a function, as a value -/
theorem pe_glob {x : Str} {v : V} {u : Value} {pos : Pos} (hg : Gl X x) (hm : X.mg x = some u) (r : RelV v u) (hd : (x == ("__debug__" : Str)) = false := by decide) : PE X (.Name x pos) (tC v) :=
  fun _ _ _ H _ I h => ld_glob I hg hm ⟨v, H, I, r, h⟩ hd
theorem pe_bltn {x : Str} {v : V} {u : Value} {pos : Pos} (hg : Gl X x) (hm : X.mg x = none) (hv : bootBuiltins x = some u) (r : RelV v u) (hn : x ≠ "__name__" := by decide) (hd : (x == ("__debug__" : Str)) = false := by decide) : PE X (.Name x pos) (tC v) :=
  fun _ _ _ H _ I h => ld_blt I hg hm hv ⟨v, H, I, r, h⟩ hn hd

/-! ### arithmetic -/
variable {a b : Expr} {ta tb : TE} {pos : Pos}
/-! ### comparisons -/
/-- a comparison as a value, as a test -/
noncomputable def tB (t : TE) : TT := fun σ H Q => t σ H fun x H1 => ∃ c, x = .bl c ∧ Q c H1
/-- an expression whose value is a bool, as a test -/
theorem pt_val {e : Expr} {t : TE} (h : PE X e t) (he : ∀ whole, isTrue e X.env whole = (do let v ← whole; standAt e.pos; holding [v] (truthy v)) := by intro _; rfl) : PT X e (tB t) := by
  intro pins s σ H Q I hw
  refine isTrue_plain (thn (h pins s σ H _ I hw) fun v s1 ⟨x, H1, I1, r1, q1⟩ => ?_) (he _)
  obtain ⟨d, rfl, q⟩ := q1
  cases r1
  exact wpAny_truthy_bool ⟨H1, I1, q⟩

/-! ### and, or, not -/
variable {tA tB' : TT} {rest : List Expr}
noncomputable def tAnd (t u : TT) : TT := fun σ H Q => t σ H fun c H1 => if c = true then u σ H1 Q else Q false H1
noncomputable def tOr (t u : TT) : TT := fun σ H Q => t σ H fun c H1 => if c = true then Q true H1 else u σ H1 Q
noncomputable def tNot (t : TT) : TT := fun σ H Q => t σ H fun c H1 => Q (!c) H1
theorem pw_and1 (ha : PT X a tA) : PW X (.BoolOp .And [a] pos) tA := by
  intro wh pins s σ H Q I h
  refine isTrue_and (thn (ha pins s σ H Q I h) fun c s1 e => ?_)
  cases c with
  | true => exact isTrue_and_nil e
  | false => exact e
theorem pw_or1 (ha : PT X a tA) : PW X (.BoolOp .Or [a] pos) tA := by
  intro wh pins s σ H Q I h
  refine isTrue_or (thn (ha pins s σ H Q I h) fun c s1 e => ?_)
  cases c with
  | false => exact isTrue_or_nil e
  | true => exact e
theorem pw_and (ha : PT X a tA) (hb : PW X (.BoolOp .And (b :: rest) pos) tB') : PW X (.BoolOp .And (a :: b :: rest) pos) (tAnd tA tB') := by
  intro wh pins s σ H Q I h
  refine isTrue_and (thn (ha pins s σ H _ I h) fun c s1 ⟨H1, I1, q1⟩ => ?_)
  cases c with
  | true => exact hb wh pins s1 σ H1 Q I1 q1
  | false => exact ⟨H1, I1, q1⟩
theorem pw_or (ha : PT X a tA) (hb : PW X (.BoolOp .Or (b :: rest) pos) tB') : PW X (.BoolOp .Or (a :: b :: rest) pos) (tOr tA tB') := by
  intro wh pins s σ H Q I h
  refine isTrue_or (thn (ha pins s σ H _ I h) fun c s1 ⟨H1, I1, q1⟩ => ?_)
  cases c with
  | true => exact ⟨H1, I1, q1⟩
  | false => exact hb wh pins s1 σ H1 Q I1 q1
theorem pt_not (ha : PT X a tA) : PT X (.UnaryOp .Not a pos) (tNot tA) := by
  intro pins s σ H Q I h
  exact isTrue_not (ha pins s σ H (fun c H1 => Q (!c) H1) I h)
/-- .. as values (bools) -/
noncomputable def tAndV (ta tb : TE) : TE := fun σ H Q => ta σ H fun x H1 => ∃ c, x = .bl c ∧ if c = true then tb σ H1 Q else Q (.bl false) H1
noncomputable def tNotV (ta : TE) : TE := fun σ H Q => ta σ H fun x H1 => ∃ c, x = .bl c ∧ Q (.bl (!c)) H1
theorem pe_one {op} {t : TE} (h : PE X a t) : PE X (.BoolOp op [a] pos) t := fun pins s σ H Q I hw => BoolOp_one (h pins s σ H Q I hw)
theorem pe_and (ha : PE X a ta) (hb : PE X (.BoolOp .And (b :: rest) pos) tb) : PE X (.BoolOp .And (a :: b :: rest) pos) (tAndV ta tb) := by
  intro pins s σ H Q I h
  refine BoolOp_and (thn (ha pins s σ H _ I h) fun v s1 ⟨x, H1, I1, r1, q1⟩ => ?_)
  obtain ⟨c, rfl, q1⟩ := q1
  cases r1
  refine wpAny_truthy_bool ?_
  cases c with
  | true => exact hb pins s1 σ H1 Q I1 q1
  | false => exact ⟨.bl false, H1, I1, rfl, q1⟩
theorem pe_not (ha : PE X a ta) : PE X (.UnaryOp .Not a pos) (tNotV ta) := by
  intro pins s σ H Q I h
  refine UnaryOp_ (thn (ha pins s σ H _ I h) fun v s1 ⟨x, H1, I1, r1, q1⟩ => ?_)
  obtain ⟨c, rfl, q1⟩ := q1
  cases r1
  exact not_of (wpAny_truthy_bool ⟨.bl (!c), H1, I1, rfl, q1⟩)
/-- a if t else b -/
noncomputable def tIf (t : TT) (ta tb : TE) : TE := fun σ H Q => t σ H fun c H1 => if c = true then ta σ H1 Q else tb σ H1 Q
theorem pe_ifExp {c : Expr} (hc : PT X c tA) (ha : PE X a ta) (hb : PE X b tb) : PE X (.IfExp c a b pos) (tIf tA ta tb) := by
  intro pins s σ H Q I h
  refine wpAny_IfExp (thn (hc pins s σ H _ I h) fun d s1 ⟨H1, I1, q1⟩ => ?_)
  cases d with
  | true => exact ha pins s1 σ H1 Q I1 q1
  | false => exact hb pins s1 σ H1 Q I1 q1
end
end L2

namespace L2
open PySem PySem.Spec PyProof.Rows

/-! ### a list, a tuple that is read: tracked, frozen, or an object of the module -/
noncomputable def SqL (K : PySem.W.Frag) (H : Hp) (a : Addr) (xs : List V) : Prop :=
  Rd H a (.lst xs) ∨
    ∃ (o : Obj) (its : Array Value) (n : Nat), K.lookup a = some o ∧ o.cls = .type "list" ∧ o.dict = none ∧ o.data = .seq its n ∧ its.size ≤ sizeLine ∧ Vals xs its.toList
noncomputable def SqT (K : PySem.W.Frag) (H : Hp) (a : Addr) (xs : List V) : Prop :=
  Rd H a (.tup xs) ∨
    ∃ (o : Obj) (its : Array Value) (n : Nat), K.lookup a = some o ∧ o.cls = .type "tuple" ∧ o.data = .seq its n ∧ its.size ≤ sizeLine ∧ Vals xs its.toList
noncomputable def absV : Value → Option V
  | .none => some .non
  | .bool b => some (.bl b)
  | .int i _ => some (.int i)
  | .str x _ => some (.str x)
  | .bytes b _ => some (.byt b)
  | .float b _ => some (.flt b)
  | .ref a => some (.ref a)
  | .type n => some (.ty n)
  | _ => none
theorem RelV.abs {x : V} {u : Value} (r : RelV x u) : absV u = some x := by
  cases x with
  | non => cases r; rfl
  | bl _ => cases r; rfl
  | int _ => obtain ⟨t, rfl⟩ := r; rfl
  | str _ => obtain ⟨t, rfl⟩ := r; rfl
  | byt _ => obtain ⟨t, rfl⟩ := r; rfl
  | flt _ => obtain ⟨t, rfl⟩ := r; rfl
  | ref _ => cases r; rfl
  | ty _ => cases r; rfl
theorem RelV.inj {x y : V} {u : Value} (r : RelV x u) (q : RelV y u) : x = y := Option.some.inj (r.abs.symm.trans q.abs)
theorem Vals.inj : ∀ {xs ys : List V} {us : List Value}, Vals xs us → Vals ys us → xs = ys
  | _, _, _, .nil, .nil => rfl
  | _, _, _, .cons r t, .cons r' t' => by rw [r.inj r', Vals.inj t t']
section
variable {X : Cx} {pins : List (Addr × Obj)} {σ : St} {H : Hp} {s : Shared} {a : Addr} {xs ys : List V}
theorem SqL.of {K : PySem.W.Frag} (h : H a = some (.lst xs)) : SqL K H a xs := .inl (.inl h)
theorem SqT.of {K : PySem.W.Frag} (h : H a = some (.tup xs)) : SqT K H a xs := .inl (.inl h)
theorem Inv.list (I : Inv X pins σ H s) (h : SqL X.K H a xs) : ∃ its : List Value, Vals xs its ∧ PlainL s.heap a its.toArray ∧ xs.length ≤ sizeLine := by
  rcases h with h | ⟨o, its, n, hk, hc, hd, hs, hz, r⟩
  · obtain ⟨z, its, n, r, e⟩ := h.ok I.hok
    exact ⟨its, r, ⟨_, n, e, rfl, rfl, rfl⟩, z⟩
  · refine ⟨its.toList, r, ⟨o, n, I.kIn a o hk, hc, hd, by simpa using hs⟩, ?_⟩
    have e := r.length
    simp only [Array.length_toList] at e
    omega
theorem Inv.tuple (I : Inv X pins σ H s) (h : SqT X.K H a xs) : ∃ its : List Value, Vals xs its ∧ IsTup s.heap a its.toArray ∧ xs.length ≤ sizeLine := by
  rcases h with h | ⟨o, its, n, hk, hc, hs, hz, r⟩
  · obtain ⟨z, its, r, p⟩ := h.ok I.hok
    exact ⟨its, r, p, z⟩
  · refine ⟨its.toList, r, ⟨o, I.kIn a o hk, hc, n, by simpa using hs⟩, ?_⟩
    have e := r.length
    simp only [Array.length_toList] at e
    omega
theorem Inv.list_inj (I : Inv X pins σ H s) (h : SqL X.K H a xs) (h' : SqL X.K H a ys) : xs = ys := by
  obtain ⟨its, r, ⟨o, n, e, _, _, d⟩, _⟩ := I.list h
  obtain ⟨its', r', ⟨o', n', e', _, _, d'⟩, _⟩ := I.list h'
  rw [e] at e'; cases e'
  rw [d] at d'
  injection d' with d1 _
  have : its = its' := by simpa using congrArg Array.toList d1
  subst this
  exact r.inj r'
theorem Inv.tuple_inj (I : Inv X pins σ H s) (h : SqT X.K H a xs) (h' : SqT X.K H a ys) : xs = ys := by
  obtain ⟨its, r, ⟨o, e, _, n, d⟩, _⟩ := I.tuple h
  obtain ⟨its', r', ⟨o', e', _, n', d'⟩, _⟩ := I.tuple h'
  rw [e] at e'; cases e'
  rw [d] at d'
  injection d' with d1 _
  have : its = its' := by simpa using congrArg Array.toList d1
  subst this
  exact r.inj r'
end

/-! ### another wish about exceptions -/
noncomputable abbrev Cx.wish (X : Cx) (E : Value → Shared → Prop) : Cx := { X with xe := E }
/-- no exception leaves -/
noncomputable abbrev Cx.nox (X : Cx) : Cx := X.wish fun _ _ => False
theorem Cx.Ok.wish {X : Cx} (ok : X.Ok) (E : Value → Shared → Prop) : (X.wish E).Ok :=
  ⟨ok.mod, ok.kind, ok.glob, ok.blt, ok.above, ok.inj, ok.has, ok.cab, ok.hd, ok.frames, ok.stk, ok.exf, ok.bs, ok.bsz, ok.noex, ok.exfs, ok.funs, ok.frf⟩
theorem Cx.Ok.unwish {X : Cx} {E : Value → Shared → Prop} (ok : (X.wish E).Ok) : X.Ok :=
  ⟨ok.mod, ok.kind, ok.glob, ok.blt, ok.above, ok.inj, ok.has, ok.cab, ok.hd, ok.frames, ok.stk, ok.exf, ok.bs, ok.bsz, ok.noex, ok.exfs, ok.funs, ok.frf⟩
section
variable {X : Cx} {pins : List (Addr × Obj)} {σ : St} {H : Hp} {s : Shared} {E : Value → Shared → Prop}
theorem Inv.wish (I : Inv X pins σ H s) (E : Value → Shared → Prop) : Inv (X.wish E) pins σ H s := ⟨I.ok.wish E, I.os, I.bare, I.base, I.loc, I.cell, I.free, I.freeC, I.pin, I.hok, I.len⟩
theorem Inv.unwish (I : Inv (X.wish E) pins σ H s) : Inv X pins σ H s := ⟨I.ok.unwish, I.os, I.bare, I.base, I.loc, I.cell, I.free, I.freeC, I.pin, I.hok, I.len⟩
theorem SP.unwish {D : Ends} {f : Flow} {s' : Shared} (h : SP (X.wish E) pins D f s') : SP X pins D f s' := by
  cases f with
  | next => obtain ⟨σ', H', I, q⟩ := h; exact ⟨σ', H', I.unwish, q⟩
  | brk => obtain ⟨σ', H', I, q⟩ := h; exact ⟨σ', H', I.unwish, q⟩
  | cont => obtain ⟨σ', H', I, q⟩ := h; exact ⟨σ', H', I.unwish, q⟩
  | ret u => obtain ⟨v, σ', H', I, r, q⟩ := h; exact ⟨v, σ', H', I.unwish, r, q⟩
theorem PSs.nox {st : List Stmt} {t : TS} (h : PSs X.nox st t) : PSs X st t := fun pins s σ H D I hw =>
  wpAny_mono (h pins s σ H D (I.wish _) hw) (fun _ _ q => q.unwish) fun _ _ z => False.elim z
end

/-! ### blocks and small statements -/
section
variable {X : Cx} {st : Stmt} {rest : List Stmt} {t u : TS} {e : Expr} {te : TE} {pos : Pos}
noncomputable def tNext : TS := fun D σ H => D.nx σ H
noncomputable def tSeq (t u : TS) : TS := fun D σ H => t { D with nx := u D } σ H
theorem pss_nil : PSs X [] tNext := fun _ _ σ H _ I h => wpAny_execs_nil ⟨σ, H, I, h⟩
theorem pss_cons (h1 : PS X st t) (h2 : PSs X rest u) : PSs X (st :: rest) (tSeq t u) := by
  intro pins s σ H D I h
  refine wpAny_execs_cons (thn (h1 pins s σ H { D with nx := u D } I h) fun f s1 q => ?_)
  cases f with
  | next =>
    obtain ⟨σ', H', I', q⟩ := q
    exact h2 pins s1 σ' H' D I' q
  | ret v => exact q
  | brk => exact q
  | cont => exact q
theorem pss_one (h1 : PS X st t) : PSs X [st] t := by
  intro pins s σ H D I h
  refine wpAny_execs_cons (thn (h1 pins s σ H D I h) fun f s1 q => ?_)
  cases f with
  | next => exact wpAny_execs_nil q
  | ret v => exact q
  | brk => exact q
  | cont => exact q
/-- in a def's body nothing is shown -/
theorem Inv.quiet {pins : List (Addr × Obj)} {σ : St} {H : Hp} {s : Shared} (I : Inv X pins σ H s) : interactive X.env = false := by simp [interactive, I.ok.kind]
/-- an expression whose value is dropped -/
noncomputable def tDrop (te : TE) : TS := fun D σ H => te σ H fun _ H1 => D.nx σ H1
theorem ps_expr (he : PE X e te) (hs : swapsWith e none pos.line X.env = pure false := by rfl) : PS X (.Expr e pos) (tDrop te) := by
  intro pins s σ H D I h
  exact wpAny_Expr_any (thn (he pins s σ H _ I h) fun v s1 ⟨x, H1, I1, r1, q1⟩ => ⟨σ, H1, I1, q1⟩) I.quiet hs
noncomputable def tRet (te : TE) : TS := fun D σ H => te σ H D.rt
theorem ps_ret (he : PE X e te) : PS X (.Return (some e) pos) (tRet te) := by
  intro pins s σ H D I h
  exact wpAny_Return_some (thn (he pins s σ H _ I h) fun v s1 ⟨x, H1, I1, r1, q1⟩ => ⟨x, σ, H1, I1, r1, q1⟩)
noncomputable def tIfS (c : TT) (t u : TS) : TS := fun D σ H => c σ H fun b H1 => if b = true then t D σ H1 else u D σ H1
theorem ps_if {c : Expr} {a b : List Stmt} {tc : TT} (hc : PT X c tc) (ha : PSs X a t) (hb : PSs X b u) : PS X (.If c a b pos) (tIfS tc t u) := by
  intro pins s σ H D I h
  refine wpAny_If (thn (hc pins s σ H _ I h) fun d s1 ⟨H1, I1, q1⟩ => ?_)
  cases d with
  | true => exact ha pins s1 σ H1 D I1 q1
  | false => exact hb pins s1 σ H1 D I1 q1
/-- code that the proof never comes to -/
noncomputable def tNever : TS := fun _ _ _ => False
theorem ps_never : PS X st tNever := fun _ _ _ _ _ _ h => h.elim
end

/-! ### targets -/
noncomputable abbrev TG := V → St → Hp → (St → Hp → Prop) → Prop
noncomputable abbrev TGs := List V → St → Hp → (St → Hp → Prop) → Prop
noncomputable def PG (X : Cx) (target : Expr) (t : TG) : Prop :=
  ∀ (pins : List (Addr × Obj)) (s : Shared) (σ : St) (H : Hp) (v : V) (u : Value) (Q : St → Hp → Prop), Inv X pins σ H s → RelV v u → t v σ H Q →
    wpAny (model X.prog X.w) X.A (assign target X.env u) (fun _ s' => ∃ σ' H', Inv X pins σ' H' s' ∧ Q σ' H') X.xe s
/-- several targets, one after another -/
noncomputable def PGs (X : Cx) (ts : List Expr) (t : TGs) : Prop :=
  ∀ (pins : List (Addr × Obj)) (s : Shared) (σ : St) (H : Hp) (vs : List V) (us : List Value) (Q : St → Hp → Prop), Inv X pins σ H s → Vals vs us → t vs σ H Q →
    wpAny (model X.prog X.w) X.A (assignInOrder ((assignEach ts X.env).map (·.2)) us) (fun _ s' => ∃ σ' H', Inv X pins σ' H' s' ∧ Q σ' H') X.xe s
/-- o[i] = v, by values -/
noncomputable abbrev TSet := V → V → V → Hp → (Hp → Prop) → Prop
noncomputable def PSet (X : Cx) (t : TSet) : Prop :=
  ∀ (pins : List (Addr × Obj)) (s : Shared) (σ : St) (H : Hp) (o i v : V) (ov iv u : Value) (Q : Hp → Prop), Inv X pins σ H s → RelV o ov → RelV i iv → RelV v u → t o i v H Q →
    wpAny (model X.prog X.w) X.A (setItem ov iv u) (fun _ s' => ∃ H', Inv X pins σ H' s' ∧ Q H') X.xe s
/-- a op= b, by values -/
noncomputable abbrev TIp := V → V → Hp → VK → Prop
noncomputable def PIp (X : Cx) (op : Operator) (t : TIp) : Prop :=
  ∀ (pins : List (Addr × Obj)) (s : Shared) (σ : St) (H : Hp) (x y : V) (v u : Value) (Q : VK), Inv X pins σ H s → RelV x v → RelV y u → t x y H Q →
    wpAny (model X.prog X.w) X.A (inplaceOp op v u) (EP X pins σ Q) X.xe s
section
variable {X : Cx} {pos : Pos}
noncomputable def gName (i : Nat) : TG := fun v σ H Q => Q (σ.set i (some v)) H
theorem pg_name {i : Nat} {x : Str} (hN : X.N.Nodup) (hi : X.N[i]? = some x) (hx : Loc X.env.scope x) (hf : X.fn x = true ∨ X.env.scope.names.lookup x = some .local := by first | exact .inl rfl | exact .inr rfl | assumption) : PG X (.Name x pos) (gName i) := by
  intro pins s σ H v u Q I r h
  exact wpAny_assign_Name (store_ok I hN hi hx r (fun s' I' => ⟨_, H, I', h⟩) hf)
noncomputable def gNil : TGs := fun vs σ H Q => vs = [] ∧ Q σ H
noncomputable def gCons (t : TG) (u : TGs) : TGs := fun vs σ H Q => ∃ v r, vs = v :: r ∧ t v σ H fun σ' H' => u r σ' H' Q
theorem pgs_nil : PGs X [] gNil := by
  intro pins s σ H vs us Q I r h
  obtain ⟨e, h⟩ := h
  subst e
  cases r
  exact assignInOrder_nil ⟨σ, H, I, h⟩
theorem pgs_cons {e : Expr} {es : List Expr} {t : TG} {u : TGs} (h1 : PG X e t) (h2 : PGs X es u)
    (hs : (assignEach (e :: es) X.env).map (·.2) = assign e X.env :: (assignEach es X.env).map (·.2) := by rfl) : PGs X (e :: es) (gCons t u) := by
  intro pins s σ H vs us Q I r h
  obtain ⟨v, vr, e1, h⟩ := h
  subst e1
  cases r with
  | cons r rr =>
    rw [hs]
    refine assignInOrder_cons (thn (h1 pins s σ H _ _ _ I r h) fun _ s1 ⟨σ1, H1, I1, q1⟩ => ?_)
    exact h2 pins s1 σ1 H1 _ _ Q I1 rr q1
/-- (a, b, ..) = a tuple of that length -/
noncomputable def gTup (K : PySem.W.Frag) (n : Nat) (t : TGs) : TG := fun v σ H Q => ∃ a xs, v = .ref a ∧ SqT K H a xs ∧ xs.length = n ∧ t xs σ H Q
theorem pg_tup {es : List Expr} {k : Nat} {t : TGs} {n : Nat} (hc : X.calm = true) (h : PGs X es t)
    (hn : (assignEach es X.env).length = n := by rfl) (hst : (assignEach es X.env).findIdx? (·.1) = none := by rfl) : PG X (.Tuple es k pos) (gTup X.K n t) := by
  intro pins s σ H v u Q I r hw
  obtain ⟨a, xs, e1, hq, hl, hw⟩ := hw
  subst e1
  cases r
  obtain ⟨its, rv, ht, hz⟩ := I.tuple hq
  refine assign_Tuple_tuple (I.ok.hd hc) ht (by simp [hn, ← hl, rv.length]) hst fun h' hx => ?_
  have I1 : Inv X pins σ H { s with heap := h' } := I.kept (t' := s.toks) fun b o e => hx b o (Nat.ne_of_lt (Heap.lt_size e)) e
  exact h pins _ σ H xs _ Q I1 (by simpa using rv) hw
/-- o[i] = .. -/
noncomputable def gSub (to ti : TE) (t : TSet) : TG := fun v σ H Q => to σ H fun o H1 => ti σ H1 fun i H2 => t o i v H2 fun H3 => Q σ H3
theorem pg_sub {o i : Expr} {to ti : TE} {t : TSet} (ho : PE X o to) (hi : PE X i ti) (hs : PSet X t)
    (ha : ∀ v, assign (.Subscript o i pos) X.env v = (do
      let ov ← holding [v] (eval o X.env)
      let iv ← holding [v, ov] (eval i X.env)
      standAt pos
      holding [v, ov, iv] (setItem ov iv v)
      release [v, ov, iv] []) := by intro _; rfl) : PG X (.Subscript o i pos) (gSub to ti t) := by
  intro pins s σ H v u Q I r h
  rw [ha]
  refine wpAny_bind (wpAny_holding (thn (ho pins s σ H _ I h) fun ov s1 ⟨x, H1, I1, r1, q1⟩ => ?_))
  refine wpAny_bind (wpAny_holding (thn (hi pins s1 σ H1 _ I1 q1) fun iv s2 ⟨y, H2, I2, r2, q2⟩ => ?_))
  refine wpAny_bind (wpAny_standAt (wpAny_bind (wpAny_holding (thn (hs pins s2 σ H2 x y v ov iv u _ I2 r1 r2 r q2) fun _ s3 ⟨H3, I3, q3⟩ => ?_))))
  exact wpAny_release ⟨σ, H3, I3, q3⟩
/-- target = value -/
noncomputable def tAsg (te : TE) (g : TG) : TS := fun D σ H => te σ H fun x H1 => g x σ H1 D.nx
theorem ps_asg {tg e : Expr} {te : TE} {g : TG} (he : PE X e te) (hg : PG X tg g) (hs : swapsWithSole [tg] e pos.line X.env = pure false := by rfl) (hw : swappedStores [tg] e X.env = pure none := by rfl)
    (h1 : (assignEach [tg] X.env).map (·.2) = [assign tg X.env] := by rfl) : PS X (.Assign [tg] e pos) (tAsg te g) := by
  intro pins s σ H D I h
  refine wpAny_Assign_stores (thn (he pins s σ H _ I h) fun v s1 ⟨x, H1, I1, r1, q1⟩ => ?_) hs hw
  rw [h1]
  exact thn (hg pins s1 σ H1 x v _ I1 r1 q1) fun _ s2 q => q
/-- name = value -/
theorem ps_set {i : Nat} {x : Str} {e : Expr} {te : TE} {pos' : Pos} (hN : X.N.Nodup) (hi : X.N[i]? = some x) (hx : Loc X.env.scope x) (he : PE X e te) (hs : swapsWith e (some (.Name x pos')) pos.line X.env = pure false := by rfl) (hf : X.fn x = true ∨ X.env.scope.names.lookup x = some .local := by first | exact .inl rfl | exact .inr rfl | assumption) :
    PS X (.Assign [.Name x pos'] e pos) (tAsg te (gName i)) := by
  intro pins s σ H D I h
  refine wpAny_Assign_Name (thn (he pins s σ H _ I h) fun v s1 ⟨y, H1, I1, r1, q1⟩ => ?_) hs
  exact store_ok I1 hN hi hx r1 (fun s2 I2 => ⟨_, H1, I2, q1⟩) hf
/-- a, b = x, y with plain local names: stored from the right; the pair itself is not tracked (the opening rows as in PyProof/Rows/TupAssign.lean:23) -/
noncomputable def tPar (i j : Nat) (ta : TA) : TS := fun D σ H => ta σ H fun vs H1 => ∃ v w, vs = [v, w] ∧ D.nx ((σ.set i (some v)).set j (some w)) H1
theorem ps_par {i j : Nat} {x y : Str} {a b : Expr} {ta : TA} {px py pt : Pos} {kt k2 pt2} (hc : X.calm = true) (hN : X.N.Nodup) (hi : X.N[i]? = some x) (hj : X.N[j]? = some y) (hij : i ≠ j)
    (hx : X.env.scope.names.lookup x = some .local) (hy : X.env.scope.names.lookup y = some .local) (ha : PA X [a, b] ta)
    (hw : swappedStores [.Tuple [.Name x px, .Name y py] kt pt] (.Tuple [a, b] k2 pt2) X.env = pure (some [x, y]))
    (hs : swapsWithSole [.Tuple [.Name x px, .Name y py] kt pt] (.Tuple [a, b] k2 pt2) pos.line X.env = pure false := by rfl) :
    PS X (.Assign [.Tuple [.Name x px, .Name y py] kt pt] (.Tuple [a, b] k2 pt2) pos) (tPar i j ta) := by
  intro pins s σ H D I h
  rw [exec_Assign_arm]
  refine wpAny_bind (wpAny_standAt ?_)
  rw [hs]
  refine wpAny_bind (wpAny_pure ?_)
  rw [if_neg (by decide)]
  refine wpAny_bind (Tuple_ (thn (ha _ pins s σ H _ I h) fun us s1 ⟨vs, H1, I1, r1, q1⟩ => ?_))
  obtain ⟨v, w, e1, q1⟩ := q1
  subst e1
  obtain ⟨u1, u2, rfl, rv, rw'⟩ : ∃ u1 u2, us = [u1, u2] ∧ RelV v u1 ∧ RelV w u2 := by
    cases r1 with
    | cons p q =>
      cases q with
      | cons p' q' =>
        cases q'
        exact ⟨_, _, rfl, p, p'⟩
  refine wpAny_newObj_type ?_ (by show 2 ≤ sizeLine; decide)
  have I2 : Inv X pins σ H1 { s1 with heap := s1.heap.push { cls := .type "tuple", data := .seq [u1, u2].toArray } } := I1.kept (t' := s1.toks) fun b o e => Heap.get?_push_of_some _ e
  rw [hw]
  refine wpAny_bind (wpAny_pure ?_)
  show wpAny (model X.prog X.w) X.A (do rule "assign.swapped-stores"; let items ← unpackItems (.ref s1.heap.objs.size) 2 none; assignInOrder [fun v => bindName X.env y v, fun v => bindName X.env x v] items.reverse; pure Flow.next) _ _ _
  refine wpAny_bind (wpAny_rule (wpAny_bind (unpackItems_tuple (items := #[u1, u2]) (I.ok.hd hc) (IsTup.new s1.heap _) fun h' hx' => ?_)))
  have I3 := I2.kept (h' := h') (t' := s1.toks) fun b o e => hx' b o (Nat.ne_of_lt (Heap.lt_size e)) e
  show wpAny _ _ (assignInOrder [fun v => bindName X.env y v, fun v => bindName X.env x v] [u2, u1] >>= fun _ => pure Flow.next) _ _ _
  refine wpAny_bind (assignInOrder_cons (wpAny_bindName (store_ok I3 hN hj (.inl hy) rw' (fun s2 I4 => ?_) (.inr hy))))
  refine assignInOrder_cons (wpAny_bindName (store_ok I4 hN hi (.inl hx) rv (fun s3 I5 => assignInOrder_nil (wpAny_pure ?_)) (.inr hx)))
  rw [List.set_comm _ _ (Ne.symm hij)] at I5
  exact ⟨_, H1, I5, q1⟩
/-- o[i] op= e -/
noncomputable def tAugS (to ti te : TE) (tget : V → V → Hp → VK → Prop) (tip : TIp) (tset : TSet) : TS := fun D σ H => to σ H fun o H1 => ti σ H1 fun i H2 => tget o i H2 fun x H3 => te σ H3 fun y H4 => tip x y H4 fun z H5 => tset o i z H5 fun H6 => D.nx σ H6
/-- o[i], by values -/
noncomputable def PGet (X : Cx) (t : V → V → Hp → VK → Prop) : Prop :=
  ∀ (pins : List (Addr × Obj)) (s : Shared) (σ : St) (H : Hp) (o i : V) (ov iv : Value) (Q : VK), Inv X pins σ H s → RelV o ov → RelV i iv → t o i H Q →
    wpAny (model X.prog X.w) X.A (getItem ov iv) (EP X pins σ Q) X.xe s
theorem ps_augS {o i e : Expr} {to ti te : TE} {tget : V → V → Hp → VK → Prop} {tip : TIp} {tset : TSet} {op : Operator} {tpos : Pos} (ho : PE X o to) (hi : PE X i ti) (hg : PGet X tget) (he : PE X e te) (hp : PIp X op tip) (hs : PSet X tset)
    (ha : ∀ ov iv new, augStore i ov iv new = (do holding [new, ov, iv] (setItem ov iv new); release [new, ov, iv] []; pure .next) := by intros; rfl) : PS X (.AugAssign (.Subscript o i tpos) op e pos) (tAugS to ti te tget tip tset) := by
  intro pins s σ H D I h
  refine wpAny_AugAssign_SubscriptAny (thn (ho pins s σ H _ I h) fun ov s1 ⟨x1, H1, I1, r1, q1⟩ => ?_) ha
  refine thn (hi pins s1 σ H1 _ I1 q1) fun iv s2 ⟨x2, H2, I2, r2, q2⟩ => ?_
  refine thn (hg pins s2 σ H2 x1 x2 ov iv _ I2 r1 r2 q2) fun old s3 ⟨x3, H3, I3, r3, q3⟩ => ?_
  refine thn (he pins s3 σ H3 _ I3 q3) fun v s4 ⟨x4, H4, I4, r4, q4⟩ => ?_
  refine thn (hp pins s4 σ H4 x3 x4 old v _ I4 r3 r4 q4) fun new s5 ⟨x5, H5, I5, r5, q5⟩ => ?_
  exact thn (hs pins s5 σ H5 x1 x2 x5 ov iv new _ I5 r1 r2 r5 q5) fun _ s6 ⟨H6, I6, q6⟩ => ⟨σ, H6, I6, q6⟩
/-- ints -/
noncomputable def ipI (f : Int → Int → Int) : TIp := fun x y H Q => ∃ i j, x = .int i ∧ y = .int j ∧ Q (.int (f i j)) H
theorem ip_add : PIp X .Add (ipI fun i j => i + j) := by
  intro pins s σ H x y v u Q I r1 r2 h
  obtain ⟨i, j, e1, e2, q⟩ := h
  subst e1; subst e2
  obtain ⟨t, rfl⟩ := r1
  obtain ⟨t', rfl⟩ := r2
  exact iadd_int ⟨.int _, H, I.tok _, ⟨_, rfl⟩, q⟩
end

/-! ### while -/
section
variable {X : Cx} {pos : Pos}
/-- the invariant W with its measure -/
noncomputable def tWhile (c : TT) (tb : TS) : TS := fun D σ H => ∃ W : Nat → St → Hp → Prop, (∃ m, W m σ H) ∧ ∀ m σ H, W m σ H →
  c σ H fun b H1 => if b = true then ∃ N : St → Hp → Prop, (∀ σ' H', N σ' H' → ∃ m', m' < m ∧ W m' σ' H') ∧ tb { D with nx := N, ct := N, bk := D.nx } σ H1 else D.nx σ H1
theorem ps_while {c : Expr} {body : List Stmt} {tc : TT} {tb : TS} (hp : PassesOwn (model X.prog X.w) X.A X.env X.xe) (hc : PT X c tc) (hb : PSs X body tb) : PS X (.While c body [] pos) (tWhile tc tb) := by
  intro pins s σ H D I h
  obtain ⟨W, ⟨m0, w0⟩, turn⟩ := h
  refine wpAny_While (codeAny_whileLoop (fun n s' => ∃ σ' H', Inv X pins σ' H' s' ∧ W n σ' H') ?_ m0 ⟨σ, H, I, w0⟩)
  rintro n s1 ⟨σ1, H1, I1, w1⟩
  refine wpAny_passesOwn hp (thn (hc pins s1 σ1 H1 _ I1 (turn n σ1 H1 w1)) fun b s2 ⟨H2, I2, q2⟩ => ?_)
  cases b with
  | true =>
    obtain ⟨N, hN, q2⟩ := q2
    rw [if_pos rfl]
    refine wpAny_passesOwn hp (thn (hb pins s2 σ1 H2 _ I2 q2) fun f s3 q3 => ?_)
    cases f with
    | next =>
      obtain ⟨σ3, H3, I3, n3⟩ := q3
      obtain ⟨m', hm, w3⟩ := hN σ3 H3 n3
      exact ⟨m', hm, σ3, H3, I3, w3⟩
    | cont =>
      obtain ⟨σ3, H3, I3, n3⟩ := q3
      obtain ⟨m', hm, w3⟩ := hN σ3 H3 n3
      exact ⟨m', hm, σ3, H3, I3, w3⟩
    | brk => exact q3
    | ret v => exact q3
  | false =>
    rw [if_neg Bool.false_ne_true]
    exact wpAny_execs_nil ⟨σ1, H2, I2, q2⟩
end

/-! ### what a loop or a comprehension walks -/
/-- at turn i: it yields x (the heap may grow), or it stops -/
structure It where
  go : Nat → Hp → Prop
  yld : Nat → Hp → V → Hp → Prop
  stop : Nat → Hp → Prop
/-- the iterator's own objects may turn: they are not the frame's, not pinned, younger than the entry (or a comprehension's own) -/
noncomputable def FpOk (X : Cx) (pins : List (Addr × Obj)) (H : Hp) (b : Addr) : Prop :=
  H b = none ∧ b ≠ X.env.locals ∧ b ∉ X.fs ∧ (b ∈ X.ex ∨ X.s₀.heap.objs.size ≤ b) ∧ (∀ x c, X.env.cells.lookup x = some c → c ≠ b) ∧ ∀ p ∈ X.pn ++ pins, p.1 ≠ b
theorem Inv.fpOk {X : Cx} {pins : List (Addr × Obj)} {σ : St} {H H' : Hp} {s : Shared} {b : Addr} (I : Inv X pins σ H s) (hb : s.heap.objs.size ≤ b) (hn : H' b = none) : FpOk X pins H' b := by
  refine ⟨hn, Nat.ne_of_gt (Nat.lt_of_lt_of_le I.lt hb), I.nofs hb, .inr (Nat.le_trans I.sz hb), fun x c e z => ?_, fun p hp z => ?_⟩
  · obtain ⟨v, q⟩ := I.cell x c e
    exact absurd (Nat.lt_of_lt_of_le q.lt (by rw [z]; exact hb)) (Nat.lt_irrefl _)
  · exact absurd (Nat.lt_of_lt_of_le (Heap.lt_size (I.pin p hp).1) (by rw [z]; exact hb)) (Nat.lt_irrefl _)
structure Turn (P : Program) (w : World) (K : PySem.W.Frag) (tg : Expr) (J : It) (fp : List Addr) (it : Addr) (tn : Nat → Heap → Prop) : Prop where
  mem : it ∈ fp
  obj : ∀ i h, tn i h → ∀ b ∈ fp, ∃ o, h.get? b = some o ∧ ∀ v, o.data ≠ .cell v
  keep : ∀ i h h', tn i h → (∀ b ∈ fp, ∀ o, h.get? b = some o → h'.get? b = some o) → tn i h'
  item : ∀ (X : Cx), X.prog = P → X.w = w → X.K = K → X.calm = true → ∀ (i : Nat) (pins : List (Addr × Obj)) (s : Shared) (σ : St) (H : Hp) (E : Value → Shared → Prop), Inv X pins σ H s → (∀ b ∈ fp, FpOk X pins H b) → tn i s.heap → J.go i H →
    wpAny (model P w) X.A (pyNext (.ref it)) (fun r s1 => ∃ u, r = some u ∧
      wpAny (model P w) X.A (letOwnedTupleGo tg (.ref it) u) (fun _ s2 => ∃ x H', Inv X pins σ H' s2 ∧ RelV x u ∧ J.yld i H x H' ∧ tn (i + 1) s2.heap ∧ ∀ b ∈ fp, H' b = none) E s1) E s
  done : ∀ (X : Cx), X.prog = P → X.w = w → X.K = K → X.calm = true → ∀ (i : Nat) (pins : List (Addr × Obj)) (s : Shared) (σ : St) (H : Hp) (E : Value → Shared → Prop), Inv X pins σ H s → (∀ b ∈ fp, FpOk X pins H b) → tn i s.heap → J.stop i H →
    wpAny (model P w) X.A (pyNext (.ref it)) (fun r s1 => r = none ∧ Inv X pins σ H s1) E s
  self : ∀ (A : Around) (i : Nat) (s : Shared) (Q : Value → Shared → Prop) (E : Value → Shared → Prop), tn i s.heap → Q (.ref it) s → wpAny (model P w) A (pyIter (.ref it)) Q E s
noncomputable abbrev TI := St → Hp → (It → Hp → Prop) → Prop
/-- an iterator has come -/
noncomputable def PIE (X : Cx) (pins : List (Addr × Obj)) (σ : St) (tg : Expr) (R : It → Hp → Prop) (itv : Value) (s2 : Shared) : Prop :=
  ∃ (it : Addr) (fp : List Addr) (tn : Nat → Heap → Prop) (J : It) (H' : Hp), itv = .ref it ∧ Inv X pins σ H' s2 ∧ Turn X.prog X.w X.K tg J fp it tn ∧ tn 0 s2.heap ∧ (∀ b ∈ fp, FpOk X pins H' b) ∧ R J H'
noncomputable def PI (X : Cx) (tg iter : Expr) (wi : TI) : Prop :=
  ∀ (pins : List (Addr × Obj)) (s : Shared) (σ : St) (H : Hp) (R : It → Hp → Prop), Inv X pins σ H s → wi σ H R →
    wpAny (model X.prog X.w) X.A (eval iter X.env) (fun v s1 => wpAny (model X.prog X.w) X.A (pyIter v) (PIE X pins σ tg R) X.xe s1) X.xe s

/-- the step ahead of the store is nothing for an iterator that keeps no tuple -/
theorem go_of {M : Model} {A : Around} {E : Value → Shared → Prop} {s : Shared} {tg : Expr} {it : Addr} {u : Value} {o : Obj} {n : String} {vs : Array Value} {Q : Unit → Shared → Prop} (ho : s.heap.get? it = some o) (hc : o.cls = .type n) (hd : o.data = .fields vs)
    (hn : ["enumerate", "zip", "dict_itemiterator", "dict_reverseitemiterator", "odict_iterator", "itertools.zip_longest", "itertools.pairwise"].contains n = false) (hQ : Q () s) : wpAny M A (letOwnedTupleGo tg (.ref it) u) Q E s := by
  unfold letOwnedTupleGo
  cases tg <;> first
    | exact wpAny_pure hQ
    | (cases u <;> first
        | exact wpAny_pure hQ
        | (refine wpAny_bind (wpAny_load ho ?_)
           rw [hc, hd]
           show wpAny M A (if (["enumerate", "zip", "dict_itemiterator", "dict_reverseitemiterator", "odict_iterator", "itertools.zip_longest", "itertools.pairwise"].contains n && vs[0]? == some (rawInt _)) = true then _ else _) Q E s
           rw [if_neg (by intro h; rw [hn, Bool.false_and] at h; cases h)]
           exact wpAny_pure hQ))

/-- the list at a, as it stands at each turn (a loop may append to it) -/
noncomputable def Itl (K : PySem.W.Frag) (a : Addr) : It :=
  ⟨fun i H => ∃ xs x, SqL K H a xs ∧ xs[i]? = some x, fun i H x H' => H' = H ∧ ∀ xs, SqL K H a xs → xs[i]? = some x, fun i H => ∃ xs, SqL K H a xs ∧ xs.length ≤ i⟩
noncomputable def Itt (K : PySem.W.Frag) (a : Addr) : It :=
  ⟨fun i H => ∃ xs x, SqT K H a xs ∧ xs[i]? = some x, fun i H x H' => H' = H ∧ ∀ xs, SqT K H a xs → xs[i]? = some x, fun i H => ∃ xs, SqT K H a xs ∧ xs.length ≤ i⟩
/-- lo, lo + 1, .. (n of them) -/
noncomputable def Itr (lo : Int) (n : Nat) : It := ⟨fun i _ => i < n, fun i H x H' => H' = H ∧ x = .int (lo + i), fun i _ => n ≤ i⟩
theorem turn_list {P : Program} {w : World} {K : PySem.W.Frag} {tg : Expr} (a it : Addr) : Turn P w K tg (Itl K a) [it] it (fun i h => h.IsListIter it a i) where
  mem := by simp
  obj := fun i h st b hb => by
    have e : b = it := by simpa using hb
    subst e
    obtain ⟨o, e, c, d⟩ := st
    exact ⟨o, e, fun v z => by rw [d] at z; cases z⟩
  keep := fun i h h' st k => st.at fun o e => k it (by simp) o e
  item := by
    intro X hP hw hK hc i pins s σ H E I hf st hg
    subst hP hw hK
    obtain ⟨xs, x, hq, hx⟩ := hg
    obtain ⟨its, rv, p, hz⟩ := I.list hq
    obtain ⟨u, hu, ru⟩ := rv.get hx
    obtain ⟨f0, f1, f2, f3, f4, f5⟩ := hf it (by simp)
    refine wpAny_pyNext_list_item st p.isList (x := u) (by simpa using hu) fun h' st' sb => ?_
    have I1 : Inv X pins σ H { s with heap := h' } := I.turned (t' := s.toks) (fun b o hb e => (sb.2 b hb).trans e) f0 f1 f3 f4 f5
    obtain ⟨o, e, c, d⟩ := id st'
    exact ⟨u, rfl, go_of (s := { s with heap := h' }) e c d (by decide) ⟨x, H, I1, ru, ⟨rfl, fun ys hy => by rw [I.list_inj hy hq]; exact hx⟩, st', fun b hb => (hf b hb).1⟩⟩
  done := by
    intro X hP hw hK hc i pins s σ H E I hf st hg
    subst hP hw hK
    obtain ⟨xs, hq, hx⟩ := hg
    obtain ⟨its, rv, p, hz⟩ := I.list hq
    obtain ⟨f0, f1, f2, f3, f4, f5⟩ := hf it (by simp)
    have hl := rv.length
    exact wpAny_pyNext_list_end (I.ok.hd hc) st p.isList (by simp; omega) fun h' eb => ⟨rfl, I.turned (t' := s.toks) (fun b o hb e => eb b o hb e) f0 f1 f3 f4 f5⟩
  self := fun _ _ _ _ _ st h => wpAny_pyIter_listiter st h
theorem turn_tuple {P : Program} {w : World} {K : PySem.W.Frag} {tg : Expr} (a it : Addr) : Turn P w K tg (Itt K a) [it] it (fun i h => h.IsTupleIter it a i) where
  mem := by simp
  obj := fun i h st b hb => by
    have e : b = it := by simpa using hb
    subst e
    obtain ⟨o, e, c, d⟩ := st
    exact ⟨o, e, fun v z => by rw [d] at z; cases z⟩
  keep := fun i h h' st k => st.at fun o e => k it (by simp) o e
  item := by
    intro X hP hw hK hc i pins s σ H E I hf st hg
    subst hP hw hK
    obtain ⟨xs, x, hq, hx⟩ := hg
    obtain ⟨its, rv, p, hz⟩ := I.tuple hq
    obtain ⟨u, hu, ru⟩ := rv.get hx
    obtain ⟨f0, f1, f2, f3, f4, f5⟩ := hf it (by simp)
    refine wpAny_pyNext_tuple_item st (show s.heap.IsTuple a its.toArray from p) (x := u) (by simpa using hu) fun h' st' sb => ?_
    have I1 : Inv X pins σ H { s with heap := h' } := I.turned (t' := s.toks) (fun b o hb e => (sb.2 b hb).trans e) f0 f1 f3 f4 f5
    obtain ⟨o, e, c, d⟩ := id st'
    exact ⟨u, rfl, go_of (s := { s with heap := h' }) e c d (by decide) ⟨x, H, I1, ru, ⟨rfl, fun ys hy => by rw [I.tuple_inj hy hq]; exact hx⟩, st', fun b hb => (hf b hb).1⟩⟩
  done := by
    intro X hP hw hK hc i pins s σ H E I hf st hg
    subst hP hw hK
    obtain ⟨xs, hq, hx⟩ := hg
    obtain ⟨its, rv, p, hz⟩ := I.tuple hq
    obtain ⟨f0, f1, f2, f3, f4, f5⟩ := hf it (by simp)
    have hl := rv.length
    exact wpAny_pyNext_tuple_end (I.ok.hd hc) st (show s.heap.IsTuple a its.toArray from p) (by simp; omega) fun h' eb => ⟨rfl, I.turned (t' := s.toks) (fun b o hb e => eb b o hb e) f0 f1 f3 f4 f5⟩
  self := fun _ _ _ _ _ st h => wpAny_pyIter_tupleiter st h
theorem turn_range {P : Program} {w : World} {K : PySem.W.Frag} {tg : Expr} (it : Addr) (lo : Int) (n : Nat) : Turn P w K tg (Itr lo n) [it] it (fun i h => IsRangeIter h it (lo + (i : Nat) * 1) ((n : Int) - (i : Nat)) 1) where
  mem := by simp
  obj := fun i h st b hb => by
    have e : b = it := by simpa using hb
    subst e
    exact ⟨_, st, fun v z => by
      have z' : Data.fields _ = Data.cell v := z
      cases z'⟩
  keep := fun i h h' st k => k it (by simp) _ st
  item := by
    intro X hP hw hK hc i pins s σ H E I hf st hg
    subst hP hw hK
    obtain ⟨f0, f1, f2, f3, f4, f5⟩ := hf it (by simp)
    have W := Walks.range (prog := X.prog) (w := X.w) (I.ok.hd hc) it lo 1 n
    refine W.item i s _ _ hg st fun v h' tk hv st' kk => ?_
    obtain ⟨t, rfl⟩ := hv
    have I1 : Inv X pins σ H { s with heap := h', toks := tk } := I.turned (fun b o hb e => kk b o (by simpa using hb) e) f0 f1 f3 f4 f5
    refine ⟨_, rfl, go_of (s := { s with heap := h', toks := tk }) (n := "range_iterator") st' rfl rfl (by decide) ⟨.int (lo + i), H, I1, ⟨t, ?_⟩, ⟨rfl, rfl⟩, st', fun b hb => (hf b hb).1⟩⟩
    rw [Int.mul_one]
  done := by
    intro X hP hw hK hc i pins s σ H E I hf st hg
    subst hP hw hK
    obtain ⟨f0, f1, f2, f3, f4, f5⟩ := hf it (by simp)
    exact wpAny_pyNext_range_end (I.ok.hd hc) st (by have : n ≤ i := hg; omega) fun h' eb => ⟨rfl, I.turned (t' := s.toks) (fun b o hb e => eb b o hb e) f0 f1 f3 f4 f5⟩
  self := fun _ _ _ _ _ st h => wpAny_pyIter_rangeiter st h
end L2

namespace L2
open PySem PySem.Spec PyProof.Rows
section
variable {X : Cx} {tg : Expr}
noncomputable def iList (K : PySem.W.Frag) (tl : TE) : TI := fun σ H R => tl σ H fun x H1 => ∃ a, x = .ref a ∧ (∃ xs, SqL K H1 a xs) ∧ R (Itl K a) H1
noncomputable def iTup (K : PySem.W.Frag) (tl : TE) : TI := fun σ H R => tl σ H fun x H1 => ∃ a, x = .ref a ∧ (∃ xs, SqT K H1 a xs) ∧ R (Itt K a) H1
theorem pi_list {l : Expr} {tl : TE} (hl : PE X l tl) : PI X tg l (iList X.K tl) := by
  intro pins s σ H R I h
  refine thn (hl pins s σ H _ I h) fun v s1 ⟨x, H1, I1, r1, q1⟩ => ?_
  obtain ⟨a, e, ⟨xs, hq⟩, q⟩ := q1
  subst e
  cases r1
  obtain ⟨its, rv, p, hz⟩ := I1.list hq
  refine wpAny_pyIter_list p.isList ?_
  refine ⟨s1.heap.objs.size, [s1.heap.objs.size], _, _, H1, rfl, I1.kept (t' := s1.toks) fun b o e => Heap.get?_push_of_some _ e, turn_list a _, ⟨_, Heap.get?_push_size _ rfl, rfl, rfl⟩, fun b hb => ?_, q⟩
  have e : b = s1.heap.objs.size := by simpa using hb
  subst e
  exact I1.fpOk (Nat.le_refl _) (I1.hok.fresh (Nat.le_refl _))
theorem pi_tup {l : Expr} {tl : TE} (hl : PE X l tl) : PI X tg l (iTup X.K tl) := by
  intro pins s σ H R I h
  refine thn (hl pins s σ H _ I h) fun v s1 ⟨x, H1, I1, r1, q1⟩ => ?_
  obtain ⟨a, e, ⟨xs, hq⟩, q⟩ := q1
  subst e
  cases r1
  obtain ⟨its, rv, p, hz⟩ := I1.tuple hq
  refine wpAny_pyIter_tuple (show s1.heap.IsTuple a its.toArray from p) ?_
  refine ⟨s1.heap.objs.size, [s1.heap.objs.size], _, _, H1, rfl, I1.kept (t' := s1.toks) fun b o e => Heap.get?_push_of_some _ e, turn_tuple a _, ⟨_, Heap.get?_push_size _ rfl, rfl, rfl⟩, fun b hb => ?_, q⟩
  have e : b = s1.heap.objs.size := by simpa using hb
  subst e
  exact I1.fpOk (Nat.le_refl _) (I1.hok.fresh (Nat.le_refl _))
/-- a range object just made, walked -/
theorem range_it {pins : List (Addr × Obj)} {σ : St} {H : Hp} {s : Shared} {R : It → Hp → Prop} {E : Value → Shared → Prop} {lo hi : Int} {t u v : Tok} {tk : Nat} (I : Inv X pins σ H s) (h1 : -(2 ^ 62) ≤ lo) (h2 : lo < 2 ^ 62) (h3 : -(2 ^ 62) ≤ hi) (h4 : hi < 2 ^ 62)
    (q : R (Itr lo (hi - lo).toNat) H) : wpAny (model X.prog X.w) X.A (pyIter (.ref s.heap.objs.size)) (PIE X pins σ tg R) E { s with heap := s.heap.push { cls := .type "range", data := .fields #[.int lo t, .int hi u, .int 1 v] }, toks := tk } := by
  refine wpAny_pyIter_range (IsRange.new ..) (small_one h1 h2 h3 h4) ?_
  have I1 : Inv X pins σ H { s with heap := s.heap.push { cls := .type "range", data := .fields #[.int lo t, .int hi u, .int 1 v] }, toks := tk } := I.kept fun b o e => Heap.get?_push_of_some _ e
  refine ⟨(s.heap.push { cls := .type "range", data := .fields #[.int lo t, .int hi u, .int 1 v] }).objs.size, [(s.heap.push { cls := .type "range", data := .fields #[.int lo t, .int hi u, .int 1 v] }).objs.size], _, _, H, rfl,
    I1.kept (t' := tk) fun b o e => Heap.get?_push_of_some _ e, turn_range _ lo (hi - lo).toNat, ?_, fun b hb => ?_, q⟩
  · have e1 : lo + ((0 : Nat) : Int) * 1 = lo := by simp
    have e2 : (((hi - lo).toNat : Nat) : Int) - ((0 : Nat) : Int) = Builtin.Range.rangeSize lo hi 1 := by rw [rangeSize_one]; split <;> omega
    show IsRangeIter _ _ (lo + ((0 : Nat) : Int) * 1) ((((hi - lo).toNat : Nat) : Int) - ((0 : Nat) : Int)) 1
    rw [e1, e2]
    exact Heap.get?_push_size _ rfl
  · have e : b = (s.heap.push { cls := .type "range", data := .fields #[.int lo t, .int hi u, .int 1 v] }).objs.size := by simpa using hb
    subst e
    exact I1.fpOk (Nat.le_refl _) (I1.hok.fresh (Nat.le_refl _))
noncomputable def iRng1 (ta : TA) : TI := fun σ H R => ta σ H fun vs H1 => ∃ j : Int, vs = [.int j] ∧ -(2 ^ 62) ≤ j ∧ j < 2 ^ 62 ∧ R (Itr 0 j.toNat) H1
noncomputable def iRng2 (ta : TA) : TI := fun σ H R => ta σ H fun vs H1 => ∃ i j : Int, vs = [.int i, .int j] ∧ (-(2 ^ 62) ≤ i ∧ i < 2 ^ 62 ∧ -(2 ^ 62) ≤ j ∧ j < 2 ^ 62) ∧ R (Itr i (j - i).toNat) H1
theorem pi_range1 {a : Expr} {ta : TA} {p pos : Pos} (hg : Gl X "range") (hm : X.mg "range" = none) (ha : PA X [a] ta) (hs : starEach [a] X.env = [(false, eval a X.env)] := by rfl) : PI X tg (.Call (.Name "range" p) [a] [] pos) (iRng1 ta) := by
  intro pins s σ H R I h
  refine Call_ (ld_blt I hg hm boot_range (PyProof.Rows.callWith_type1 (thn (ha pos pins s σ H _ I h) fun us s1 ⟨vs, H1, I1, r1, q1⟩ => ?_) hs rfl))
  obtain ⟨j, e, q1, q2, q⟩ := q1
  subst e
  cases r1 with
  | cons r rr =>
    cases rr
    obtain ⟨t, rfl⟩ := r
    exact call_range_1 (range_it I1 (by omega) (by omega) q1 q2 (by simpa using q))
theorem pi_range2 {a b : Expr} {ta : TA} {p pos : Pos} (hg : Gl X "range") (hm : X.mg "range" = none) (ha : PA X [a, b] ta) (hs : starEach [a, b] X.env = [(false, eval a X.env), (false, eval b X.env)] := by rfl) (hs2 : starEach [b] X.env = [(false, eval b X.env)] := by rfl) :
    PI X tg (.Call (.Name "range" p) [a, b] [] pos) (iRng2 ta) := by
  intro pins s σ H R I h
  refine Call_ (ld_blt I hg hm boot_range (PyProof.Rows.callWith_type1 (thn (ha pos pins s σ H _ I h) fun us s1 ⟨vs, H1, I1, r1, q1⟩ => ?_) (by rw [hs, hs2]) (by rw [hs2]; rfl)))
  obtain ⟨i, j, e, ⟨q1, q2, q3, q4⟩, q⟩ := q1
  subst e
  cases r1 with
  | cons r rr =>
    cases rr with
    | cons r' rr =>
      cases rr
      obtain ⟨t, rfl⟩ := r
      obtain ⟨t', rfl⟩ := r'
      exact call_range_2 (range_it I1 q1 q2 q3 q4 q)

/-! ### for -/
/-- W: the invariant by the turn and a measure; N: what the body is to reach -/
noncomputable def tFor (wi : TI) (g : TG) (tb : TS) : TS := fun D σ H => wi σ H fun J H1 => ∃ W : Nat → Nat → St → Hp → Prop, (∃ m, W 0 m σ H1) ∧ ∀ i m σ H, W i m σ H →
  (J.stop i H ∧ D.nx σ H) ∨ (J.go i H ∧ ∃ N : St → Hp → Prop, (∀ σ' H', N σ' H' → ∃ m', m' < m ∧ W (i + 1) m' σ' H') ∧ ∀ x H', J.yld i H x H' → g x σ H' fun σ2 H2 => tb { D with nx := N, ct := N, bk := D.nx } σ2 H2)
/-- the records at fp as they stand -/
noncomputable def pinsAt (fp : List Addr) (h : Heap) : List (Addr × Obj) := fp.filterMap fun b => (h.get? b).map fun o => (b, o)
theorem mem_pinsAt {fp : List Addr} {h : Heap} {b : Addr} {o : Obj} (hb : b ∈ fp) (e : h.get? b = some o) : (b, o) ∈ pinsAt fp h := List.mem_filterMap.mpr ⟨b, hb, by rw [e]; rfl⟩
theorem of_pinsAt {fp : List Addr} {h : Heap} {p : Addr × Obj} (hp : p ∈ pinsAt fp h) : p.1 ∈ fp ∧ h.get? p.1 = some p.2 := by
  obtain ⟨b, hb, e⟩ := List.mem_filterMap.mp hp
  cases q : h.get? b with
  | none => rw [q] at e; cases e
  | some o =>
    rw [q] at e
    have e' : (b, o) = p := Option.some.inj e
    subst e'
    exact ⟨hb, q⟩
theorem Inv.pinned {pins : List (Addr × Obj)} {σ : St} {H : Hp} {s : Shared} {fp : List Addr} (I : Inv X pins σ H s) (hf : ∀ b ∈ fp, FpOk X pins H b) (ho : ∀ b ∈ fp, ∃ o, s.heap.get? b = some o ∧ ∀ v, o.data ≠ .cell v) : Inv X (pins ++ pinsAt fp s.heap) σ H s :=
  I.pins_of fun p hp => (List.mem_append.mp hp).elim (fun z => I.pin p (List.mem_append_right _ z)) fun z => by
    obtain ⟨hb, e⟩ := of_pinsAt z
    obtain ⟨f0, f1, f2, _⟩ := hf p.1 hb
    obtain ⟨o, e', d⟩ := ho p.1 hb
    rw [e] at e'; cases e'
    exact ⟨e, f0, f1, f2, d⟩
theorem Inv.unpinned {pins pl : List (Addr × Obj)} {σ : St} {H : Hp} {s : Shared} (I : Inv X (pins ++ pl) σ H s) : Inv X pins σ H s := I.pins_of fun p hp => I.pin p (List.mem_append_right _ (List.mem_append_left _ hp))
theorem ps_for {iter : Expr} {body : List Stmt} {wi : TI} {g : TG} {tb : TS} {pos : Pos} (hp : PassesOwn (model X.prog X.w) X.A X.env X.xe) (hc : X.calm = true) (hi : PI X tg iter wi) (hg : PG X tg g) (hb : PSs X body tb)
    (hs : ∀ x, foldedSetIterable iter X.env x = pure x := by intro _; rfl) : PS X (.For tg iter body [] pos) (tFor wi g tb) := by
  intro pins s σ H D I h
  refine wpAny_For (thn (hi pins s σ H _ I h) fun v s1 h1 => thn h1 fun itv s2 h2 => ?_) hs
  obtain ⟨it, fp, tn, J, H2, e, I2, T, st2, f2, W, ⟨m0, w0⟩, turn⟩ := h2
  subst e
  -- what stays true of the iterator's objects through the loop
  have stat : ∀ {H' : Hp}, (∀ b ∈ fp, H' b = none) → ∀ b ∈ fp, FpOk X pins H' b := fun hn b hb => ⟨hn b hb, (f2 b hb).2⟩
  refine codeAny_forLoop_any (fun n s' => ∃ i σ' H', Inv X pins σ' H' s' ∧ tn i s'.heap ∧ (∀ b ∈ fp, H' b = none) ∧ W i n σ' H') ?_ m0 ⟨0, σ, H2, I2, st2, fun b hb => (f2 b hb).1, w0⟩
  rintro n s3 ⟨i, σ3, H3, I3, st3, fr3, w3⟩
  rcases turn i n σ3 H3 w3 with ⟨stop, qn⟩ | ⟨go, N, hN, step⟩
  · refine wpAny_passesOwn hp (thn (T.done X rfl rfl rfl hc i pins s3 σ3 H3 X.xe I3 (stat fr3) st3 stop) fun r s4 ⟨hr, I4⟩ => ?_)
    subst hr
    exact wpAny_execs_nil ⟨σ3, H3, I4, qn⟩
  · refine wpAny_passesOwn hp (thn (T.item X rfl rfl rfl hc i pins s3 σ3 H3 X.xe I3 (stat fr3) st3 go) fun r s4 ⟨u, hr, h4⟩ => ?_)
    subst hr
    refine wpAny_passesOwn hp (thn h4 fun _ s5 ⟨x, H5, I5, r5, y5, st5, fr5⟩ => ?_)
    have I5' := I5.pinned (stat fr5) (T.obj _ _ st5)
    refine wpAny_passesOwn hp (thn (hg _ s5 σ3 H5 x u _ I5' r5 (step x H5 y5)) fun _ s6 ⟨σ6, H6, I6, q6⟩ => ?_)
    refine wpAny_passesOwn hp (thn (hb _ s6 σ6 H6 _ I6 q6) fun f s7 q7 => ?_)
    have again : ∀ {σ7 : St} {H7 : Hp}, Inv X (pins ++ pinsAt fp s5.heap) σ7 H7 s7 → N σ7 H7 → ∃ m, m < n ∧ ∃ i σ' H', Inv X pins σ' H' s7 ∧ tn i s7.heap ∧ (∀ b ∈ fp, H' b = none) ∧ W i m σ' H' := fun {σ7 H7} I7 n7 => by
      obtain ⟨m', hm, w7⟩ := hN σ7 H7 n7
      refine ⟨m', hm, i + 1, σ7, H7, I7.unpinned, T.keep _ _ _ st5 fun b hb o e => (I7.pin (b, o) (List.mem_append_right _ (List.mem_append_right _ (mem_pinsAt hb e)))).1, fun b hb => ?_, w7⟩
      obtain ⟨o, e, d⟩ := T.obj _ _ st5 b hb
      exact (I7.pin (b, o) (List.mem_append_right _ (List.mem_append_right _ (mem_pinsAt hb e)))).2.1
    cases f with
    | next => obtain ⟨σ7, H7, I7, n7⟩ := q7; exact again I7 n7
    | cont => obtain ⟨σ7, H7, I7, n7⟩ := q7; exact again I7 n7
    | brk => obtain ⟨σ7, H7, I7, q7⟩ := q7; exact ⟨σ7, H7, I7.unpinned, q7⟩
    | ret v => obtain ⟨x7, σ7, H7, I7, r7, q7⟩ := q7; exact ⟨x7, σ7, H7, I7.unpinned, r7, q7⟩
end

/-! ### the forms one uses -/
/-- over a list that the body leaves as it is -/
theorem for_list {K : PySem.W.Frag} {a : Addr} {xs : List V} {g : TG} {tb : TS} {D : Ends} {σ : St} {H : Hp} (Pv : Nat → St → Hp → Prop) (h0 : Pv 0 σ H) (hl : ∀ i σ H, i ≤ xs.length → Pv i σ H → SqL K H a xs)
    (hs : ∀ i x σ H, xs[i]? = some x → Pv i σ H → g x σ H fun σ2 H2 => tb { D with nx := Pv (i + 1), ct := Pv (i + 1), bk := D.nx } σ2 H2) (hd : ∀ σ H, Pv xs.length σ H → D.nx σ H) :
    ∃ W : Nat → Nat → St → Hp → Prop, (∃ m, W 0 m σ H) ∧ ∀ i m σ H, W i m σ H →
      ((Itl K a).stop i H ∧ D.nx σ H) ∨ ((Itl K a).go i H ∧ ∃ N : St → Hp → Prop, (∀ σ' H', N σ' H' → ∃ m', m' < m ∧ W (i + 1) m' σ' H') ∧ ∀ x H', (Itl K a).yld i H x H' → g x σ H' fun σ2 H2 => tb { D with nx := N, ct := N, bk := D.nx } σ2 H2) := by
  refine ⟨fun i m σ H => m = xs.length - i ∧ i ≤ xs.length ∧ Pv i σ H, ⟨xs.length, by simp, Nat.zero_le _, h0⟩, ?_⟩
  rintro i m σ H ⟨rfl, hi, p⟩
  have q := hl i σ H hi p
  by_cases hlt : i < xs.length
  · refine .inr ⟨⟨xs, xs[i], q, by simp [hlt]⟩, Pv (i + 1), fun σ' H' p' => ⟨xs.length - (i + 1), by omega, rfl, hlt, p'⟩, fun x H' y => ?_⟩
    obtain ⟨e, y⟩ := y
    subst e
    exact hs i x σ _ (y xs q) p
  · have e : i = xs.length := by omega
    subst e
    exact .inl ⟨⟨xs, q, Nat.le_refl _⟩, hd σ H p⟩
theorem for_tup {K : PySem.W.Frag} {a : Addr} {xs : List V} {g : TG} {tb : TS} {D : Ends} {σ : St} {H : Hp} (Pv : Nat → St → Hp → Prop) (h0 : Pv 0 σ H) (hl : ∀ i σ H, i ≤ xs.length → Pv i σ H → SqT K H a xs)
    (hs : ∀ i x σ H, xs[i]? = some x → Pv i σ H → g x σ H fun σ2 H2 => tb { D with nx := Pv (i + 1), ct := Pv (i + 1), bk := D.nx } σ2 H2) (hd : ∀ σ H, Pv xs.length σ H → D.nx σ H) :
    ∃ W : Nat → Nat → St → Hp → Prop, (∃ m, W 0 m σ H) ∧ ∀ i m σ H, W i m σ H →
      ((Itt K a).stop i H ∧ D.nx σ H) ∨ ((Itt K a).go i H ∧ ∃ N : St → Hp → Prop, (∀ σ' H', N σ' H' → ∃ m', m' < m ∧ W (i + 1) m' σ' H') ∧ ∀ x H', (Itt K a).yld i H x H' → g x σ H' fun σ2 H2 => tb { D with nx := N, ct := N, bk := D.nx } σ2 H2) := by
  refine ⟨fun i m σ H => m = xs.length - i ∧ i ≤ xs.length ∧ Pv i σ H, ⟨xs.length, by simp, Nat.zero_le _, h0⟩, ?_⟩
  rintro i m σ H ⟨rfl, hi, p⟩
  have q := hl i σ H hi p
  by_cases hlt : i < xs.length
  · refine .inr ⟨⟨xs, xs[i], q, by simp [hlt]⟩, Pv (i + 1), fun σ' H' p' => ⟨xs.length - (i + 1), by omega, rfl, hlt, p'⟩, fun x H' y => ?_⟩
    obtain ⟨e, y⟩ := y
    subst e
    exact hs i x σ _ (y xs q) p
  · have e : i = xs.length := by omega
    subst e
    exact .inl ⟨⟨xs, q, Nat.le_refl _⟩, hd σ H p⟩
theorem for_range {lo : Int} {n : Nat} {g : TG} {tb : TS} {D : Ends} {σ : St} {H : Hp} (Pv : Nat → St → Hp → Prop) (h0 : Pv 0 σ H)
    (hs : ∀ i σ H, i < n → Pv i σ H → g (.int (lo + i)) σ H fun σ2 H2 => tb { D with nx := Pv (i + 1), ct := Pv (i + 1), bk := D.nx } σ2 H2) (hd : ∀ σ H, Pv n σ H → D.nx σ H) :
    ∃ W : Nat → Nat → St → Hp → Prop, (∃ m, W 0 m σ H) ∧ ∀ i m σ H, W i m σ H →
      ((Itr lo n).stop i H ∧ D.nx σ H) ∨ ((Itr lo n).go i H ∧ ∃ N : St → Hp → Prop, (∀ σ' H', N σ' H' → ∃ m', m' < m ∧ W (i + 1) m' σ' H') ∧ ∀ x H', (Itr lo n).yld i H x H' → g x σ H' fun σ2 H2 => tb { D with nx := N, ct := N, bk := D.nx } σ2 H2) := by
  refine ⟨fun i m σ H => m = n - i ∧ i ≤ n ∧ Pv i σ H, ⟨n, by simp, Nat.zero_le _, h0⟩, ?_⟩
  rintro i m σ H ⟨rfl, hi, p⟩
  by_cases hlt : i < n
  · refine .inr ⟨hlt, Pv (i + 1), fun σ' H' p' => ⟨n - (i + 1), by omega, rfl, hlt, p'⟩, fun x H' y => ?_⟩
    obtain ⟨e, y⟩ := y
    subst e y
    exact hs i σ _ hlt p
  · have e : i = n := by omega
    subst e
    exact .inl ⟨Nat.le_refl _, hd σ H p⟩
/-- while, by a word and a measure of the state -/
theorem while_by {c : TT} {tb : TS} {D : Ends} {σ : St} {H : Hp} (Pv : St → Hp → Prop) (μ : St → Hp → Nat) (h0 : Pv σ H)
    (hs : ∀ σ H, Pv σ H → c σ H fun b H1 => if b = true then tb { D with nx := fun σ' H' => Pv σ' H' ∧ μ σ' H' < μ σ H, ct := fun σ' H' => Pv σ' H' ∧ μ σ' H' < μ σ H, bk := D.nx } σ H1 else D.nx σ H1)
    (mono : ∀ σ H Q Q', (∀ b H1, Q b H1 → Q' b H1) → c σ H Q → c σ H Q') : tWhile c tb D σ H := by
  refine ⟨fun m σ H => m = μ σ H ∧ Pv σ H, ⟨_, rfl, h0⟩, ?_⟩
  rintro m σ H ⟨rfl, p⟩
  refine mono σ H _ _ (fun b H1 q => ?_) (hs σ H p)
  cases b with
  | true => exact ⟨_, fun σ' H' ⟨p', l⟩ => ⟨_, l, rfl, p'⟩, q⟩
  | false => exact q
end L2

namespace L2
open PySem PySem.Spec PyProof.Rows

noncomputable abbrev R2 := V → V → Hp → VK → Prop
/-- a two-place operation on values: f is binaryOp op, inplaceOp op or compareOp op -/
noncomputable def OpR (X : Cx) (f : Value → Value → Sem Value) (r : R2) : Prop :=
  ∀ (pins : List (Addr × Obj)) (s : Shared) (σ : St) (H : Hp) (x y : V) (v u : Value) (Q : VK), Inv X pins σ H s → RelV x v → RelV y u → r x y H Q →
    wpAny (model X.prog X.w) X.A (f v u) (EP X pins σ Q) X.xe s
/-- a one-place operation -/
noncomputable def UnR (X : Cx) (f : Value → Sem Value) (r : V → Hp → VK → Prop) : Prop :=
  ∀ (pins : List (Addr × Obj)) (s : Shared) (σ : St) (H : Hp) (x : V) (v : Value) (Q : VK), Inv X pins σ H s → RelV x v → r x H Q →
    wpAny (model X.prog X.w) X.A (f v) (EP X pins σ Q) X.xe s
/-- a call of a value that is known (a builtin, a type) with values -/
noncomputable def CallR (X : Cx) (f : Value) (r : List V → Hp → VK → Prop) : Prop :=
  ∀ (pins : List (Addr × Obj)) (s : Shared) (σ : St) (H : Hp) (xs : List V) (us : List Value) (Q : VK), Inv X pins σ H s → Vals xs us → r xs H Q →
    wpAny (model X.prog X.w) X.A (call f us) (EP X pins σ Q) X.xe s
/-- a value's truth -/
noncomputable def tOp (r : R2) (ta tb : TE) : TE := fun σ H Q => ta σ H fun x H1 => tb σ H1 fun y H2 => r x y H2 Q
noncomputable def tUn (r : V → Hp → VK → Prop) (ta : TE) : TE := fun σ H Q => ta σ H fun x H1 => r x H1 Q
/-- ints in, under C, and a value out -/
noncomputable def rI (C : Int → Int → Prop) (g : Int → Int → V) : R2 := fun x y H Q => ∃ i j, x = .int i ∧ y = .int j ∧ C i j ∧ Q (g i j) H
noncomputable def rI0 (g : Int → Int → V) : R2 := fun x y H Q => ∃ i j, x = .int i ∧ y = .int j ∧ Q (g i j) H
noncomputable def rU (g : Int → V) : V → Hp → VK → Prop := fun x H Q => ∃ i, x = .int i ∧ Q (g i) H

section
variable {X : Cx} {a b c : Expr} {ta tb tc : TE} {pos : Pos}

theorem binT (ha : PE X a ta) (hb : PE X b tb) {pins : List (Addr × Obj)} {s : Shared} {σ : St} {H : Hp} {R : V → V → Hp → Prop} (I : Inv X pins σ H s)
    (h : ta σ H fun x H1 => tb σ H1 fun y H2 => R x y H2) {Q : Value → Shared → Prop} {f : Value → Value → Sem Value}
    (hf : ∀ v u s2 x y H2, Inv X pins σ H2 s2 → RelV x v → RelV y u → R x y H2 → wpAny (model X.prog X.w) X.A (f v u) Q X.xe s2) :
    wpAny (model X.prog X.w) X.A (eval a X.env) (fun v s₁ => wpAny (model X.prog X.w) X.A (eval b X.env) (fun u s₂ => wpAny (model X.prog X.w) X.A (f v u) Q X.xe s₂) X.xe s₁) X.xe s := by
  refine thn (ha pins s σ H _ I h) fun v s1 ⟨x, H1, I1, r1, q1⟩ => ?_
  refine thn (hb pins s1 σ H1 _ I1 q1) fun u s2 ⟨y, H2, I2, r2, q2⟩ => ?_
  exact hf v u s2 x y H2 I2 r1 r2 q2

theorem pe_op {op : Operator} {r : R2} (ho : OpR X (binaryOp op) r) (ha : PE X a ta) (hb : PE X b tb) : PE X (.BinOp a op b pos) (tOp r ta tb) := by
  intro pins s σ H Q I h
  exact wpAny_BinOp (binT ha hb I h fun v u s2 x y H2 I2 rx ry q => ho pins s2 σ H2 x y v u Q I2 rx ry q)
theorem pe_un {op : UnaryOp} {r : V → Hp → VK → Prop} (ho : UnR X (unaryOp op) r) (ha : PE X a ta) : PE X (.UnaryOp op a pos) (tUn r ta) := by
  intro pins s σ H Q I h
  exact UnaryOp_ (thn (ha pins s σ H _ I h) fun v s1 ⟨x, H1, I1, r1, q1⟩ => ho pins s1 σ H1 x v Q I1 r1 q1)
/-! ### ints -/
theorem opI {f : Value → Value → Sem Value} {C : Int → Int → Prop} {g : Int → Int → Int}
    (rule : ∀ (i j : Int) (t u : Tok) (s : Shared) (Q : Value → Shared → Prop) (E : Value → Shared → Prop), C i j → Q (.int (g i j) s.toks) { s with toks := s.toks + 1 } → wpAny (model X.prog X.w) X.A (f (.int i t) (.int j u)) Q E s) :
    OpR X f (rI C fun i j => .int (g i j)) := by
  intro pins s σ H x y v u Q I rx ry h
  obtain ⟨i, j, rfl, rfl, hc, q⟩ := h
  obtain ⟨t, rfl⟩ := rx
  obtain ⟨t', rfl⟩ := ry
  exact rule i j t t' s _ _ hc ⟨.int (g i j), H, I.tok _, ⟨_, rfl⟩, q⟩
theorem opI0 {f : Value → Value → Sem Value} {g : Int → Int → Int}
    (rule : ∀ (i j : Int) (t u : Tok) (s : Shared) (Q : Value → Shared → Prop) (E : Value → Shared → Prop), Q (.int (g i j) s.toks) { s with toks := s.toks + 1 } → wpAny (model X.prog X.w) X.A (f (.int i t) (.int j u)) Q E s) :
    OpR X f (rI0 fun i j => .int (g i j)) := by
  intro pins s σ H x y v u Q I rx ry h
  obtain ⟨i, j, rfl, rfl, q⟩ := h
  obtain ⟨t, rfl⟩ := rx
  obtain ⟨t', rfl⟩ := ry
  exact rule i j t t' s _ _ ⟨.int (g i j), H, I.tok _, ⟨_, rfl⟩, q⟩
theorem opB0 {f : Value → Value → Sem Value} {g : Int → Int → Bool}
    (rule : ∀ (i j : Int) (t u : Tok) (s : Shared) (Q : Value → Shared → Prop) (E : Value → Shared → Prop), Q (.bool (g i j)) s → wpAny (model X.prog X.w) X.A (f (.int i t) (.int j u)) Q E s) :
    OpR X f (rI0 fun i j => .bl (g i j)) := by
  intro pins s σ H x y v u Q I rx ry h
  obtain ⟨i, j, rfl, rfl, q⟩ := h
  obtain ⟨t, rfl⟩ := rx
  obtain ⟨t', rfl⟩ := ry
  exact rule i j t t' s _ _ ⟨.bl (g i j), H, I, rfl, q⟩

noncomputable def CDiv (i j : Int) : Prop := 0 < j ∧ j < 1073741824
noncomputable def CPow (i j : Int) : Prop := 0 ≤ j ∧ j ≤ 1000000 ∧ i.natAbs < 2 ^ 64
noncomputable def CMul (i j : Int) : Prop := (-(2 ^ 64) < i ∧ i < 2 ^ 64) ∨ (-(2 ^ 64) < j ∧ j < 2 ^ 64)
theorem CMul.ok {i j : Int} (h : CMul i j) : IntMulOk i j := by
  rcases h with ⟨h1, h2⟩ | ⟨h1, h2⟩
  · exact .of_left (intBits_le_64 h1 h2)
  · exact .of_right (intBits_le_64 h1 h2)
theorem op_add : OpR X (binaryOp .Add) (rI0 fun i j => .int (i + j)) := opI0 fun _ _ _ _ _ _ _ q => add_int q
theorem op_sub : OpR X (binaryOp .Sub) (rI0 fun i j => .int (i - j)) := opI0 fun _ _ _ _ _ _ _ q => sub_int q
/-- // by a positive divisor -/
theorem op_fdiv : OpR X (binaryOp .FloorDiv) (rI CDiv fun i j => .int (i / j)) := opI fun i j _ _ _ _ _ hc q => by
  have h1 : (0 : Int) < j := hc.1
  have h2 : j < 1073741824 := hc.2
  exact floordiv_int (by omega) (by rw [Int.fdiv_eq_ediv_of_nonneg i (by omega)]; exact q) (.inl (PyProof.noPylong_small (by omega)))
/-- % by a positive divisor of any size -/
theorem op_mod : OpR X (binaryOp .Mod) (rI (fun _ j => 0 < j) fun i j => .int (i % j)) := opI fun i j _ _ _ _ _ hc q => by
  have h1 : (0 : Int) < j := hc
  exact mod_int' (by omega) (by rw [Int.fmod_eq_emod_of_nonneg i (by omega)]; exact q)
theorem op_modN : OpR X (binaryOp .Mod) (rI (fun _ j => j ≠ 0) fun i j => .int (i.fmod j)) := opI fun _ _ _ _ _ _ _ hc q => mod_int' hc q
theorem op_pow : OpR X (binaryOp .Pow) (rI CPow fun i j => .int (i ^ j.toNat)) := opI fun _ _ _ _ _ _ _ hc q => pow_int_small hc.1 hc.2.1 hc.2.2 q
theorem unI {f : Value → Sem Value} {g : Int → Int}
    (rule : ∀ (i : Int) (t : Tok) (s : Shared) (Q : Value → Shared → Prop) (E : Value → Shared → Prop), Q (.int (g i) s.toks) { s with toks := s.toks + 1 } → wpAny (model X.prog X.w) X.A (f (.int i t)) Q E s) :
    UnR X f (rU fun i => .int (g i)) := by
  intro pins s σ H x v Q I rx h
  obtain ⟨i, rfl, q⟩ := h
  obtain ⟨t, rfl⟩ := rx
  exact rule i t s _ _ ⟨.int (g i), H, I.tok _, ⟨_, rfl⟩, q⟩
theorem un_neg : UnR X (unaryOp .USub) (rU fun i => .int (-i)) := unI fun _ _ _ _ _ q => neg_int q
/-! ### bools among ints: n += (a < b) -/
end

/-! ### comparisons -/
/-- the scalars that == tells apart as data does -/
noncomputable def scal : V → V → Bool
  | .non, .non => true | .non, .int _ => true | .int _, .non => true | .non, .bl _ => true | .bl _, .non => true | .non, .str _ => true | .str _, .non => true
  | .int _, .int _ => true | .bl _, .bl _ => true | .str _, .str _ => true | .byt _, .byt _ => true
  | .int _, .str _ => true | .str _, .int _ => true | .bl _, .str _ => true | .str _, .bl _ => true
  | _, _ => false
noncomputable def rEq : R2 := fun x y H Q => scal x y = true ∧ Q (.bl (decide (x = y))) H
noncomputable def rNe : R2 := fun x y H Q => scal x y = true ∧ Q (.bl (!decide (x = y))) H

theorem dec_int {i j : Int} : decide (V.int i = V.int j) = (i == j) := by
  rw [Bool.eq_iff_iff]
  simp
theorem dec_bl {i j : Bool} : decide (V.bl i = V.bl j) = (i == j) := by
  rw [Bool.eq_iff_iff]
  simp
theorem dec_str {i j : Str} : decide (V.str i = V.str j) = (i == j) := by
  rw [Bool.eq_iff_iff]
  simp
theorem dec_byt {i j : Array UInt8} : decide (V.byt i = V.byt j) = (i.toList == j.toList) := by
  rw [Bool.eq_iff_iff]
  cases i
  cases j
  simp

section
variable {X : Cx} {a b c : Expr} {ta tb tc : TE} {pos : Pos}
theorem fin_bl {pins : List (Addr × Obj)} {σ : St} {H : Hp} {s : Shared} {Q : VK} {k k' : Bool} (I : Inv X pins σ H s) (q : Q (.bl k) H) (e : k = k') : EP X pins σ Q (.bool k') s := by
  subst e
  exact ⟨.bl k, H, I, rfl, q⟩
theorem op_eq : OpR X (compareOp .Eq) rEq := by
  intro pins s σ H x y v u Q I rx ry h
  obtain ⟨hs, q⟩ := h
  cases x with
  | non =>
    cases rx
    cases y with
    | non => cases ry; exact PySem.EqNone.eq_none_none (fin_bl I q (by simp))
    | bl j => cases ry; exact PySem.EqNone.eq_none_bool (fin_bl I q (by simp))
    | int j => obtain ⟨t', rfl⟩ := ry; exact PySem.EqNone.eq_none_int (fin_bl I q (by simp))
    | str j => obtain ⟨t', rfl⟩ := ry; exact PySem.EqNone.eq_none_str (fin_bl I q (by simp))
    | _ => exact absurd (show false = true from hs) Bool.false_ne_true
  | bl i =>
    cases rx
    cases y with
    | non => cases ry; exact PySem.EqNone.eq_bool_none (fin_bl I q (by simp))
    | bl j => cases ry; exact eq_bool (fin_bl I q dec_bl)
    | str j => obtain ⟨t', rfl⟩ := ry; exact PySem.EqMixed.eq_bool_str (fin_bl I q (by simp))
    | _ => exact absurd (show false = true from hs) Bool.false_ne_true
  | int i =>
    obtain ⟨t, rfl⟩ := rx
    cases y with
    | non => cases ry; exact PySem.EqNone.eq_int_none (fin_bl I q (by simp))
    | int j => obtain ⟨t', rfl⟩ := ry; exact eq_int (fin_bl I q dec_int)
    | str j => obtain ⟨t', rfl⟩ := ry; exact PySem.EqMixed.eq_int_str (fin_bl I q (by simp))
    | _ => exact absurd (show false = true from hs) Bool.false_ne_true
  | str i =>
    obtain ⟨t, rfl⟩ := rx
    cases y with
    | non => cases ry; exact PySem.EqNone.eq_str_none (fin_bl I q (by simp))
    | bl j => cases ry; exact PySem.EqMixed.eq_str_bool (fin_bl I q (by simp))
    | int j => obtain ⟨t', rfl⟩ := ry; exact PySem.EqMixed.eq_str_int (fin_bl I q (by simp))
    | str j => obtain ⟨t', rfl⟩ := ry; exact eq_str (fin_bl I q dec_str)
    | _ => exact absurd (show false = true from hs) Bool.false_ne_true
  | byt i =>
    obtain ⟨t, rfl⟩ := rx
    cases y with
    | byt j => obtain ⟨t', rfl⟩ := ry; exact PySem.W.eq_bytes (fin_bl I q dec_byt)
    | _ => exact absurd (show false = true from hs) Bool.false_ne_true
  | _ => cases y <;> exact absurd (show false = true from hs) Bool.false_ne_true
theorem op_ne : OpR X (compareOp .NotEq) rNe := by
  intro pins s σ H x y v u Q I rx ry h
  obtain ⟨hs, q⟩ := h
  cases x with
  | non =>
    cases rx
    cases y with
    | non => cases ry; exact PySem.EqNone.ne_none_none (fin_bl I q (by simp))
    | bl j => cases ry; exact PySem.EqNone.ne_none_bool (fin_bl I q (by simp))
    | int j => obtain ⟨t', rfl⟩ := ry; exact PySem.EqNone.ne_none_int (fin_bl I q (by simp))
    | str j => obtain ⟨t', rfl⟩ := ry; exact PySem.EqNone.ne_none_str (fin_bl I q (by simp))
    | _ => exact absurd (show false = true from hs) Bool.false_ne_true
  | bl i =>
    cases rx
    cases y with
    | non => cases ry; exact PySem.EqNone.ne_bool_none (fin_bl I q (by simp))
    | bl j => cases ry; exact ne_bool (fin_bl I q (congrArg not dec_bl))
    | str j => obtain ⟨t', rfl⟩ := ry; exact PySem.EqMixed.ne_bool_str (fin_bl I q (by simp))
    | _ => exact absurd (show false = true from hs) Bool.false_ne_true
  | int i =>
    obtain ⟨t, rfl⟩ := rx
    cases y with
    | non => cases ry; exact PySem.EqNone.ne_int_none (fin_bl I q (by simp))
    | int j => obtain ⟨t', rfl⟩ := ry; exact ne_int (fin_bl I q (congrArg not dec_int))
    | str j => obtain ⟨t', rfl⟩ := ry; exact PySem.EqMixed.ne_int_str (fin_bl I q (by simp))
    | _ => exact absurd (show false = true from hs) Bool.false_ne_true
  | str i =>
    obtain ⟨t, rfl⟩ := rx
    cases y with
    | non => cases ry; exact PySem.EqNone.ne_str_none (fin_bl I q (by simp))
    | bl j => cases ry; exact PySem.EqMixed.ne_str_bool (fin_bl I q (by simp))
    | int j => obtain ⟨t', rfl⟩ := ry; exact PySem.EqMixed.ne_str_int (fin_bl I q (by simp))
    | str j => obtain ⟨t', rfl⟩ := ry; exact ne_str (fin_bl I q (congrArg not dec_str))
    | _ => exact absurd (show false = true from hs) Bool.false_ne_true
  | byt i =>
    obtain ⟨t, rfl⟩ := rx
    cases y with
    | byt j => obtain ⟨t', rfl⟩ := ry; exact PySem.W.ne_bytes (fin_bl I q (congrArg not dec_byt))
    | _ => exact absurd (show false = true from hs) Bool.false_ne_true
  | _ => cases y <;> exact absurd (show false = true from hs) Bool.false_ne_true

theorem op_lt : OpR X (compareOp .Lt) (rI0 fun i j => .bl (decide (i < j))) := opB0 fun _ _ _ _ _ _ _ q => lt_int q
theorem op_gt : OpR X (compareOp .Gt) (rI0 fun i j => .bl (decide (j < i))) := opB0 fun _ _ _ _ _ _ _ q => gt_int q
theorem op_ge : OpR X (compareOp .GtE) (rI0 fun i j => .bl (decide (j ≤ i))) := opB0 fun _ _ _ _ _ _ _ q => ge_int q
/-- is None, is not None: the right side a value none -/
theorem op_isN : OpR X (compareOp .Is) (fun x y H Q => y = .non ∧ Q (.bl (decide (x = .non))) H) := by
  intro pins s σ H x y v u Q I rx ry h
  obtain ⟨rfl, q⟩ := h
  cases ry
  refine is_none_gen (fin_bl I q ?_)
  cases x <;> first
    | (cases rx; rfl)
    | (obtain ⟨t, rfl⟩ := rx; rfl)
theorem op_notN : OpR X (compareOp .IsNot) (fun x y H Q => y = .non ∧ Q (.bl (!decide (x = .non))) H) := by
  intro pins s σ H x y v u Q I rx ry h
  obtain ⟨rfl, q⟩ := h
  cases ry
  refine isnot_none_gen (fin_bl I q ?_)
  cases x <;> first
    | (cases rx; rfl)
    | (obtain ⟨t, rfl⟩ := rx; rfl)

/-- two rules for one operation: by cases -/
theorem nomark (b : Expr) {op : CmpOp} (h : op ≠ .In := by decide) (h2 : op ≠ .NotIn := by decide) : behindInMarks op b = false := by
  have e1 : (op == CmpOp.In) = false := by cases op <;> first | rfl | exact absurd rfl h
  have e2 : (op == CmpOp.NotIn) = false := by cases op <;> first | rfl | exact absurd rfl h2
  cases b <;> simp [behindInMarks, e1, e2]
/-- a comparison as a value; hm: nomark b, or (for in, not in) by with_unfolding_all rfl -/
theorem pe_cmpR {op : CmpOp} {r : R2} (ho : OpR X (compareOp op) r) (ha : PE X a ta) (hb : PE X b tb) (hm : behindInMarks op b = false) : PE X (.Compare a [op] [b] pos) (tOp r ta tb) := by
  intro pins s σ H Q I h
  exact wpAny_Compare1 (binT ha hb I h fun v u s2 x y H2 I2 rx ry q => ho pins s2 σ H2 x y v u Q I2 rx ry q) hm
/-- a reading of a value as a test -/
noncomputable def tTest (t : TE) : TT := fun σ H Q => t σ H fun x H' => ∃ k, x = .bl k ∧ Q k H'
theorem pt_cmpR {op : CmpOp} {r : R2} (ho : OpR X (compareOp op) r) (ha : PE X a ta) (hb : PE X b tb) (hm : behindInMarks op b = false) : PT X (.Compare a [op] [b] pos) (tTest (tOp r ta tb)) := by
  intro pins s σ H Q I h
  refine wpAny_isTrue_Compare1 (thn (ha pins s σ H _ I h) fun v s1 ⟨x, H1, I1, r1, q1⟩ => thn (hb pins s1 σ H1 _ I1 q1) fun u s2 ⟨y, H2, I2, r2, q2⟩ =>
    thn (ho pins s2 σ H2 x y v u _ I2 r1 r2 q2) fun c s3 ⟨z, H3, I3, r3, k, e, q3⟩ => ?_) hm
  subst e
  cases r3
  exact wpAny_truthy_bool ⟨H3, I3, q3⟩
/-! ### truth -/
/-- a value's truth by the abstract heap -/
theorem line63 : (sizeLine : Nat) < 2 ^ 63 := by rw [sizeLine_eq]; decide
/-! ### strs and bytes -/
/-! ### scalar builtins, by CallR -/
theorem vals1 {x : V} {us : List Value} (r : Vals [x] us) : ∃ u, us = [u] ∧ RelV x u := by
  cases r with
  | cons r1 r2 => cases r2; exact ⟨_, rfl, r1⟩
theorem call_abs : CallR X (.builtin "abs") (fun xs H Q => ∃ i, xs = [.int i] ∧ Q (.int (if i < 0 then -i else i)) H) := by
  intro pins s σ H xs us Q I r h
  obtain ⟨i, rfl, q⟩ := h
  obtain ⟨u, rfl, t, rfl⟩ := vals1 r
  exact call_abs_int fun u tk => ⟨.int (if i < 0 then -i else i), H, I.tok _, ⟨_, rfl⟩, q⟩
end
end L2

namespace L2
open PySem PySem.Spec PyProof.Rows

/-! ### an instance, its attributes a map -/
structure ObjM (h : Heap) (x dx C : Addr) (mA : Str → Option Value) : Prop where
  obj : h.get? x = some (PySem.W.instObj C dx)
  ns : h.Ns1 dx mA
  ne : dx ≠ x

theorem lookIn_ns {h : Heap} {dx : Addr} {mA : Str → Option Value} (n : h.Ns1 dx mA) : ∃ od, h.get? dx = some od ∧ ∀ name, PySem.W.lookIn name od = some (mA name) := by
  obtain ⟨o, es, ep, ho, hd, hk, _, hm⟩ := n
  refine ⟨o, ho, fun name => ?_⟩
  have e := hm name
  unfold nsFind findBy at e
  rw [← Array.find?_toList] at e
  unfold PySem.W.lookIn
  rw [hd]
  dsimp only
  split
  · rename_i y q
    rw [q] at e
    exact congrArg some e
  · rename_i q
    rw [q] at e
    have a : es.toList.any (·.refKey) = false := by
      rw [List.any_eq_false]
      intro y hy
      obtain ⟨z, t, hkey⟩ := hk y (Array.mem_toList_iff.mp hy)
      simp [DictEntry.refKey, hkey]
    have a' : ¬ es.toList.any (·.refKey) = true := by rw [a]; exact Bool.false_ne_true
    rw [if_neg a']
    exact congrArg some e

theorem ObjM.look {h : Heap} {x dx C : Addr} {mA : Str → Option Value} (I : ObjM h x dx C mA) : ∃ od, PySem.W.InstAt h x (PySem.W.instObj C dx) C (some od) ∧ ∀ name, PySem.W.lookIn name od = some (mA name) :=
  let ⟨od, ho, hl⟩ := lookIn_ns I.ns
  ⟨od, ⟨I.obj, rfl, rfl, ho⟩, hl⟩

section
variable {prog : Program} {w : World} {A : Around} {E : Value → Shared → Prop} {s : Shared} {K : PySem.W.Frag} {x dx C f : Addr} {mA : Str → Option Value} {name : Str} {v : Value}

end

/-! ### the attributes as a list of pairs -/
noncomputable def putF (f : Str) (v : V) : List (Str × V) → List (Str × V)
  | [] => [(f, v)]
  | (g, x) :: r => if g = f then (g, v) :: r else (g, x) :: putF f v r
section
variable {P : Program} {w : World} {H H' : Hp} {h h' : Heap} {a C dx : Addr} {fs fs' : List (Str × V)}
theorem ins_get (hok : HOk P w H h) (e : H a = some (.ins C dx fs)) : ∃ mA, ObjM h a dx C mA ∧ (∀ f, RelO (fs.lookup f) (mA f)) ∧ PySem.Within mA (fs.map (·.1)) ∧ fs.length ≤ 1000 ∧ H dx = some (.own a) := by
  obtain ⟨d, z, ne, ob, mA, n, r, q⟩ := (show ObjOk P w H h a (.ins C dx fs) from hok a _ e)
  exact ⟨mA, ⟨ob, n, ne⟩, r, q, z, d⟩
end

/-! ### what of the text a class must have -/
structure Cls (K : PySem.W.Frag) (C : Addr) : Prop where
  pg : PySem.W.plainGet K C Str.empty = true
  hd : PySem.W.hasDictIn K C = true
  po : PySem.W.plainOver K C = true
  sa : PySem.W.findIn K (.ref C) "__setattr__" = some (some (.builtin "object.__setattr__"))
theorem Cls.get {K : PySem.W.Frag} {C : Addr} (c : Cls K C) (f : Str) : PySem.W.plainGet K C f = true := c.pg
section
variable {X : Cx} {pins : List (Addr × Obj)} {σ : St} {H : Hp} {s : Shared} {a C dx : Addr} {fs : List (Str × V)} {f : Str} {v : V} {A : Around} {E : Value → Shared → Prop}

end

/-! ### readings and rules -/
section
variable {X : Cx} {o e value : Expr} {f : Str} {pos pos' tpos : Pos} {ta tv : TE}
end

/-! ### isinstance -/
section
variable {X : Cx} {pins : List (Addr × Obj)} {σ : St} {H : Hp} {s : Shared} {A : Around} {E : Value → Shared → Prop} {Q : Value → Shared → Prop} {c : Value} {b : Bool}
/-- the type of a value, as the fragment's deciders take it; for an instance its class -/
inductive TyOf (K : PySem.W.Frag) (H : Hp) : V → Value → Prop where
  | non : TyOf K H .non (.type "NoneType")
  | bl (x : Bool) : TyOf K H (.bl x) (.type "bool")
  | int (i : Int) : TyOf K H (.int i) (.type "int")
  | str (x : Str) : TyOf K H (.str x) (.type "str")
  | flt (x : UInt64) : TyOf K H (.flt x) (.type "float")
  | lst {a : Addr} {xs : List V} (e : H a = some (.lst xs)) : TyOf K H (.ref a) (.type "list")
  | frz {a : Addr} {o : Obj} {xs : List V} (e : H a = some (.frz o (.lst xs))) : TyOf K H (.ref a) (.type "list")
  | tup {a : Addr} {xs : List V} (e : H a = some (.tup xs)) : TyOf K H (.ref a) (.type "tuple")
  | dK {a : Addr} {kvs : List (Key × V)} (e : H a = some (.dK kvs)) : TyOf K H (.ref a) (.type "dict")
  | dT {a : Addr} {kvs : List (List Key × V)} (e : H a = some (.dT kvs)) : TyOf K H (.ref a) (.type "dict")
  | ins {a C dx : Addr} {fs : List (Str × V)} (e : H a = some (.ins C dx fs)) (cl : Cls K C) (ha : PySem.W.findIn K (.ref C) "__class__" = some (some (.builtin "object.__class__")))
      (hn : PySem.W.specialIn K (.builtin "object.__class__") "__get__" = some (some (.builtin "getset_descriptor.__get__"))) (htk : PySem.W.takesIn K (.builtin "object.__class__") = some true)
      (hm : PySem.W.mroIn K C (.type "object") = some true) : TyOf K H (.ref a) (.ref C)
/-- isinstance(x, c) for one class c, a built-in or an own one: kitOne's answer -/
theorem isinst_ok {x : V} {u t : Value} (I : Inv X pins σ H s) (rx : RelV x u) (ty : TyOf X.K H x t) (e : PySem.W.kitOne X.K t c = some b) (h : ∀ tk, Q (.bool b) { s with toks := tk }) :
    wpAny (model X.prog X.w) A (call (.builtin "isinstance") [u, c]) Q E s := by
  cases ty with
  | non => cases (show u = Value.none from rx); exact PySem.W.kia_one PySem.W.kitx_none I.kIn True.intro e (fun z => nomatch z) h
  | bl y => cases (show u = Value.bool y from rx); exact PySem.W.kia_one PySem.W.kitx_bool I.kIn True.intro e (fun z => nomatch z) h
  | int i => obtain ⟨t, q⟩ := (show ∃ t, u = Value.int i t from rx); cases q; exact PySem.W.kia_one PySem.W.kitx_int I.kIn True.intro e (fun z => nomatch z) h
  | str y => obtain ⟨t, q⟩ := (show ∃ t, u = Value.str y t from rx); cases q; exact PySem.W.kia_one PySem.W.kitx_str I.kIn True.intro e (fun z => nomatch z) h
  | flt y => obtain ⟨t, q⟩ := (show ∃ t, u = Value.float y t from rx); cases q; exact PySem.W.kia_one PySem.W.kitx_float I.kIn True.intro e (fun z => nomatch z) h
  | @lst a xs ea =>
    cases (show u = Value.ref a from rx)
    obtain ⟨_, _, n, _, h1⟩ := (show ObjOk X.prog X.w H s.heap a (.lst xs) from I.hok a _ ea)
    exact PySem.W.kia_one PySem.W.kitx_list I.kIn ⟨_, h1, rfl⟩ e (fun z => nomatch z) h
  | @frz a ob xs ea =>
    cases (show u = Value.ref a from rx)
    obtain ⟨_, _, _, n, _, h1⟩ := (show ObjOk X.prog X.w H s.heap a (.frz ob (.lst xs)) from I.hok a _ ea)
    exact PySem.W.kia_one PySem.W.kitx_list I.kIn ⟨_, h1, rfl⟩ e (fun z => nomatch z) h
  | @tup a xs ea =>
    cases (show u = Value.ref a from rx)
    obtain ⟨_, _, _, p⟩ := (show ObjOk X.prog X.w H s.heap a (.tup xs) from I.hok a _ ea)
    obtain ⟨o, h1, h2, _⟩ := p
    exact PySem.W.kia_one PySem.W.kitx_tuple I.kIn ⟨o, h1, h2⟩ e (fun z => nomatch z) h
  | @dK a kvs ea =>
    cases (show u = Value.ref a from rx)
    obtain ⟨_, _, vs, _, p⟩ := (show ObjOk X.prog X.w H s.heap a (.dK kvs) from I.hok a _ ea)
    obtain ⟨o, es, ep, h1, h2, _⟩ := p
    exact PySem.W.kia_one PySem.W.kitx_dict I.kIn ⟨o, h1, h2.1⟩ e (fun z => nomatch z) h
  | @dT a kvs ea =>
    cases (show u = Value.ref a from rx)
    obtain ⟨_, _, xs, _, o, es, ep, h1, h2, _⟩ := (show ObjOk X.prog X.w H s.heap a (.dT kvs) from I.hok a _ ea)
    exact PySem.W.kia_one PySem.W.kitx_dict I.kIn ⟨o, h1, h2.1⟩ e (fun z => nomatch z) h
  | @ins a C dx fs ea cl ha hn htk hm =>
    cases (show u = Value.ref a from rx)
    obtain ⟨mA, O, _⟩ := ins_get I.hok ea
    obtain ⟨od, J, _⟩ := O.look
    exact PySem.W.kia_one (PySem.W.kitx_own (cl.get _) cl.hd ha hn htk hm) I.kIn J e (fun z => nomatch z) h
end
end L2

namespace L2
open PySem PySem.Spec PyProof.Rows

/-! ### room -/
structure Room (k : Nat) (A : Around) : Prop where
  hd : A.handled = none
  dp : A.depth + 3 * k + 5 < recursionLimit
  un : A.units + 16 * k + 200 < cLine
theorem Room.mono {j k : Nat} {A : Around} (r : Room k A) (h : j ≤ k) : Room j A := ⟨r.hd, by have := r.dp; omega, by have := r.un; omega⟩
theorem Room.deeper {k : Nat} {A : Around} (r : Room (k + 1) A) (env : Env) : Room k (A.deeper env) :=
  ⟨r.hd, by have := r.dp; show A.depth + 1 + 3 * k + 5 < _; omega, by have := r.un; show A.units + 3 + 16 * k + 200 < _; omega⟩
theorem Room.depth {k : Nat} {A : Around} (r : Room k A) : A.depth < recursionLimit := by have := r.dp; omega
theorem Room.units {k : Nat} {A : Around} (r : Room k A) : A.units + 64 < cLine := by have := r.un; omega
/-! ### argument lists and displays -/
noncomputable def tNil : TA := fun _ H Q => Q [] H
noncomputable def tCons (ta : TE) (tr : TA) : TA := fun σ H Q => ta σ H fun x H1 => tr σ H1 fun xs H2 => Q (x :: xs) H2
section
variable {X : Cx} {e : Expr} {es : List Expr} {te : TE} {t : TA} {pos : Pos}
theorem pa_nil : PA X [] tNil := fun _ _ _ _ H Q I h => Calls.spliced_nil ⟨[], H, I, .nil, h⟩
theorem pa_cons (ha : PE X e te) (hr : PA X es t) (hs : starEach (e :: es) X.env = (false, eval e X.env) :: starEach es X.env := by rfl) : PA X (e :: es) (tCons te t) := by
  intro pos pins s σ H Q I h
  rw [hs]
  show wpAny _ _ (spliced ((false, eval e X.env) :: backTo pos (starEach es X.env))) _ _ s
  refine Calls.spliced_cons (thn (ha pins s σ H _ I h) fun u s1 ⟨x, H1, I1, r1, q1⟩ => ?_)
  exact thn (hr pos pins s1 σ H1 _ I1 q1) fun us s2 ⟨xs, H2, I2, r2, q2⟩ => ⟨x :: xs, H2, I2, .cons r1 r2, q2⟩

/-- a tuple, a list of written items -/
noncomputable def tTup (t : TA) : TE := fun σ H Q => t σ H fun xs H1 => xs.length ≤ sizeLine ∧ ∀ p, H1 p = none → Q (.ref p) (upd H1 p (.tup xs))
noncomputable def tLst (t : TA) : TE := fun σ H Q => t σ H fun xs H1 => xs.length ≤ sizeLine ∧ ∀ p, H1 p = none → Q (.ref p) (upd H1 p (.lst xs))
theorem pe_tup {x1} (h : PA X es t) : PE X (.Tuple es x1 pos) (tTup t) := by
  intro pins s σ H Q I hq
  refine wpAny_Tuple_spliced (thn (h pos pins s σ H _ I hq) fun us s1 ⟨xs, H1, I1, r, z, q⟩ => ⟨by rw [← r.length]; exact z, ?_⟩)
  have hf : H1 s1.heap.objs.size = none := I1.hok.fresh (Nat.le_refl _)
  refine ⟨.ref s1.heap.objs.size, upd H1 s1.heap.objs.size (.tup xs), I1.laid (t' := s1.toks) (fun b u e => Heap.get?_push_of_some _ e) (Nat.le_refl _) ?_, rfl, q _ hf⟩
  exact ⟨z, us, r, ⟨_, Heap.get?_push_size _ rfl, rfl, _, rfl⟩⟩
theorem pe_lst (h : PA X es t) : PE X (.List es pos) (tLst t) := by
  intro pins s σ H Q I hq
  refine wpAny_List_spliced (thn (h pos pins s σ H _ I hq) fun us s1 ⟨xs, H1, I1, r, z, q⟩ => ⟨by rw [← r.length]; exact z, ?_⟩)
  have hf : H1 s1.heap.objs.size = none := I1.hok.fresh (Nat.le_refl _)
  refine ⟨.ref s1.heap.objs.size, upd H1 s1.heap.objs.size (.lst xs), I1.laid (t' := s1.toks) (fun b u e => Heap.get?_push_of_some _ e) (Nat.le_refl _) ?_, rfl, q _ hf⟩
  exact ⟨z, us, 0, r, Heap.get?_push_size _ rfl⟩
end

/-! ### what a def promises -/
/-- a def's promise: the bound arguments in the parameters' order, the heap, the wanted end, the wanted exception -/
noncomputable abbrev Sp := List V → Hp → VK → XK → Prop
/-- how an exception lies behind a call (file 08 gives it): the callers' frames, abstract heap and state ahead of the call, the wish, the exception, the state -/
noncomputable abbrev CXT := List Env → Hp → Shared → XK → Value → Shared → Prop

/-- the state at a call -/
structure Env0 (P : Program) (w : World) (K : PySem.W.Frag) (mg : Str → Option Value) (base : Heap) (A : Around) (outer : List Env) (s : Shared) (H : Hp) : Prop where
  frames : A.frames = some outer
  mod : Mod K mg base
  bs : ∀ b o, base.get? b = some o → s.heap.get? b = some o ∧ H b = none
  bsz : base.objs.size ≤ s.heap.objs.size
  funs : s.heap.FunFrames base outer
  frf : ∀ b ∈ frs outer, H b = none
  hok : HOk P w H s.heap
  bare : AllBare s.gens
/-- a call's end -/
noncomputable def CE (outer : List Env) (P : Program) (w : World) (H : Hp) (s : Shared) (Q : VK) (u : Value) (s' : Shared) : Prop :=
  ∃ v H', s'.os = s.os ∧ AllBare s'.gens ∧ Un (frs outer) [] H H' s.heap s'.heap ∧ HOk P w H' s'.heap ∧ RelV v u ∧ Q v H'
noncomputable def CR (CX : CXT) (outer : List Env) (P : Program) (w : World) (H : Hp) (s : Shared) (Q : VK) (E : XK) (r : Result) (s' : Shared) : Prop :=
  match r with
  | .ok (.ret u) => CE outer P w H s Q u s'
  | .ok _ => False
  | .error e => CX outer H s E e s'
structure FnOk (P : Program) (w : World) (K : PySem.W.Frag) (mg : Str → Option Value) (base : Heap) (CX : CXT) (k : Nat) (f : Addr) (fd : FuncData) (ps : List Str) (sp : Sp) : Prop where
  len : ∀ vs H Q E, sp vs H Q E → vs.length = ps.length
  run : ∀ (A : Around) (outer : List Env) (s : Shared) (H : Hp) (args : Args) (us : List Value) (vs : List V) (Q : VK) (E : XK), Room k A → Env0 P w K mg base A outer s H → BindsTo s fd args (ps.zip us) → Vals vs us → sp vs H Q E →
    codeAny (model P w) A (.call (.ref f) args) (CR CX outer P w H s Q E) s
theorem FnOk.mono {P : Program} {w : World} {K : PySem.W.Frag} {mg : Str → Option Value} {base : Heap} {CX : CXT} {j k : Nat} {f : Addr} {fd : FuncData} {ps : List Str} {sp : Sp} (F : FnOk P w K mg base CX j f fd ps sp) (h : j ≤ k) :
    FnOk P w K mg base CX k f fd ps sp := ⟨F.len, fun A outer s H args us vs Q E hr => F.run A outer s H args us vs Q E (hr.mono h)⟩
section
variable {X : Cx} {pins : List (Addr × Obj)} {σ : St} {H : Hp} {s s' : Shared}
/-- from a body: what a callee wants -/
theorem Inv.env0 (I : Inv X pins σ H s) : Env0 X.prog X.w X.K X.mg X.base X.A X.stack s H :=
  ⟨I.ok.frames, I.ok.mod, I.bs, Nat.le_trans I.ok.bsz I.sz, I.stack, I.stkFree, I.hok, I.bare⟩
/-- behind a call -/
theorem Inv.after {Q : VK} {u : Value} (I : Inv X pins σ H s) (h : CE X.stack X.prog X.w H s Q u s') : EP X pins σ Q u s' := by
  obtain ⟨v, H', os, bare, un, hok, r, q⟩ := h
  obtain ⟨hh, g, d, t, os'⟩ := s'
  obtain rfl : os' = s.os := os
  exact ⟨v, H', I.call (h' := hh) (g' := g) (d' := d) (t' := t) (ch := []) un hok bare (fun b z => absurd z (by simp)), r, q⟩
end

/-! ### calls -/
/-- f(..): the written arguments, then the defaults dvs; E: what is wanted of an exception -/
noncomputable def tCall (sp : Sp) (dvs : List V) (E : XK) (t : TA) : TE := fun σ H Q => t σ H fun vs H1 => sp (vs ++ dvs) H1 Q E
/-- how the parameters are bound: us the positional arguments, kw the keywords' values by name, ds the defaults that fill up -/
noncomputable def Binds (K : PySem.W.Frag) (fd : FuncData) (ps : List Str) (ds : List Value) : Prop :=
  ∀ (s : Shared) (us : List Value), K.In s.heap → (us ++ ds).length = ps.length → BindsTo s fd ⟨us, []⟩ (ps.zip (us ++ ds))
/-- every parameter is given -/
theorem Binds.all {K : PySem.W.Frag} {fd : FuncData} {ps : List Str} (h : ∀ us : List Value, us.length = ps.length → bindArgs fd ⟨us, []⟩ = pure (ps.zip us)) : Binds K fd ps [] := fun s us _ hl => by
  rw [List.append_nil] at hl ⊢
  exact .of_eq (h us hl)

/-- an exception of a callee reaches what this body wants of exceptions -/
noncomputable def Passes (CX : CXT) (X : Cx) (E : XK) : Prop := ∀ (pins : List (Addr × Obj)) (σ : St) (H : Hp) (s : Shared) (e : Value) (s' : Shared), Inv X pins σ H s → CX X.stack H s E e s' → X.xe e s'

section
variable {X : Cx} {CX : CXT} {k : Nat} {f C : Addr} {fd : FuncData} {ps : List Str} {sp : Sp} {dvs : List V} {ds : List Value} {E : XK} {x m : Str} {p pos apos : Pos} {e o : Expr} {es : List Expr} {ta : TE} {t : TA}

/-- the callee runs -/
theorem run_fn {pins : List (Addr × Obj)} {σ : St} {H : Hp} {s : Shared} {Q : VK} {us : List Value} {vs : List V} (F : FnOk X.prog X.w X.K X.mg X.base CX k f fd ps sp) (hr : Room k X.A) (hb : Binds X.K fd ps ds) (hd : Vals dvs ds) (hx : Passes CX X E)
    (I : Inv X pins σ H s) (r : Vals vs us) (h : sp (vs ++ dvs) H Q E) : wpAny (model X.prog X.w) X.A (call (.ref f) us) (EP X pins σ Q) X.xe s := by
  have r2 : Vals (vs ++ dvs) (us ++ ds) := r.append hd
  have hl : (us ++ ds).length = ps.length := by rw [← r2.length]; exact F.len _ _ _ _ h
  refine wpAny_call (codeAny_mono (F.run X.A X.stack s H ⟨us, []⟩ (us ++ ds) (vs ++ dvs) Q E hr I.env0 (hb s us I.kIn hl) r2 h) fun r s' hq => ?_)
  cases r with
  | error e => exact hx pins σ H s e s' I hq
  | ok fl =>
    cases fl with
    | ret u => exact I.after hq
    | next => exact False.elim hq
    | brk => exact False.elim hq
    | cont => exact False.elim hq

theorem pe_call (F : FnOk X.prog X.w X.K X.mg X.base CX k f fd ps sp) (hr : Room k X.A) (hg : Gl X x) (hm : X.mg x = some (.ref f)) (hk : PySem.W.keepIn X.K (.ref f) = true) (hb : Binds X.K fd ps ds) (hd : Vals dvs ds) (hx : Passes CX X E)
    (ha : PA X (e :: es) t) (hdb : (x == ("__debug__" : Str)) = false := by decide) (he : starEach (e :: es) X.env = (false, eval e X.env) :: starEach es X.env := by rfl) (hpl : (backTo pos (starEach es X.env)).any (·.1) = false := by rfl) :
    PE X (.Call (.Name x p) (e :: es) [] pos) (tCall sp dvs E t) := by
  intro pins s σ H Q I h
  refine wpAny_Call_Name_kw (ld_glob I hg hm ?_ hdb)
  refine PySem.W.callWith_K (h₀ := X.base) I.ok.mod.kin hk (thn (ha pos pins s σ H _ I h) fun us s1 ⟨vs, H1, I1, r, q⟩ => ⟨I1.kIn, ?_⟩) he hpl
  exact run_fn F hr hb hd hx I1 r q
end

/-! ### keywords -/
section
variable {X : Cx} {CX : CXT} {k : Nat} {f C : Addr} {fd : FuncData} {ps ks : List Str} {sp : Sp} {E : XK} {x m : Str} {p pos apos kpos : Pos} {e o : Expr} {es : List Expr} {kws : List Keyword} {te ta : TE} {t tk : TA} {nm : Option Str}
variable {g : List Value → List Value → List Value} {gV : List V → List V → List V}
end

/-! ### a def's body keeps its promise -/
/-- names: the parameters first -/
structure FnScope (N P : List Str) (sc : Scope) : Prop where
  kind : sc.kind = .function
  co : sc.isCoroutine = false
  gen : sc.isGenerator = false
  nd : N.Nodup
  pre : N.take P.length = P
  par : ∀ x ∈ P, sc.names.lookup x = some .local ∨ sc.names.lookup x = some .cell
  nofree : ∀ y ∈ sc.names, y.2 ≠ .free

theorem bindL_out {kindOf : Str → Option NameKind} {x : Str} : ∀ {binds : List (Str × Value)} {m : Str → Option Value}, (∀ v, (x, v) ∉ binds) → bindL kindOf binds m x = m x
  | [], _, _ => rfl
  | (n, v) :: r, m, h => by
    unfold bindL
    rw [bindL_out fun w hw => h w (List.mem_cons_of_mem _ hw)]
    split
    · have : x ≠ n := by rintro rfl; exact h v List.mem_cons_self
      simp [this]
    · rfl
theorem bindC_out {kindOf : Str → Option NameKind} {x : Str} : ∀ {binds : List (Str × Value)} {m : Str → Option Value}, (∀ v, (x, v) ∉ binds) → bindC kindOf binds m x = m x
  | [], _, _ => rfl
  | (n, v) :: r, m, h => by
    unfold bindC
    rw [bindC_out fun w hw => h w (List.mem_cons_of_mem _ hw)]
    split
    · rfl
    · have : x ≠ n := by rintro rfl; exact h v List.mem_cons_self
      simp [this]
theorem bindL_get {kindOf : Str → Option NameKind} {x : Str} {v : Value} : ∀ {P : List Str} {vs : List Value} {i : Nat} {m : Str → Option Value}, P.Nodup → P[i]? = some x → vs[i]? = some v → kindOf x = some .local →
    bindL kindOf (P.zip vs) m x = some v
  | [], _, _, _, _, h, _, _ => by simp at h
  | _ :: _, [], _, _, _, _, h, _ => by simp at h
  | p :: P, w :: vs, 0, m, nd, h1, h2, hk => by
    simp at h1 h2; subst h1; subst h2
    show bindL kindOf ((p, w) :: P.zip vs) m p = _
    unfold bindL
    rw [bindL_out fun v hv => (List.nodup_cons.mp nd).1 (List.of_mem_zip hv).1, if_pos hk]
    simp
  | p :: P, w :: vs, i + 1, m, nd, h1, h2, hk => by
    show bindL kindOf ((p, w) :: P.zip vs) m x = _
    unfold bindL
    exact bindL_get (i := i) (List.nodup_cons.mp nd).2 (by simpa using h1) (by simpa using h2) hk
theorem bindC_get {kindOf : Str → Option NameKind} {x : Str} {v : Value} : ∀ {P : List Str} {vs : List Value} {i : Nat} {m : Str → Option Value}, P.Nodup → P[i]? = some x → vs[i]? = some v → kindOf x ≠ some .local →
    bindC kindOf (P.zip vs) m x = some v
  | [], _, _, _, _, h, _, _ => by simp at h
  | _ :: _, [], _, _, _, _, h, _ => by simp at h
  | p :: P, w :: vs, 0, m, nd, h1, h2, hk => by
    simp at h1 h2; subst h1; subst h2
    show bindC kindOf ((p, w) :: P.zip vs) m p = _
    unfold bindC
    rw [bindC_out fun v hv => (List.nodup_cons.mp nd).1 (List.of_mem_zip hv).1, if_neg hk]
    simp
  | p :: P, w :: vs, i + 1, m, nd, h1, h2, hk => by
    show bindC kindOf ((p, w) :: P.zip vs) m x = _
    unfold bindC
    exact bindC_get (i := i) (List.nodup_cons.mp nd).2 (by simpa using h1) (by simpa using h2) hk

/-- the names' values at the entry -/
noncomputable def start (N : List Str) (vs : List V) : St := vs.map some ++ List.replicate (N.length - vs.length) none

/-- the context of a def's body, at its entry; an exception leaves the frame, then lies as CX says -/
noncomputable def cxOf (CX : CXT) (P : Program) (w : World) (K : PySem.W.Frag) (mg : Str → Option Value) (base : Heap) (N : List Str) (qual : Str) (scope : Scope) (f : Addr) (cd : Value) (A : Around) (outer : List Env) (s : Shared) (H : Hp) (E : XK) : Cx where
  prog := P
  w := w
  K := K
  mg := mg
  base := base
  A := A.deeper (envOfC qual scope s.heap.objs.size f cd)
  N := N
  s₀ := s
  H₀ := H
  env := envOfC qual scope s.heap.objs.size f cd
  outer := outer
  stack := envOfC qual scope s.heap.objs.size f cd :: outer
  ex := []
  calm := true
  fn := fun _ => true
  pn := []
  xe := fun e s' => wpAny (model P w) (A.deeper (envOfC qual scope s.heap.objs.size f cd)) (leaving (envOfC qual scope s.heap.objs.size f cd) e) (fun _ s'' => CX outer H s E e s'') (fun e' s'' => CX outer H s E e' s'') s'

theorem cell_has {sc : Scope} {n : Nat} {x : Str} (h : sc.names.lookup x = some .cell) : ∃ c, (cellsFrom n sc.names []).lookup x = some c := by
  have q := PySem.W.cellsFrom_some sc.names n [] (.inl h)
  exact Option.isSome_iff_exists.mp q

theorem inv_start {CX : CXT} {P : Program} {w : World} {K : PySem.W.Frag} {mg : Str → Option Value} {base : Heap} {N ps : List Str} {qual : Str} {scope : Scope} {f : Addr} {cd : Value} {A : Around} {outer : List Env} {s s1 : Shared} {H : Hp} {E : XK} {us : List Value} {vs : List V}
    (S : FnScope N ps scope) (hd : A.handled = none) (e0 : Env0 P w K mg base A outer s H) (hl : vs.length = ps.length) (r : Vals vs us)
    (x : InCallC s s.heap.objs.size (bindL (envOfC qual scope s.heap.objs.size f cd).kindOf (ps.zip us) fun _ => none) (cellsFrom (s.heap.objs.size + 1) scope.names []) (bindC (envOfC qual scope s.heap.objs.size f cd).kindOf (ps.zip us) fun _ => none) s1) :
    Inv (cxOf CX P w K mg base N qual scope f cd A outer s H E) [] (start N vs) H s1 := by
  have hpl : ps.length ≤ N.length := by have := congrArg List.length S.pre; rw [List.length_take] at this; omega
  obtain ⟨h1, tk, rfl, hk⟩ := x.done
  have noA : ∀ b : Addr, b ∉ (cxOf CX P w K mg base N qual scope f cd A outer s H E).ex := fun b z => absurd (show b ∈ ([] : List Addr) from z) (by simp)
  refine ⟨⟨e0.mod, S.kind, rfl, rfl, Nat.le_refl _, fun y z c h1 h2 => ?_, fun y hy => ?_, fun y c _ h => ?_, fun _ => hd, Around.frames_deeper e0.frames, .inr ⟨rfl, rfl⟩, fun b z => absurd z (noA b), e0.bs, e0.bsz, fun b _ _ => noA b, fun b z => absurd z (noA b), e0.funs, e0.frf⟩,
    rfl, e0.bare, Un.kept hk, ⟨_, x.toInCall.ns, fun i y v h1 h2 h3 => ?_⟩, fun y c h => ⟨_, x.cell y c h⟩, e0.hok.fresh (Nat.le_refl _), fun y c h => ?_, fun p hp => absurd (show p ∈ ([] : List (Addr × Obj)) from hp) (by simp), e0.hok.kept hk, ?_⟩
  · exact name_of_addr x.apart (PySem.mem_of_lookup h1) (PySem.mem_of_lookup h2)
  · have hy : scope.names.lookup y = some .cell ∨ scope.names.lookup y = some .free := hy
    rcases hy with hy | hy
    · exact cell_has hy
    · exact absurd rfl (S.nofree _ (PySem.mem_of_lookup hy))
  · exact Nat.le_of_lt (x.above y c (PySem.mem_of_lookup h))
  · have hi : i < vs.length := by
      unfold start at h2
      by_cases hi : i < vs.length
      · exact hi
      · rw [List.getElem?_append_right (by simpa using hi)] at h2
        rw [List.getElem?_replicate] at h2
        split at h2 <;> cases h2
    have ha : vs[i]? = some v := by
      unfold start at h2
      rw [List.getElem?_append_left (by simpa using hi), List.getElem?_map] at h2
      cases e : vs[i]? with
      | none => rw [e] at h2; cases h2
      | some a => rw [e] at h2; cases h2; rfl
    obtain ⟨u, hu, rv⟩ := r.get ha
    have hp : ps[i]? = some y := by
      rw [← S.pre, List.getElem?_take_of_lt (by omega)]; exact h1
    have ndP : ps.Nodup := by rw [← S.pre]; exact S.nd.sublist (List.take_sublist _ _)
    refine ⟨u, rv, ?_⟩
    rcases S.par y (List.mem_of_getElem? hp) with k | k
    · exact .inl ⟨k, bindL_get ndP hp hu k⟩
    · obtain ⟨c, e⟩ := cell_has (n := s.heap.objs.size + 1) k
      refine .inr ⟨.inl k, c, e, ?_⟩
      have q := x.cell y c e
      rw [bindC_get ndP hp hu (by show scope.names.lookup y ≠ _; rw [k]; decide)] at q
      exact q
  · exact e0.hok.fresh (Nat.le_of_lt (x.above y c (PySem.mem_of_lookup h)))
  · unfold start
    show _ = N.length
    rw [List.length_append, List.length_map, List.length_replicate]
    omega

/-- THE RULE: a def (or a method) of the text, by its body. The body's reading t is chosen for each entry; it is run at the parameters' values -/
theorem fn_of {CX : CXT} {P : Program} {w : World} {K : PySem.W.Frag} {mg : Str → Option Value} {base : Heap} {k : Nat} {f : Addr} {name qual : Str} {params : Arguments} {body : List Stmt} {scope : Scope} {dV kV doc pm cdv ct oc : Value} {an od : Option Addr}
    {osl : Array (Option Value)} {N ps : List Str} {sp : Sp} (lk : K.lookup f = some ⟨oc, od, .func (PySem.W.fnOf name qual params body scope dV kV doc pm an cdv ct), osl⟩) (hcd : PySem.W.codeIn K cdv qual = true) (S : FnScope N ps scope)
    (len : ∀ vs H Q E, sp vs H Q E → vs.length = ps.length)
    (hbody : ∀ (A : Around) (outer : List Env) (s : Shared) (H : Hp) (vs : List V) (Q : VK) (E : XK), Room k (A.deeper (envOfC qual scope s.heap.objs.size f cdv)) → sp vs H Q E →
      ∃ t, PSs (cxOf CX P w K mg base N qual scope f cdv A outer s H E) body t ∧ t { nx := fun _ H' => Q .non H', rt := Q } (start N vs) H) :
    FnOk P w K mg base CX (k + 1) f (PySem.W.fnOf name qual params body scope dV kV doc pm an cdv ct) ps sp := by
  refine ⟨len, fun A outer s H args us vs Q E hr e0 hb r hsp => ?_⟩
  have hl := len _ _ _ _ hsp
  have KX : K.In s.heap := e0.mod.kin.keeps fun b o e => (e0.bs b o e).1
  have lim : s.heap.NoLimit := e0.mod.nolimit.keeps fun b o e => (e0.bs b o e).1
  have hkind : ∀ y ∈ ps.zip us, scope.names.lookup y.1 = some .local ∨ (scope.names.lookup y.1 = some .cell ∧ ((cellsFrom (s.heap.objs.size + 1) scope.names []).lookup y.1).isSome = true) := fun ⟨n, v⟩ hy => by
    rcases S.par n (List.of_mem_zip hy).1 with q | q
    · exact .inl q
    · exact .inr ⟨q, PySem.W.cellsFrom_some _ _ _ (.inl q)⟩
  refine codeAny_call_function hr.depth (KX _ _ lk) rfl S.co S.gen rfl (PySem.W.codeRec_of KX hcd) (hb _ _ _ _ ?_)
  refine wpAny_newFunctionEnv_cells S.kind hkind fun env he s1 x => ?_
  subst he
  refine ⟨lim.keeps x.toInCall.keep, codeAny_func ?_⟩
  obtain ⟨t, ht, hq⟩ := hbody A outer s H vs Q E (hr.deeper _) hsp
  have I : Inv (cxOf CX P w K mg base N qual scope f cdv A outer s H E) [] (start N vs) H s1 := inv_start S hr.hd e0 hl r x
  refine wpAny_mono (ht [] s1 (start N vs) H _ I hq) (fun fl s' hs => ?_) fun e s' hs => hs
  have fin : ∀ {σ' : St} {H' : Hp} {v : V} {u : Value}, Inv (cxOf CX P w K mg base N qual scope f cdv A outer s H E) [] σ' H' s' → RelV v u → Q v H' → CE outer P w H s Q u s' :=
    fun {σ' H' v u} J rv q => ⟨v, H', J.os, J.bare, J.base, J.hok, rv, q⟩
  cases fl with
  | ret u =>
    obtain ⟨v, σ', H', J, rv, q⟩ := hs
    exact fin J rv q
  | next =>
    obtain ⟨σ', H', J, q⟩ := hs
    exact fin (v := V.non) (u := Value.none) J rfl q
  | brk =>
    obtain ⟨_, _, _, q⟩ := hs
    exact False.elim q
  | cont =>
    obtain ⟨_, _, _, q⟩ := hs
    exact False.elim q
end L2

namespace L2
open PySem PySem.Spec PyProof.Rows
section
variable {X : Cx} {x : Str} {p pos : Pos} {e : Expr} {es : List Expr} {t : TA} {id T : String} {r : List V → Hp → VK → Prop}

noncomputable def tCB (r : List V → Hp → VK → Prop) (t : TA) : TE := fun σ H Q => t σ H fun vs H1 => r vs H1 Q
/-- f(e, ..), f a built-in function -/
theorem pe_callB (hc : CallR X (.builtin id) r) (hg : Gl X x) (hm : X.mg x = none) (hv : bootBuiltins x = some (.builtin id)) (ha : PA X (e :: es) t) (hn : x ≠ "__name__" := by decide) (hdb : (x == ("__debug__" : Str)) = false := by decide)
    (he : starEach (e :: es) X.env = (false, eval e X.env) :: starEach es X.env := by rfl) (hpl : (backTo pos (starEach es X.env)).any (·.1) = false := by rfl) : PE X (.Call (.Name x p) (e :: es) [] pos) (tCB r t) := by
  intro pins s σ H Q I h
  refine wpAny_Call_Name_kw (ld_blt I hg hm hv ?_ hn hdb)
  exact PyProof.Rows.callWith_builtin1 (thn (ha pos pins s σ H _ I h) fun us s1 ⟨vs, H1, I1, r1, q1⟩ => hc pins s1 σ H1 vs us Q I1 r1 q1) he hpl
/-- T(e, ..), T a built-in type -/
theorem pe_callTy (hc : CallR X (.type T) r) (hg : Gl X x) (hm : X.mg x = none) (hv : bootBuiltins x = some (.type T)) (ha : PA X (e :: es) t) (hn : x ≠ "__name__" := by decide) (hdb : (x == ("__debug__" : Str)) = false := by decide)
    (he : starEach (e :: es) X.env = (false, eval e X.env) :: starEach es X.env := by rfl) (hpl : (backTo pos (starEach es X.env)).any (·.1) = false := by rfl) : PE X (.Call (.Name x p) (e :: es) [] pos) (tCB r t) := by
  intro pins s σ H Q I h
  refine wpAny_Call_Name_kw (ld_blt I hg hm hv ?_ hn hdb)
  exact PyProof.Rows.callWith_type1 (thn (ha pos pins s σ H _ I h) fun us s1 ⟨vs, H1, I1, r1, q1⟩ => hc pins s1 σ H1 vs us Q I1 r1 q1) he hpl
end
end L2

namespace HT
open PySem PyProof.Rows

section
open PySem.SeqAt
open PySem.AutoSeq1 (wpAny_loadPart')
open PySem.MeetsSeq PySem.MeetsSeq2 PySem.MeetsSeq3

end

section
variable {prog : Program} {w : World} {A : Around} {E : Value → Shared → Prop} {s : Shared}

/-- t + u, t not empty -/
theorem cat_tup {t b : Addr} {vs ws : List Value} {Q : Value → Shared → Prop} (ht : IsTup s.heap t vs.toArray) (hb : IsTup s.heap b ws.toArray) (hv : vs ≠ [])
    (h1 : ws = [] → Q (.ref t) s) (h2 : ws ≠ [] → Q (.ref s.heap.objs.size) { s with heap := s.heap.push { cls := .type "tuple", data := .seq (vs ++ ws).toArray } })
    (hsz : vs.length + ws.length ≤ sizeLine) : wpAny (model prog w) A (binaryOp .Add (.ref t) (.ref b)) Q E s := by
  obtain ⟨⟨cls, dd, data, sl⟩, ho, hc, n, hd⟩ := id ht
  obtain ⟨⟨cls2, dd2, data2, sl2⟩, ho2, hc2, n2, hd2⟩ := id hb
  simp only at hc hd hc2 hd2
  subst hc hd hc2 hd2
  have e : vs.toArray ++ ws.toArray = (vs ++ ws).toArray := by simp
  by_cases hw : ws = []
  · exact concat_meets ⟨_, ho, rfl⟩ ⟨_, ho2, rfl⟩ noFill_tuple_add seq_tuple_add PySem.F.slot_tuple_add PySem.F.entry_tuple_add (PySem.F.args_tuple_add_2 _ _)
      (tuple_addW1 t b vs.toArray ws.toArray n n2 dd dd2 sl sl2 (by simpa using hv) (by simp [hw])) ⟨ho, ho2, h1 hw⟩
  · refine concat_meets ⟨_, ho, rfl⟩ ⟨_, ho2, rfl⟩ noFill_tuple_add seq_tuple_add PySem.F.slot_tuple_add PySem.F.entry_tuple_add (PySem.F.args_tuple_add_2 _ _)
      (tuple_addW2 t b vs.toArray ws.toArray n n2 dd dd2 sl sl2 (by simpa using hv) (by simpa using hw) (by rw [List.size_toArray, List.size_toArray]; exact hsz)) ⟨ho, ho2, ?_⟩
    rw [e]
    exact h2 hw

/-! ### t[a:b], not the whole -/
/-- a slice's bound as a place among n (d where it is left out) -/
noncomputable def sIx (n d : Nat) : Option Int → Nat
  | none => d
  | some v => if v < 0 then (v + (n : Int)).toNat else min v.toNat n
theorem sIx_none (n d : Nat) : sIx n d none = d := rfl
theorem sIx_nat (n d k : Nat) : sIx n d (some (k : Int)) = min k n := by
  show (if (k : Int) < 0 then ((k : Int) + (n : Int)).toNat else min (k : Int).toNat n) = min k n
  rw [if_neg (by omega), Int.toNat_natCast]
theorem sIx_le (n d : Nat) (hd : d ≤ n) (o : Option Int) : sIx n d o ≤ n := by
  cases o with
  | none => exact hd
  | some v =>
    show (if v < 0 then (v + (n : Int)).toNat else min v.toNat n) ≤ n
    by_cases hv : v < 0
    · rw [if_pos hv]; omega
    · rw [if_neg hv]; exact Nat.min_le_right _ _
theorem clip_eq (v : Int) (n d : Nat) : (if v < 0 then max (v + (n : Int)) 0 else min v (n : Int)) = ((sIx n d (some v) : Nat) : Int) := by
  show (if v < 0 then max (v + (n : Int)) 0 else min v (n : Int)) = (((if v < 0 then (v + (n : Int)).toNat else min v.toNat n) : Nat) : Int)
  by_cases hv : v < 0
  · simp only [if_pos hv]; omega
  · simp only [if_neg hv]; omega
theorem adjust_gen (lo hi : Option Int) (n : Nat) : Builtin.Slice.sliceAdjust lo hi 1 (n : Int) = (((sIx n 0 lo : Nat) : Int), ((sIx n n hi : Nat) : Int)) := by
  have h1 : ¬ ((1 : Int) < 0) := by omega
  unfold Builtin.Slice.sliceAdjust
  simp only [h1, if_false]
  refine Prod.ext ?_ ?_
  · cases lo with
    | none => rfl
    | some v => exact clip_eq v n 0
  · cases hi with
    | none => rfl
    | some v => exact clip_eq v n n
theorem places_gen (i j : Nat) : Builtin.Slice.slicePlaces (i : Int) (j : Int) 1 = j - i := by
  unfold Builtin.Slice.slicePlaces
  have h1 : (1 : Int) > 0 := by omega
  simp only [h1, if_true, Int.ediv_one]
  split <;> omega
theorem slicePart_ {v : Value} {o : Option Int} {Q : Option Int → Shared → Prop} (p : IsPart v o) (h : Q o s) : wpAny (model prog w) A (Builtin.Slice.slicePartIndex v) Q E s := by
  cases p with
  | none => exact slicePart_none h
  | int i t => exact slicePart_int h
theorem sliceApplied_gen {sl : Addr} {vl vu : Value} {lo hi : Option Int} {n : Nat} {Q : Int × Int × Nat → Shared → Prop} (hs : s.heap.IsSliceOf sl vl vu .none) (pl : IsPart vl lo) (pu : IsPart vu hi)
    (h : Q (((sIx n 0 lo : Nat) : Int), 1, sIx n n hi - sIx n 0 lo) s) : wpAny (model prog w) A (Builtin.Slice.sliceApplied (.ref sl) (pure (n : Int))) Q E s := by
  obtain ⟨os, hos, hcs, hds⟩ := id hs
  unfold Builtin.Slice.sliceApplied Builtin.Slice.sliceFields
  refine wpAny_bind (wpAny_bind (wpAny_field hos hds (x := vl) rfl (wpAny_bind (wpAny_field hos hds (x := vu) rfl (wpAny_bind (wpAny_field hos hds (x := .none) rfl (wpAny_pure ?_)))))))
  refine wpAny_bind (slicePart_none ?_)
  show wpAny _ _ (if ((1 : Int) == 0) = true then _ else _) _ _ s
  rw [if_neg (by decide)]
  refine wpAny_bind (slicePart_ pl (wpAny_bind (slicePart_ pu (wpAny_bind (wpAny_pure ?_)))))
  show wpAny _ _ (match Builtin.Slice.sliceAdjust lo hi 1 (n : Int) with | (lo, hi) => pure (lo, (1 : Int), Builtin.Slice.slicePlaces lo hi 1)) _ _ s
  rw [adjust_gen lo hi n]
  show wpAny _ _ (pure (((sIx n 0 lo : Nat) : Int), (1 : Int), Builtin.Slice.slicePlaces ((sIx n 0 lo : Nat) : Int) ((sIx n n hi : Nat) : Int) 1)) _ _ s
  rw [places_gen]
  exact wpAny_pure h
theorem pick_gen (xs : Array Value) (i k : Nat) : ((List.range k).filterMap fun (m : Nat) => xs[((i : Int) + (m : Int) * 1).toNat]?).toArray = ((xs.toList.drop i).take k).toArray := by
  have e : (fun (m : Nat) => xs[((i : Int) + (m : Int) * 1).toNat]?) = fun m => xs[i + m]? := by
    funext m
    have : ((i : Int) + (m : Int) * 1).toNat = i + m := by omega
    rw [this]
  rw [e]
  have := pick_run xs i k
  rw [List.filterMap_map] at this
  have e2 : ((fun x => xs[x]?) ∘ fun x => i + x) = fun m => xs[i + m]? := rfl
  rw [e2] at this
  rw [this]

theorem getItem_tuple_cut {t sl : Addr} {items : Array Value} {vl vu : Value} {lo hi : Option Int} {Q : Value → Shared → Prop} (ht : IsTup s.heap t items) (hs : s.heap.IsSliceOf sl vl vu .none) (pl : IsPart vl lo) (pu : IsPart vu hi)
    (hw : ¬ (sIx items.size 0 lo = 0 ∧ sIx items.size items.size hi = items.size))
    (h : Q (.ref s.heap.objs.size) { s with heap := s.heap.push { cls := .type "tuple", data := .seq ((items.toList.drop (sIx items.size 0 lo)).take (sIx items.size items.size hi - sIx items.size 0 lo)).toArray } })
    (hsz : items.size ≤ sizeLine) : wpAny (model prog w) A (getItem (.ref t) (.ref sl)) Q E s := by
  have htake : sizeOk (.seq ((items.toList.drop (sIx items.size 0 lo)).take (sIx items.size items.size hi - sIx items.size 0 lo)).toArray) := by
    show ((items.toList.drop (sIx items.size 0 lo)).take (sIx items.size items.size hi - sIx items.size 0 lo)).toArray.size ≤ sizeLine
    rw [List.size_toArray, List.length_take, List.length_drop, Array.length_toList]
    omega
  have hj : sIx items.size items.size hi ≤ items.size := sIx_le _ _ (Nat.le_refl _) hi
  obtain ⟨os, hos, hcs, hds⟩ := id hs
  have hTs : s.TypeIs (.ref sl) "slice" := ⟨os, hos, hcs⟩
  unfold getItem
  try with_reducible refine wpAny_holding ?_
  first | refine wpAny_bind (wpAny_pure ?_) | skip
  refine wpAny_bind (wpAny_sequenceKey ht.typeIs (by decide) ?_)
  refine wpAny_bind (wpAny_callSpecial?_slot (name := Str.ofString "__getitem__") ht.typeIs PyProof.Rows.slot_tuple_getitem
    (wpAny_call_entry PyProof.Rows.slot_tuple_getitem ht.typeIs entry_tuple_getitem ?_ (args_tuple_getitem _ _)))
  show wpAny _ _ (Builtin.Tuple.tupleItemsOf (.ref t) >>= _) _ _ s
  refine wpAny_bind (tupleItemsOf_ ht ?_)
  refine wpAny_bind (wpAny_typeOf hTs ?_)
  rw [if_pos (by decide)]
  refine wpAny_bind (sliceApplied_gen hs pl pu ?_)
  have hno : ¬ ((((sIx items.size 0 lo : Nat) : Int) == 0 && (1 : Int) == 1 && (sIx items.size items.size hi - sIx items.size 0 lo) == items.size) = true) := by
    intro q
    rw [Bool.and_eq_true, Bool.and_eq_true] at q
    have q1 : ((sIx items.size 0 lo : Nat) : Int) = 0 := eq_of_beq q.1.1
    have q2 : sIx items.size items.size hi - sIx items.size 0 lo = items.size := eq_of_beq q.2
    exact hw ⟨by omega, by omega⟩
  show wpAny _ _ (if (((sIx items.size 0 lo : Nat) : Int) == 0 && (1 : Int) == 1 && (sIx items.size items.size hi - sIx items.size 0 lo) == items.size) = true then _ else _) _ _ s
  rw [if_neg hno, pick_gen]
  first
    | exact wpAny_bind (m := Builtin.Tuple.tupleExact _) (wpAny_newObj_type (wpAny_pure ⟨_, rfl, wpAny_pure h⟩) htake)
    | exact wpAny_bind (m := Builtin.Tuple.tupleExact _) (wpAny_newObj_type (wpAny_bind (wpAny_pure (wpAny_pure ⟨_, rfl, wpAny_pure h⟩))) htake)
    | exact wpAny_bind (wpAny_bind (m := Builtin.Tuple.tupleExact _) (wpAny_newObj_type (wpAny_pure (wpAny_pure ⟨_, rfl, wpAny_pure h⟩)) htake))
    | exact wpAny_bind (wpAny_bind (m := Builtin.Tuple.tupleExact _) (wpAny_newObj_type (wpAny_pure ⟨_, rfl, wpAny_pure h⟩) htake))
end
end HT

namespace L2
open PySem PySem.Spec PyProof.Rows

/-! ### the parts of a slice -/
noncomputable abbrev TO := St → Hp → (Option Int → Hp → Prop) → Prop
/-- a slice's part (left out, or an int) -/
noncomputable def PO (X : Cx) (e : Option Expr) (t : TO) : Prop :=
  ∀ (pins : List (Addr × Obj)) (s : Shared) (σ : St) (H : Hp) (Q : Option Int → Hp → Prop), Inv X pins σ H s → t σ H Q →
    wpAny (model X.prog X.w) X.A (evalPart e X.env) (fun u s' => ∃ o H', Inv X pins σ H' s' ∧ IsPart u o ∧ Q o H') X.xe s
noncomputable def tNoPart : TO := fun _ H Q => Q none H
noncomputable def tPart (t : TE) : TO := fun σ H Q => t σ H fun x H1 => ∃ i, x = .int i ∧ Q (some i) H1

theorem intsAre_of {ns : List Int} : ∀ {us : List Value}, Vals (ns.map V.int) us → IntsAre us ns := by
  induction ns with
  | nil => intro us r; rw [List.map_nil] at r; cases r; exact .nil
  | cons n ns ih =>
    intro us r
    rw [List.map_cons] at r
    cases r with
    | cons r1 r2 =>
      obtain ⟨t, e⟩ := r1
      subst e
      exact .cons n t (ih r2)

section
variable {X : Cx} {e : Expr} {te : TE} {lo hi : Option Expr} {tl th : TO} {pos p2 : Pos}

theorem po_none : PO X none tNoPart := by
  intro pins s σ H Q I h
  rw [evalPart_none]
  exact wpAny_pure ⟨none, H, I, .none, h⟩
theorem po_some (h : PE X e te) : PO X (some e) (tPart te) := by
  intro pins s σ H Q I hw
  rw [evalPart_some]
  refine thn (h pins s σ H _ I hw) fun u s1 ⟨x, H1, I1, r1, q1⟩ => ?_
  obtain ⟨i, rfl, q⟩ := q1
  obtain ⟨t, rfl⟩ := r1
  exact ⟨some i, H1, I1, .int i t, q⟩

/-- what a slice of a value is, by values: the slice object stands at sl -/
noncomputable def SlR (X : Cx) (r : V → Option Int → Option Int → Hp → VK → Prop) : Prop :=
  ∀ (pins : List (Addr × Obj)) (s : Shared) (σ : St) (H : Hp) (x : V) (v vl vu : Value) (lo hi : Option Int) (sl : Addr) (Q : VK), Inv X pins σ H s → RelV x v → s.heap.IsSliceOf sl vl vu .none → IsPart vl lo → IsPart vu hi → r x lo hi H Q →
    ∃ T id, typeLookup (.type T) "__getitem__" = pure (some (.builtin id)) ∧ s.TypeIs v T ∧ wpAny (model X.prog X.w) X.A (getItem v (.ref sl)) (EP X pins σ Q) X.xe s
noncomputable def tSl (r : V → Option Int → Option Int → Hp → VK → Prop) (te : TE) (tl th : TO) : TE := fun σ H Q => te σ H fun x H1 => tl σ H1 fun l H2 => th σ H2 fun u H3 => r x l u H3 Q
/-- a[lo:hi], any a -/
theorem pe_slice {r : V → Option Int → Option Int → Hp → VK → Prop} (hr : SlR X r) (he : PE X e te) (hl : PO X lo tl) (hu : PO X hi th) : PE X (.Subscript e (.Slice lo hi none p2) pos) (tSl r te tl th) := by
  intro pins s σ H Q I h
  refine Subscript_ (thn (he pins s σ H _ I h) fun v s1 ⟨x, H1, I1, r1, q1⟩ => ?_)
  refine wpAny_Slice (thn (hl pins s1 σ H1 _ I1 q1) fun vl s2 ⟨l, H2, I2, pl, q2⟩ => thn (hu pins s2 σ H2 _ I2 q2) fun vu s3 ⟨u, H3, I3, pu, q3⟩ => ?_)
  rw [evalPart_none]
  refine wpAny_pure ?_
  have I4 : Inv X pins σ H3 { s3 with heap := s3.heap.push { cls := .type "slice", data := .fields #[vl, vu, .none] } } := I3.kept (t' := s3.toks) fun b ob q => Heap.get?_push_of_some _ q
  obtain ⟨T, id, hT, ht, hg⟩ := hr pins { s3 with heap := s3.heap.push { cls := .type "slice", data := .fields #[vl, vu, .none] } } σ H3 x v vl vu l u s3.heap.objs.size Q I4 r1 (Heap.IsSliceOf.new ..) pl pu q3
  show wpAny (model X.prog X.w) X.A (subscriptTail e (.Slice lo hi none p2) v (.ref s3.heap.objs.size)) (EP X pins σ Q) X.xe { s3 with heap := s3.heap.push { cls := .type "slice", data := .fields #[vl, vu, .none] } }
  exact tail_any (ops := [.ref s3.heap.objs.size, v]) ht hT hg (by with_unfolding_all rfl)

/-- the items of xs[lo:hi] -/
noncomputable def cutV (xs : List V) (lo hi : Option Int) : List V := (xs.drop (HT.sIx xs.length 0 lo)).take (HT.sIx xs.length xs.length hi - HT.sIx xs.length 0 lo)
theorem cutV_length (xs : List V) (lo hi : Option Int) : (cutV xs lo hi).length ≤ xs.length := by
  unfold cutV
  rw [List.length_take, List.length_drop]
  omega
/-- t[lo:hi], not the whole of it (the whole would be t itself) -/
noncomputable def rSlT (K : PySem.W.Frag) : V → Option Int → Option Int → Hp → VK → Prop := fun x lo hi H Q => ∃ a xs, x = .ref a ∧ SqT K H a xs ∧
  ¬ (HT.sIx xs.length 0 lo = 0 ∧ HT.sIx xs.length xs.length hi = xs.length) ∧ ∀ p, H p = none → Q (.ref p) (upd H p (.tup (cutV xs lo hi)))
theorem sl_tup : SlR X (rSlT X.K) := by
  intro pins s σ H x v vl vu lo hi sl Q I rx hs pl pu h
  obtain ⟨a, xs, rfl, hx, hw, q⟩ := h
  cases rx
  obtain ⟨its, r, ht, hz⟩ := I.tuple hx
  have hlen : its.toArray.size = xs.length := by rw [List.size_toArray]; exact r.length.symm
  refine ⟨"tuple", _, PyProof.Rows.slot_tuple_getitem.lookup, ht.typeIs, ?_⟩
  refine HT.getItem_tuple_cut ht hs pl pu (by rw [hlen]; exact hw) ?_ (by rw [hlen]; exact hz)
  rw [hlen]
  refine ⟨.ref s.heap.objs.size, _, I.laid (t' := s.toks) (o := .tup (cutV xs lo hi)) (fun b ob q => Heap.get?_push_of_some _ q) (Nat.le_refl _) ?_, rfl, q _ (I.hok.fresh (Nat.le_refl _))⟩
  exact ⟨Nat.le_trans (cutV_length xs lo hi) hz, _, (r.drop (HT.sIx xs.length 0 lo)).take (HT.sIx xs.length xs.length hi - HT.sIx xs.length 0 lo), IsTup.new _ _⟩

/-! ### t < u, t + u -/
/-- t + u, t not empty: u empty gives t itself -/
noncomputable def rCatT (K : PySem.W.Frag) : R2 := fun x y H Q => ∃ a b xs ys, x = .ref a ∧ y = .ref b ∧ SqT K H a xs ∧ SqT K H b ys ∧ xs ≠ [] ∧ xs.length + ys.length ≤ sizeLine ∧
  (ys = [] → Q (.ref a) H) ∧ (ys ≠ [] → ∀ p, H p = none → Q (.ref p) (upd H p (.tup (xs ++ ys))))
theorem Vals.nil_iff {xs : List V} {us : List Value} (r : Vals xs us) : us = [] ↔ xs = [] := by
  cases r with
  | nil => simp
  | cons _ _ => simp
theorem op_catT : OpR X (binaryOp .Add) (rCatT X.K) := by
  intro pins s σ H x y v u Q I rx ry h
  obtain ⟨a, b, xs, ys, rfl, rfl, ha, hb, hx, hz, q1, q2⟩ := h
  cases rx
  cases ry
  obtain ⟨its, r1, p1, _⟩ := I.tuple ha
  obtain ⟨its2, r2, p2, _⟩ := I.tuple hb
  refine HT.cat_tup p1 p2 (fun z => hx (r1.nil_iff.mp z)) (fun z => ⟨.ref a, H, I, rfl, q1 (r2.nil_iff.mp z)⟩) (fun z => ?_) (by rw [← r1.length, ← r2.length]; exact hz)
  refine ⟨.ref s.heap.objs.size, _, I.laid (t' := s.toks) (o := .tup (xs ++ ys)) (fun b ob q => Heap.get?_push_of_some _ q) (Nat.le_refl _) ?_, rfl, q2 (fun w => z (r2.nil_iff.mpr w)) _ (I.hok.fresh (Nat.le_refl _))⟩
  exact ⟨by rw [List.length_append]; exact hz, _, r1.append r2, IsTup.new _ _⟩
end
end L2

namespace L2
open PySem PySem.Spec PyProof.Rows

/-! ### places -/
/-- the place that an index of any sign means -/
noncomputable def ixN (n : Nat) (i : Int) : Option Nat := if 0 ≤ i then (if i < n then some i.toNat else none) else if -(n : Int) ≤ i then some (i + n).toNat else none
noncomputable def atI {α : Type} (xs : List α) (i : Int) : Option α := (ixN xs.length i).bind fun j => xs[j]?
theorem ixN_seq {n : Nat} {i : Int} {j : Nat} (h : ixN n i = some j) : seqIndex? i n = some j ∧ j < n ∧ -(n : Int) ≤ i ∧ i < n := by
  unfold ixN at h
  by_cases h0 : 0 ≤ i
  · rw [if_pos h0] at h
    by_cases h1 : i < n
    · rw [if_pos h1] at h
      have e : i.toNat = j := Option.some.inj h
      exact ⟨by rw [seqIndex_of h0 h1, e], by omega, by omega, h1⟩
    · rw [if_neg h1] at h; cases h
  · rw [if_neg h0] at h
    by_cases h1 : -(n : Int) ≤ i
    · rw [if_pos h1] at h
      have e : (i + n).toNat = j := Option.some.inj h
      exact ⟨by rw [seqIndex_neg (by omega) h1, e], by omega, h1, by omega⟩
    · rw [if_neg h1] at h; cases h
theorem atI_get {α : Type} {xs : List α} {i : Int} {v : α} (h : atI xs i = some v) : ∃ j, seqIndex? i xs.length = some j ∧ xs[j]? = some v ∧ j < xs.length ∧ -(xs.length : Int) ≤ i ∧ i < xs.length := by
  unfold atI at h
  cases e : ixN xs.length i with
  | none => rw [e] at h; cases h
  | some j =>
    rw [e] at h
    obtain ⟨h1, h2, h3, h4⟩ := ixN_seq e
    exact ⟨j, h1, h, h2, h3, h4⟩
theorem atI_nat {α : Type} {xs : List α} {j : Nat} {v : α} (h : xs[j]? = some v) : atI xs (j : Int) = some v := by
  have hj : j < xs.length := (List.getElem?_eq_some_iff.mp h).1
  have e : ixN xs.length (j : Int) = some j := by
    unfold ixN
    rw [if_pos (by omega), if_pos (by omega)]; simp
  unfold atI; rw [e]; exact h
/-! ### what may be subscripted -/
/-- what stands as an index of a plain subscript -/
noncomputable def PlainIx (b : Expr) : Prop := ∀ o i, subscripted b false o i = operate [o, i] (getItem o i)
/-- a subscript by values -/
noncomputable def IxR (X : Cx) (r : R2) : Prop :=
  ∀ (value slice : Expr) (pins : List (Addr × Obj)) (s : Shared) (σ : St) (H : Hp) (x y : V) (v u : Value) (Q : VK), Inv X pins σ H s → RelV x v → RelV y u → r x y H Q →
    subscripted slice false v u = operate [v, u] (getItem v u) → wpAny (model X.prog X.w) X.A (subscriptTail value slice v u) (EP X pins σ Q) X.xe s
/-- a call of a builtin's method by values: the receiver, the arguments -/
noncomputable def MtR (X : Cx) (id : String) (r : V → List V → Hp → VK → Prop) : Prop :=
  ∀ (pins : List (Addr × Obj)) (s : Shared) (σ : St) (H : Hp) (x : V) (xs : List V) (v : Value) (us : List Value) (Q : VK), Inv X pins σ H s → RelV x v → Vals xs us → r x xs H Q →
    wpAny (model X.prog X.w) X.A (call (.builtin id) (v :: us)) (EP X pins σ Q) X.xe s
section
variable {X : Cx} {a b : Expr} {ta tb : TE} {pos : Pos}
/-- a[b] -/
theorem pe_ix {r : R2} (hr : IxR X r) (ha : PE X a ta) (hb : PE X b tb) (hs : PlainIx b) : PE X (.Subscript a b pos) (tOp r ta tb) := by
  intro pins s σ H Q I h
  exact Subscript_ (binT ha hb I h fun v u s2 x y H2 I2 rx ry q => hr a b pins s2 σ H2 x y v u Q I2 rx ry q (hs _ _))

noncomputable def rIxL (K : PySem.W.Frag) : R2 := fun x y H Q => ∃ p xs i v, x = .ref p ∧ y = .int i ∧ SqL K H p xs ∧ atI xs i = some v ∧ Q v H
noncomputable def rIxT (K : PySem.W.Frag) : R2 := fun x y H Q => ∃ p xs i v, x = .ref p ∧ y = .int i ∧ SqT K H p xs ∧ atI xs i = some v ∧ Q v H
theorem ix_list : IxR X (rIxL X.K) := by
  intro value slice pins s σ H x y v u Q I rx ry h hs
  obtain ⟨p, xs, i, z, rfl, rfl, hq, he, q⟩ := h
  cases rx
  obtain ⟨t, rfl⟩ := ry
  obtain ⟨its, r, pl, hz⟩ := I.list hq
  obtain ⟨j, h1, h2, h3, h4, h5⟩ := atI_get he
  obtain ⟨w, ew, rw'⟩ := r.get h2
  have hl := r.length
  have hn := line63
  have fin : EP X pins σ Q w s := ⟨z, H, I, rw', q⟩
  by_cases h0 : 0 ≤ i
  · have hj : i.toNat = j := by
      rw [seqIndex_of h0 h5] at h1
      exact Option.some.inj h1
    exact item_listR pl.isList h0 (by omega) (by rw [hj]; simpa using ew) fin hs
  · have hj : (i + (its.toArray.size : Int)).toNat = j := by
      rw [seqIndex_neg (by omega) h4] at h1
      rw [List.size_toArray, ← hl]
      exact Option.some.inj h1
    exact subscriptTail_builtinR (x := w) pl.isList.typeIs slot_list_getitem.lookup
      (wpAny_getItem_list_neg (Q := fun r s' => r = w ∧ EP X pins σ Q r s') pl.isList (by omega) (by rw [List.size_toArray] <;> omega) (by omega) (by rw [hj]; simpa using ew) ⟨rfl, fin⟩) hs
theorem ix_tup : IxR X (rIxT X.K) := by
  intro value slice pins s σ H x y v u Q I rx ry h hs
  obtain ⟨p, xs, i, z, rfl, rfl, hq, he, q⟩ := h
  cases rx
  obtain ⟨t, rfl⟩ := ry
  obtain ⟨its, r, pl, hz⟩ := I.tuple hq
  obtain ⟨j, h1, h2, h3, h4, h5⟩ := atI_get he
  obtain ⟨w, ew, rw'⟩ := r.get h2
  have hl := r.length
  have hn := line63
  have fin : EP X pins σ Q w s := ⟨z, H, I, rw', q⟩
  exact subscriptTail_builtinR (x := w) pl.typeIs slot_tuple_getitem.lookup
    (getItem_tuple (j := j) (Q := fun r s' => r = w ∧ EP X pins σ Q r s') pl (by omega) (by omega) (by rw [List.size_toArray, ← hl]; exact h1) (by simpa using ew) ⟨rfl, fin⟩) hs
/-! ### xs[i] = v, any sign -/
/-- the list's object behind a store -/
theorem mapSeq_set (its : List Value) (n j : Nat) (u : Value) : Obj.mapSeq (·.setIfInBounds j u) { cls := .type "list", data := .seq its.toArray n } = { cls := .type "list", data := .seq (its.set j u).toArray n } := by
  simp [Obj.mapSeq]
theorem Inv.lst {pins : List (Addr × Obj)} {σ : St} {H : Hp} {s : Shared} {p : Addr} {xs : List V} (I : Inv X pins σ H s) (h : H p = some (.lst xs)) :
    ∃ (its : List Value) (n : Nat), Vals xs its ∧ s.heap.get? p = some { cls := .type "list", data := .seq its.toArray n } ∧ xs.length ≤ sizeLine := by
  obtain ⟨z, its, n, r, e⟩ := I.hok p _ h
  exact ⟨its, n, r, e, z⟩
/-- the list at p is written by an update of its object -/
theorem Inv.lstUpd {pins : List (Addr × Obj)} {σ : St} {H : Hp} {s : Shared} {p : Addr} {xs ys : List V} {its its' : List Value} {n n' : Nat} {f : Obj → Obj} (I : Inv X pins σ H s) (h : H p = some (.lst xs))
    (ho : s.heap.get? p = some { cls := .type "list", data := .seq its.toArray n }) (hf : f { cls := .type "list", data := .seq its.toArray n } = { cls := .type "list", data := .seq its'.toArray n' }) (r : Vals ys its') (hz : ys.length ≤ sizeLine) (t : Nat) :
    Inv X pins σ (upd H p (.lst ys)) { s with heap := s.heap.update p f, toks := t } := by
  have e : (s.heap.update p f).get? p = some { cls := .type "list", data := .seq its'.toArray n' } := by
    rw [Heap.get?_update_self f ho (by rw [hf] <;> rfl), hf]
  refine I.write (x := p) (e := p) (by rw [h]; trivial) (.inl rfl) (fun b u hb q => (Heap.get?_update_other _ _ (Ne.symm hb)).trans q) ⟨_, e⟩ ?_
  exact ⟨hz, its', n', r, e⟩
noncomputable def rSetL : V → V → V → Hp → (Hp → Prop) → Prop := fun o i v H Q => ∃ p xs k j, o = .ref p ∧ i = .int k ∧ H p = some (.lst xs) ∧ ixN xs.length k = some j ∧ Q (upd H p (.lst (xs.set j v)))
theorem set_list : PSet X rSetL := by
  intro pins s σ H o i v ov iv u Q I ro ri rv h
  obtain ⟨p, xs, k, j, rfl, rfl, hp, hj, q⟩ := h
  cases ro
  obtain ⟨t, rfl⟩ := ri
  obtain ⟨its, n, r, ho, hz⟩ := I.lst hp
  obtain ⟨h1, h2, h3, h4⟩ := ixN_seq hj
  have hl := r.length
  have hn := line63
  have I' : Inv X pins σ (upd H p (.lst (xs.set j v))) { s with heap := s.heap.update p (Obj.mapSeq (·.setIfInBounds j u)) } :=
    I.lstUpd hp ho (mapSeq_set its n j u) (r.set rv j) (by rw [List.length_set]; exact hz) s.toks
  by_cases h0 : 0 ≤ k
  · have hk : k.toNat = j := by
      rw [seqIndex_of h0 h4] at h1
      exact Option.some.inj h1
    exact PySem.W.ki_setAt ho h0 (by omega) (by rw [List.size_toArray, ← hl]; exact h4) (by rw [hk]; exact ⟨_, I', q⟩)
  · have hk : (k + (its.toArray.size : Int)).toNat = j := by
      rw [seqIndex_neg (by omega) h3] at h1
      rw [List.size_toArray, ← hl]
      exact Option.some.inj h1
    exact PySem.W.ki_setBack ho (by omega) (by rw [List.size_toArray, ← hl]; exact h3) (by omega) (by rw [hk]; exact ⟨_, I', q⟩)

/-! ### slices -/
theorem slice_bounds (lo hi : Option Int) (n : Nat) : (sliceBounds lo hi none n).1 = ((HT.sIx n 0 lo : Nat) : Int) ∧ (sliceBounds lo hi none n).2.1 = ((HT.sIx n n hi : Nat) : Int) ∧ (sliceBounds lo hi none n).2.2 = 1 := by
  refine ⟨?_, ?_, rfl⟩
  · cases lo with
    | none => simp [sliceBounds, HT.sIx]
    | some i =>
      simp only [sliceBounds, HT.sIx, Option.getD_none, show (1 : Int) > 0 by decide, if_true]
      by_cases h : i < 0
      · simp only [h, if_true] <;> omega
      · simp only [h, if_false] <;> omega
  · cases hi with
    | none => simp [sliceBounds, HT.sIx]
    | some i =>
      simp only [sliceBounds, HT.sIx, Option.getD_none, show (1 : Int) > 0 by decide, if_true]
      by_cases h : i < 0
      · simp only [h, if_true] <;> omega
      · simp only [h, if_false] <;> omega
theorem slicePick_cut (its : List Value) (lo hi : Option Int) : slicePick its.toArray lo hi none = ((its.drop (HT.sIx its.length 0 lo)).take (HT.sIx its.length its.length hi - HT.sIx its.length 0 lo)).toArray := by
  obtain ⟨h1, h2, h3⟩ := slice_bounds lo hi its.toArray.size
  unfold slicePick
  rw [h1, h2, h3]
  simp only [sliceRange_one, pick_run, List.size_toArray] <;> rfl
/-- xs[lo:hi] of a list: a new list -/
noncomputable def rSlL (K : PySem.W.Frag) : V → Option Int → Option Int → Hp → VK → Prop := fun x lo hi H Q => ∃ a xs, x = .ref a ∧ SqL K H a xs ∧ ∀ p, H p = none → Q (.ref p) (upd H p (.lst (cutV xs lo hi)))
theorem sl_list : SlR X (rSlL X.K) := by
  intro pins s σ H x v vl vu lo hi sl Q I rx hs pl pu h
  obtain ⟨a, xs, rfl, hx, q⟩ := h
  cases rx
  obtain ⟨its, r, ht, hz⟩ := I.list hx
  have hlen := r.length
  refine ⟨"list", _, slot_list_getitem.lookup, ht.isList.typeIs, ?_⟩
  refine wpAny_getItem_list_slice ht.isList hs pl pu .none (by simp) ?_ (by rw [List.size_toArray] <;> omega)
  rw [slicePick_cut, ← hlen]
  refine ⟨.ref s.heap.objs.size, _, I.laid (t' := s.toks) (o := .lst (cutV xs lo hi)) (fun b ob q => Heap.get?_push_of_some _ q) (Nat.le_refl _) ?_, rfl, q _ (I.hok.fresh (Nat.le_refl _))⟩
  exact ⟨Nat.le_trans (cutV_length xs lo hi) hz, _, 0, (r.drop (HT.sIx xs.length 0 lo)).take (HT.sIx xs.length xs.length hi - HT.sIx xs.length 0 lo), Heap.get?_push_size _ rfl⟩

/-! ### in, not in: flat items -/
/-! ### len, list(x), tuple(x) of any list or tuple that is read -/
theorem call_len_seq : CallR X (.builtin "len") (fun xs H Q => ∃ p ys, xs = [.ref p] ∧ (SqL X.K H p ys ∨ SqT X.K H p ys) ∧ Q (.int ys.length) H) := by
  intro pins s σ H xs us Q I r h
  obtain ⟨p, ys, rfl, hq, q⟩ := h
  obtain ⟨u, rfl, rx⟩ := vals1 r
  cases rx
  have hn := line63
  rcases hq with hq | hq
  · obtain ⟨its, r', pl, hz⟩ := I.list hq
    have hlen := r'.length
    exact Calls.call_len_list pl.isList (by simp only [List.size_toArray] <;> omega) ⟨.int ys.length, H, I.tok _, ⟨s.toks + 1, by rw [List.size_toArray, hlen]⟩, q⟩
  · obtain ⟨its, r', pl, hz⟩ := I.tuple hq
    have hlen := r'.length
    exact len_tuple pl (by simp only [List.size_toArray] <;> omega) ⟨.int ys.length, H, I.tok _, ⟨s.toks + 1, by rw [List.size_toArray, hlen]⟩, q⟩
theorem call_list_of : CallR X (.type "list") (fun xs H Q => ∃ p ys, xs = [.ref p] ∧ (SqL X.K H p ys ∨ SqT X.K H p ys) ∧ ∀ l, H l = none → Q (.ref l) (upd H l (.lst ys))) := by
  intro pins s σ H xs us Q I r h
  obtain ⟨p, ys, rfl, hq, q⟩ := h
  obtain ⟨u, rfl, rx⟩ := vals1 r
  cases rx
  have fin : ∀ (its : List Value), Vals ys its → ys.length ≤ sizeLine → ∀ (h' : Heap) (c' : Nat), (∀ b o', s.heap.get? b = some o' → h'.get? b = some o') →
      h'.get? s.heap.objs.size = some { cls := .type "list", dict := none, data := .seq its.toArray c', slots := #[] } → EP X pins σ Q (.ref s.heap.objs.size) { s with heap := h' } := fun its r' hz h' c' kp e =>
    ⟨.ref s.heap.objs.size, _, I.laid (t' := s.toks) kp (Nat.le_refl _) (show ObjOk X.prog X.w _ h' _ (.lst ys) from ⟨hz, its, c', r', e⟩), rfl, q _ (I.hok.fresh (Nat.le_refl _))⟩
  rcases hq with hq | hq
  · obtain ⟨its, r', pl, hz⟩ := I.list hq
    have hlen := r'.length
    obtain ⟨o, ho, hc, n, hd⟩ := pl.isList
    exact call_list_seq p (.inl rfl) ho hc hd (fun h' c' kp e => fin its r' hz h' c' kp e) (by simp only [List.size_toArray] <;> omega)
  · obtain ⟨its, r', pl, hz⟩ := I.tuple hq
    have hlen := r'.length
    obtain ⟨o, ho, hc, n, hd⟩ := pl
    exact call_list_seq p (.inr rfl) ho hc hd (fun h' c' kp e => fin its r' hz h' c' kp e) (by simp only [List.size_toArray] <;> omega)
/-! ### the call of a builtin's method: o.m(..) -/
/-- the value is of that builtin type -/
noncomputable def tyV (K : PySem.W.Frag) (T : String) (x : V) (H : Hp) : Prop := match x with
  | .str _ => T = "str"
  | .int _ => T = "int"
  | .ref p => (T = "list" ∧ ∃ xs, SqL K H p xs) ∨ (T = "tuple" ∧ ∃ o, K.lookup p = some o ∧ o.cls = .type "tuple" ∧ o.dict = none) ∨
      (T = "dict" ∧ ((∃ kvs, H p = some (.dK kvs)) ∨ ∃ kvs, H p = some (.dT kvs))) ∨ (T = "set" ∧ ∃ S n, H p = some (.set S n))
  | _ => False
theorem tyV_is {pins : List (Addr × Obj)} {σ : St} {H : Hp} {s : Shared} {T : String} {x : V} {v : Value} (I : Inv X pins σ H s) (r : RelV x v) (ty : tyV X.K T x H) :
    s.TypeIs v T ∧ ∀ a, v = .ref a → ∃ ob, s.heap.get? a = some ob ∧ ob.dict = none := by
  cases x with
  | str z =>
    obtain ⟨t, rfl⟩ := r
    cases (show T = "str" from ty)
    exact ⟨typeIs_str s z t, fun _ e => nomatch e⟩
  | int i =>
    obtain ⟨t, rfl⟩ := r
    cases (show T = "int" from ty)
    exact ⟨typeIs_int s i t, fun _ e => nomatch e⟩
  | ref p =>
    cases r
    rcases ty with ⟨rfl, xs, hq⟩ | ⟨rfl, o, hk, hc, hd⟩ | ⟨rfl, hk⟩ | ⟨rfl, S, n, hk⟩
    · obtain ⟨its, _, pl, _⟩ := I.list hq
      refine ⟨pl.isList.typeIs, fun a e => ?_⟩
      cases e
      obtain ⟨o, n, e, c, hd, _⟩ := pl
      exact ⟨o, e, hd⟩
    · refine ⟨⟨o, I.kIn p o hk, hc⟩, fun a e => ?_⟩
      cases e
      exact ⟨o, I.kIn _ o hk, hd⟩
    · have z : ∃ o, s.heap.get? p = some o ∧ o.ExactDict := by
        rcases hk with ⟨kvs, hk⟩ | ⟨kvs, hk⟩
        · obtain ⟨_, _, _, _, o, _, _, e, ex, _⟩ := I.hok p _ hk
          exact ⟨o, e, ex⟩
        · obtain ⟨_, _, _, _, o, _, _, e, ex, _⟩ := I.hok p _ hk
          exact ⟨o, e, ex⟩
      obtain ⟨o, e, ex⟩ := z
      refine ⟨⟨o, e, ex.1⟩, fun a e2 => ?_⟩
      cases e2
      exact ⟨o, e, ex.2.1⟩
    · obtain ⟨o, _, _, _, e, ex, _⟩ := I.hok p _ hk
      refine ⟨⟨o, e, ex.1⟩, fun a e2 => ?_⟩
      cases e2
      exact ⟨o, e, ex.2.1⟩
  | _ => exact False.elim ty
noncomputable def tBM (K : PySem.W.Frag) (T : String) (r : V → List V → Hp → VK → Prop) (to : TE) (t : TA) : TE := fun σ H Q => to σ H fun x H1 => tyV K T x H1 ∧ t σ H1 fun xs H2 => r x xs H2 Q
variable {o e : Expr} {es : List Expr} {to : TE} {t : TA} {name : Str} {apos cpos : Pos} {T id : String} {r : V → List V → Hp → VK → Prop}
theorem pe_bm (pa : PlainAttrs T) (slot : Slot T name id) (hty : typeOf (.builtin id) = pure (.type "method_descriptor")) (hm : MtR X id r) (ho : PE X o to) (ha : PA X (e :: es) t)
    (hbase : attributeBase o name X.env (eval o X.env) = eval o X.env := by rfl)
    (hfew : ((backTo cpos (starEach (e :: es) X.env)).all (fun x => !x.1) && (backToKw cpos (keywordEach [] X.env)).all (fun x => x.1.isSome)
      && decide ((e :: es).length + ([] : List Keyword).length + (if ([] : List Keyword).isEmpty then 0 else 1) < 30)) = true := by rfl)
    (hline : (apos.endLine == cpos.line) = true := by rfl) (hs : starEach (e :: es) X.env = (false, eval e X.env) :: starEach es X.env := by rfl) (hplain : (backTo cpos (starEach es X.env)).any (·.1) = false := by rfl) :
    PE X (.Call (.Attribute o name apos) (e :: es) [] cpos) (tBM X.K T r to t) := by
  intro pins s σ H Q I h
  refine wpAny_Call_method_late hbase hfew hline rfl (thn (ho pins s σ H _ I h) fun v s1 ⟨x, H1, I1, r1, ty, q1⟩ => ?_)
  obtain ⟨h1, h2⟩ := tyV_is I1 r1 ty
  refine ⟨T, id, pa, slot, hty, h1, h2, ?_⟩
  have hA := ha cpos pins s1 σ H1 _ I1 q1
  rw [hs] at hA ⊢
  refine Calls.callWith_builtin (by show (false || (backTo cpos (starEach es X.env)).any (·.1)) = false; rw [hplain] <;> rfl) (Calls.evalArgs_plain ?_)
  exact thn hA fun us s2 ⟨vs, H2, I2, r2, q2⟩ => hm pins s2 σ H2 x vs v us Q I2 r1 r2 q2
/- xs.append(e), list.index on a module's tuple .. are MtR facts of 06m -/
end
end L2

namespace L2
open PySem PySem.Spec PyProof.Rows

noncomputable def MtM (X : Cx) (id : String) (r : V → List V → Hp → VK → Prop) : Prop :=
  ∀ (pins : List (Addr × Obj)) (s : Shared) (σ : St) (H : Hp) (x : V) (xs : List V) (v : Value) (us : List Value) (Q : VK), Inv X pins σ H s → RelV x v → Vals xs us → r x xs H Q →
    wpAny (model X.prog X.w) X.A (call (.builtin id) (v :: us)) (EP X pins σ Q) X.xe s

/-! ### lists of values -/
theorem Vals.one : ∀ {x : V} {us : List Value}, Vals [x] us → ∃ u, us = [u] ∧ RelV x u
  | _, _, .cons r .nil => ⟨_, rfl, r⟩
theorem Vals.zero : ∀ {us : List Value}, Vals [] us → us = []
  | _, .nil => rfl
theorem Vals.reverse {xs : List V} {us : List Value} (h : Vals xs us) : Vals xs.reverse us.reverse := by
  induction h with
  | nil => exact .nil
  | cons r t ih => rw [List.reverse_cons, List.reverse_cons]; exact Vals.append ih (.cons r .nil)
theorem Vals.rep {xs : List V} {us : List Value} (h : Vals xs us) : ∀ k : Nat, Vals (List.replicate k xs).flatten (List.replicate k us).flatten
  | 0 => .nil
  | k + 1 => by
    rw [List.replicate_succ, List.replicate_succ, List.flatten_cons, List.flatten_cons]
    exact Vals.append h (Vals.rep h k)
theorem foldl_rep (its : List Value) : ∀ (k : Nat) (acc : List Value),
    List.foldl (fun x1 x2 => x1 ++ x2) acc.toArray (List.replicate k its.toArray) = (acc ++ (List.replicate k its).flatten).toArray
  | 0, acc => by simp
  | k + 1, acc => by
    have e : acc.toArray ++ its.toArray = (acc ++ its).toArray := by simp
    have e2 : (acc ++ its) ++ (List.replicate k its).flatten = acc ++ (List.replicate (k + 1) its).flatten := by
      rw [List.replicate_succ, List.flatten_cons, List.append_assoc]
    rw [← e2, ← foldl_rep its k (acc ++ its), ← e, List.replicate_succ, List.foldl_cons]

section
variable {X : Cx} {pins : List (Addr × Obj)} {σ : St} {H : Hp} {s : Shared} {l b : Addr} {xs ys zs : List V}

/-! ### the two steps: a tracked list is rewritten, a new list is laid -/
theorem Inv.lset {its its' : List Value} {n : Nat} {f : Array Value → Array Value} {t' : Nat} (I : Inv X pins σ H s) (hH : H l = some (.lst xs))
    (e : s.heap.get? l = some { cls := .type "list", data := .seq its.toArray n }) (hf : f its.toArray = its'.toArray) (hv : Vals ys its') (hz : ys.length ≤ sizeLine) :
    Inv X pins σ (upd H l (.lst ys)) { s with heap := s.heap.update l (Obj.mapSeq f), toks := t' } := by
  have q := PySem.IsL.update e f
  rw [hf] at q
  refine I.write (x := l) (e := l) (by rw [hH]; exact trivial) (.inl rfl) (fun b' u hb hu => (Heap.get?_update_other s.heap (Obj.mapSeq f) (Ne.symm hb)).trans hu) ⟨_, q⟩ ?_
  exact ⟨hz, its', _, hv, q⟩
theorem Inv.lnew {its : List Value} {t' : Nat} (I : Inv X pins σ H s) (hv : Vals ys its) (hz : ys.length ≤ sizeLine) :
    Inv X pins σ (upd H s.heap.objs.size (.lst ys)) { s with heap := s.heap.push { cls := .type "list", data := .seq its.toArray }, toks := t' } :=
  I.laid (fun _ _ q => Heap.get?_push_of_some _ q) (Nat.le_refl _) ⟨hz, its, 0, hv, Heap.get?_push_size _ rfl⟩
theorem Inv.fresh (I : Inv X pins σ H s) : H s.heap.objs.size = none := I.hok.fresh (Nat.le_refl _)
theorem Inv.lstM (I : Inv X pins σ H s) (hH : H l = some (.lst xs)) : xs.length ≤ sizeLine ∧ ∃ (its : List Value) (n : Nat), Vals xs its ∧ xs.length = its.length ∧ s.heap.get? l = some { cls := .type "list", data := .seq its.toArray n } := by
  obtain ⟨z, its, n, r, e⟩ := I.hok l _ hH
  exact ⟨z, its, n, r, r.length, e⟩

theorem notLongL {n : Nat} (h : n ≤ sizeLine) : Builtin.List.listTooLong n = false := by
  unfold Builtin.List.listTooLong
  exact decide_eq_false (by omega)
end

section
variable {X : Cx}

/-! ### methods -/
noncomputable def rAppend : V → List V → Hp → VK → Prop := fun x vs H Q => ∃ l xs y, x = .ref l ∧ vs = [y] ∧ H l = some (.lst xs) ∧ xs.length < sizeLine ∧ Q .non (upd H l (.lst (xs ++ [y])))
theorem mt_append : MtM X "list.append" rAppend := by
  intro pins s σ H x vs v us Q I rx rv h
  obtain ⟨l, xs, y, rfl, rfl, hH, hz, q⟩ := h
  cases rx
  obtain ⟨u, rfl, ru⟩ := rv.one
  obtain ⟨z, its, n, r, hl, e⟩ := I.lstM hH
  refine call_meets F.slot_list_append ⟨_, e, rfl⟩ F.entry_list_append (F.args_list_append_2 _ _) (PySem.list_append l its.toArray n u (by rw [List.size_toArray]; omega)) ⟨e, ?_⟩
  refine ⟨.non, _, I.lset (its' := its ++ [u]) hH e (by simp) (r.append (.cons ru .nil)) ?_, rfl, q⟩
  rw [List.length_append, List.length_singleton]
  omega

/-! ### list + list, list += list, list * int -/
noncomputable def rCat : R2 := fun x y H Q => ∃ l b xs zs, x = .ref l ∧ y = .ref b ∧ H l = some (.lst xs) ∧ H b = some (.lst zs) ∧ xs.length + zs.length ≤ sizeLine ∧ ∀ p, H p = none → Q (.ref p) (upd H p (.lst (xs ++ zs)))
theorem op_cat : OpR X (binaryOp .Add) rCat := by
  intro pins s σ H x y v u Q I rx ry h
  obtain ⟨l, b, xs, zs, rfl, rfl, hH, hB, hz, q⟩ := h
  cases rx
  cases ry
  obtain ⟨z, its, n, r, hl, e⟩ := I.lstM hH
  obtain ⟨z2, its2, n2, r2, hl2, e2⟩ := I.lstM hB
  refine PySem.P.add_list e e2 ?_ (by rw [List.size_toArray, List.size_toArray]; omega)
  have ea : its.toArray ++ its2.toArray = (its ++ its2).toArray := by simp
  rw [ea]
  exact ⟨.ref _, _, I.lnew (t' := s.toks) (r.append r2) (by rw [List.length_append]; omega), rfl, q _ I.fresh⟩
/-- a list times an int (a negative one is nothing) -/
noncomputable def rRep : R2 := fun x y H Q => ∃ l k xs, x = .ref l ∧ y = .int k ∧ H l = some (.lst xs) ∧ -(2 ^ 63) ≤ k ∧ k < 2 ^ 63 ∧ xs.length * k.toNat ≤ sizeLine ∧
  ∀ p, H p = none → Q (.ref p) (upd H p (.lst (List.replicate k.toNat xs).flatten))
theorem len_rep {α : Type} (xs : List α) (k : Nat) : (List.replicate k xs).flatten.length = k * xs.length := by
  induction k with
  | zero => simp
  | succ k ih => rw [List.replicate_succ, List.flatten_cons, List.length_append, ih, Nat.succ_mul, Nat.add_comm]
theorem op_rep : OpR X (binaryOp .Mult) rRep := by
  intro pins s σ H x y v u Q I rx ry h
  obtain ⟨l, k, xs, rfl, rfl, hH, h1, h2, hz, q⟩ := h
  cases rx
  obtain ⟨t, rfl⟩ := ry
  obtain ⟨z, its, n, r, hl, e⟩ := I.lstM hH
  have hlen : its.toArray.size * k.toNat ≤ sizeLine := by rw [List.size_toArray, ← hl]; exact hz
  have hcap : ¬ its.toArray.size * k.toNat > (2 ^ 63 - 1) / 8 := by
    have : (sizeLine : Nat) ≤ (2 ^ 63 - 1) / 8 := by decide
    omega
  have hfit : ¬ (!Builtin.List.listFitsIndex k) = true := by
    rw [fitsIndex_both h1 h2]
    exact Bool.false_ne_true
  have hlong : ¬ Builtin.List.listTooLong (its.toArray.size * k.toNat) = true := by
    rw [notLongL hlen]
    exact Bool.false_ne_true
  have hnew : List.foldl (fun x1 x2 => x1 ++ x2) #[] (List.replicate (if its.toArray.isEmpty = true then 0 else k.toNat) its.toArray) = (List.replicate k.toNat its).flatten.toArray := by
    have f0 : ∀ m : Nat, List.foldl (fun x1 x2 => x1 ++ x2) #[] (List.replicate m its.toArray) = (List.replicate m its).flatten.toArray := fun m => by
      have := foldl_rep its m []
      rw [List.nil_append] at this
      exact this
    rw [f0]
    cases its with
    | nil => simp
    | cons a r' => rw [if_neg (by simp)]
  refine wpAny_binaryOp_repeat_ref (T := "list") (U := "int") (by decide) ⟨_, e, rfl⟩ (fun s' => typeIs_int s' k t) noFill_list_mul F.fills_int_mul F.slot_int_rmul repeat_list F.slot_int_index.lookup
    (call_meets F.slot_int_rmul (typeIs_int s k t) F.entry_int_rmul (F.args_int_rmul_2 _ _) (int___rmul___int_list k t l its.toArray n)
      ⟨e, rfl, ⟨_, e, rfl⟩, call_meets F.slot_list_mul ⟨_, e, rfl⟩ F.entry_list_mul (F.args_list_mul_2 _ _) (AutoListH.list___mul___list_int_3 l its.toArray n k t hfit hcap hlong) ⟨e, ?_⟩⟩)
  rw [hnew]
  exact ⟨.ref _, _, I.lnew (t' := s.toks) (r.rep k.toNat) (by rw [len_rep, Nat.mul_comm]; exact hz), rfl, q _ I.fresh⟩

/-! ### del xs[i] -/
end

/-! ### xs[a:b] = ys -/
section
variable {prog : Program} {w : World} {A : Around} {E : Value → Shared → Prop} {s : Shared}
set_option maxRecDepth 100000 in
end

section
variable {X : Cx}
end
end L2

namespace Att
open PySem PySem.W PySem.Calls PyProof.Rows

/-! ### the script -/
theorem ints_of_wellAll {P : Params} {h : Heap} : ∀ (ns : List Int) (vs : List Value), WellAll P h vs (ns.map WData.int) → IntsAre vs ns := by
  intro ns
  induction ns with
  | nil =>
    intro vs w
    rw [List.map_nil] at w
    cases w
    exact .nil
  | cons n ns ih =>
    intro vs w
    rw [List.map_cons] at w
    cases w with
    | cons a b =>
      cases a
      exact .cons _ _ (ih _ b)

theorem script_of {l : OpenLaw} {n : Nat} (hn : l.most = some n) {P : Params} {h : Heap} {args : List WData} {vals : List Value}
    (hpre : l.row.toRowW.claim.pre args = true) (hwl : WellAll P h vals args) :
    ∃ a vs ns, vals = [Value.ref a] ∧ args = [WData.list (ns.map WData.int)] ∧ h.get? a = some { cls := .type "list", data := .seq vs.toArray } ∧ IntsAre vs ns ∧ ns.length ≤ n := by
  have hsh : WShape.hasAll [] args [.list .int] = true := (pre_splitW hpre).1
  have hc : l.pre.holds [] { args := args } = true := (pre_splitW hpre).2
  obtain ⟨d, r, rfl, h1, h2⟩ := hasAllW_cons hsh
  obtain rfl := hasAllW_nil h2
  obtain ⟨xs, rfl, h3⟩ := hasW_list h1
  obtain ⟨ns, rfl⟩ := items_int h3
  have hlen : ns.length ≤ n := by
    unfold OpenLaw.pre at hc
    have h4 : (WTm.not (.lt (.lit (.int (n : Int))) (.len (.arg 0)))).holds [] { args := [.list (ns.map .int)] } = true := by
      have h4 := (holds_andW hc).1
      rw [hn] at h4
      exact h4
    have h5 := condW_of h4 (w_not (w_lt w_lit (w_len_list (w_arg rfl))))
    rw [List.length_map] at h5
    refine Nat.le_of_not_lt fun q => ?_
    have q' : (n : Int) < ((ns.length : Nat) : Int) := by omega
    first
      | (rw [decide_eq_true q'] at h5; exact absurd h5 (by decide))
      | (simp at h5; omega)
  cases hwl with
  | cons w1 w2 =>
    cases w2
    cases w1 with
    | list ho hall => exact ⟨_, _, ns, rfl, rfl, ho, ints_of_wellAll ns _ hall, hlen⟩

theorem post_true (l : OpenLaw) (args : List WData) : l.row.toRowW.claim.post args (.bool true) args = true :=
  postW_of (r := l.row.toRowW) (X := (true == true))
    (show WShape.has [] (.bool true) .bool = true by first | rfl | decide | simp [WShape.has, WShape.arms, WShape.armsAll])
    (show (WTm.eq .res (.lit (.bool true))).value [] { args := args, res := some (.bool true), after := args } = some (.bool (true == true)) from w_eq_bool (w_res rfl) w_lit) rfl

/-! ### the attachment: holds_open's last premise (the goal 'hc' behind k_head) from a wpAny of the law's body -/
/-- the same from a codeAny of the CALL (for a layer whose function contracts speak of calls) -/
theorem attach_call {l : OpenLaw} {n : Nat} {q : Program} {loose : List Str} {XP : (Str → Option Value) → Heap → Prop} {YP : World → Heap → Prop} {d : DefRec}
    (hn : l.most = some n) (hdf : d.params.defaults = [])
    (call : ∀ (w : World) (s₀ s₁ : Shared) (mg mb : Str → Option Value) (fa : Addr) (o : Obj) (pm cd doc : Value) (a : Addr) (vs : List Value) (ns : List Int),
      Ground q loose [] XP w s₀ mg mb s₁.heap → YP w s₁.heap →
      s₁.heap.get? fa = some o → o.data = .func (docDef d.name d.params d.body d.scope pm cd doc) → s₁.heap.CodeRec cd d.name → mg d.name = some (.ref fa) →
      s₁.heap.get? a = some { cls := .type "list", data := .seq vs.toArray } → IntsAre vs ns → ns.length ≤ n → s₁.gens = #[] →
      codeAny (model l.prog w) callerA (.call (.ref fa) ⟨[.ref a], []⟩) (fun r s' => r = .ok (.ret (.bool true)) ∧ OldK s₁.heap s'.heap ∧ s'.os = s₁.os ∧ AllBare s'.gens) s₁) :
    WalkO q loose XP YP l.row.toRowW d [] (fun f vs => PySem.call f vs) := by
  intro w s₀ s₁ mg mb G Y fa o pm cd doc dV kV ho hd hcd hD hmg hg args vals as hpre hlay hrd hwl hlo
  obtain rfl : dV = .none := Dflts.none hD hdf
  obtain rfl : kV = .none := Dflts.noKw hD
  obtain ⟨a, vs, ns, rfl, rfl, hobj, hints, hlen⟩ := script_of hn hpre hwl
  refine enter_call (codeAny_mono (call w s₀ s₁ mg mb fa o pm cd doc a vs ns G Y ho (fd_plain hd) hcd hmg hobj hints hlen hg) fun r s' hq => ?_)
  obtain ⟨rfl, h2, h3, h4⟩ := hq
  exact ⟨.inl ⟨.bool true, .bool true, [], rfl, fun _ => rfl, .bool true, post_true l _, fun _ => ⟨List.Pairwise.nil, fun _ hm => (nomatch hm)⟩⟩, h2, h3, h4⟩

/-! ### rules over ANY heap (no ledger) from facts about the written part K: the library's own take a ledger (News) for what they write -/
section
variable {prog : Program} {w : World} {A : Around} {E : Value → Shared → Prop} {s : Shared} {K : Frag}

/-! the whole heap as the ledger: makes every rule that writes through a ledger a rule over any heap -/
noncomputable def ledger (h : Heap) (L d : Addr) : List (Addr × Obj) := (List.range h.objs.size).filterMap fun a => if a = L ∨ a = d then none else (h.get? a).map fun o => (a, o)
end
end Att

namespace L2
open PySem PySem.Spec PyProof.Rows

theorem vals_ints : ∀ {vs : List Value} {ns : List Int}, IntsAre vs ns → Vals (ns.map V.int) vs
  | _, _, .nil => .nil
  | _, _, .cons n t h => .cons ⟨t, rfl⟩ (vals_ints h)

/-- nothing is tracked but the script, known to the object (or it is an object of the module) -/
noncomputable def Only (H : Hp) : Prop := ∀ b, H b = none ∨ ∃ o xs, H b = some (.frz o (.lst xs))

/-- THE HEAD: the law's promise, at the heap behind the top. F, the promise of the law's def, may use that base is part of the heap (so K.In base, base.Ns mainGlobals mg stand in Mod) -/
theorem law_call {P : Program} {w : World} {K : PySem.W.Frag} {mg mb : Str → Option Value} {CX : CXT} {k : Nat} {fa a : Addr} {fd : FuncData} {x : Str} {sp : Sp} {s₁ : Shared} {vs : List Value} {ns : List Int}
    (KX : K.In s₁.heap) (hns : s₁.heap.Ns mainGlobals mg) (hb : s₁.heap.Ns builtinsNs mb) (hbb : ∀ x : Str, x ≠ "__name__" → mb x = bootBuiltins x) (hlim : s₁.heap.NoLimit) (hg : s₁.gens = #[])
    (ha : s₁.heap.get? a = some { cls := .type "list", data := .seq vs.toArray }) (hi : IntsAre vs ns) (hl : ns.length ≤ sizeLine) (hr : Room k callerA)
    (F : ∀ base : Heap, K.In base → base.Ns mainGlobals mg → FnOk P w K mg base CX k fa fd [x] sp) (hbind : ∀ (s : Shared) (u : Value), BindsTo s fd ⟨[u], []⟩ [(x, u)])
    (hsp : ∀ H : Hp, Only H → SqL K H a (ns.map V.int) → sp [.ref a] H (fun v _ => v = .bl true) fun _ _ _ => False)
    (hCX : ∀ H e s', CX [] H s₁ (fun _ _ _ => False) e s' → False) :
    codeAny (model P w) callerA (.call (.ref fa) ⟨[.ref a], []⟩) (fun r s' => r = .ok (.ret (.bool true)) ∧ OldK s₁.heap s'.heap ∧ s'.os = s₁.os ∧ AllBare s'.gens) s₁ := by
  have rv := vals_ints hi
  have lenV := hi.length
  -- from an abstract heap in which nothing but the script may be tracked
  have core : ∀ H : Hp, Only H → SqL K H a (ns.map V.int) → HOk P w H s₁.heap → (∀ b, H b ≠ none → b = a) → (H a ≠ none → K.lookup a = none) →
      codeAny (model P w) callerA (.call (.ref fa) ⟨[.ref a], []⟩) (fun r s' => r = .ok (.ret (.bool true)) ∧ OldK s₁.heap s'.heap ∧ s'.os = s₁.os ∧ AllBare s'.gens) s₁ := by
    intro H hO hS hok hA hK
    have base_of : ∀ {b : Addr} {o : Obj}, s₁.heap.get? b = some o → H b = none → (hidT s₁.heap H).get? b = some o := fun e n => hidT_get e n
    have noA : ∀ {b : Addr} {o : Obj} {es : Array DictEntry} {ep : Nat}, s₁.heap.get? b = some o → o.data = .dict es ep → H b = none := fun {b o es ep} e d => by
      cases q : H b with
      | none => rfl
      | some u =>
        have e' : b = a := hA b (by rw [q]; simp)
        subst e'
        rw [ha] at e; cases e
        have d' : Data.seq vs.toArray _ = Data.dict es ep := d
        cases d'
    have nsK : ∀ {b : Addr} {m : Str → Option Value}, s₁.heap.Ns b m → (hidT s₁.heap H).Ns b m := fun {b m} ⟨o, es, ep, e, d, r⟩ => ⟨o, es, ep, base_of e (noA e d), d, r⟩
    have hKb : K.In (hidT s₁.heap H) := fun b o e => base_of (KX b o e) (by
      cases q : H b with
      | none => rfl
      | some u =>
        have e' : b = a := hA b (by rw [q]; simp)
        subst e'
        rw [hK (by rw [q]; simp)] at e; cases e)
    have hM : Mod K mg (hidT s₁.heap H) := ⟨hKb, nsK hns, ⟨mb, nsK hb, hbb⟩, let ⟨mc, h1, h2⟩ := hlim; ⟨mc, nsK h1, h2⟩⟩
    have e0 : Env0 P w K mg (hidT s₁.heap H) callerA [] s₁ H := ⟨rfl, hM, fun b o e => of_hidT e, Nat.le_of_eq (hidT_size _ _), trivial, fun b hb => absurd (show b ∈ ([] : List Addr) from hb) (by simp), hok, .of_eq hg⟩
    refine codeAny_mono ((F _ hKb (nsK hns)).run callerA [] s₁ H ⟨[.ref a], []⟩ [.ref a] [.ref a] _ _ hr e0 (hbind s₁ (.ref a)) (.cons rfl .nil) (hsp H hO hS)) fun r s' h => ?_
    cases r with
    | error e => exact (hCX H e s' h).elim
    | ok fl =>
      cases fl with
      | next => exact False.elim h
      | brk => exact False.elim h
      | cont => exact False.elim h
      | ret u =>
        obtain ⟨v, H', os, bare, un, hok', r', q⟩ := h
        have q' : v = .bl true := q
        subst q'
        obtain rfl : u = Value.bool true := r'
        refine ⟨rfl, OldK.of_keep fun b o e => ?_, os, bare⟩
        cases q : H b with
        | none => exact un.keep b o e q (by intro z; exact absurd (show b ∈ ([] : List Addr) from z) (by simp)) (by simp)
        | some u =>
          rcases hO b with z | ⟨ob, xs, z⟩
          · rw [q] at z; cases z
          · have z2 := un.frzs b ob _ z
            obtain ⟨e1, _⟩ := hok b _ z
            obtain ⟨e2, _⟩ := hok' b _ z2
            rw [e] at e1; cases e1
            exact e2
  cases hk : K.lookup a with
  | some o =>
    -- the script is one of the module's own objects
    have e := KX a o hk
    rw [ha] at e
    cases e
    refine core (fun _ => none) (fun _ => .inl rfl) (.inr ⟨_, vs.toArray, _, hk, rfl, rfl, rfl, by rw [List.size_toArray, lenV]; exact hl, by simpa using rv⟩) (fun b u z => by have z' : (none : Option HO) = some u := z; cases z') (fun b z => absurd rfl z) fun z => absurd rfl z
  | none =>
    refine core (fun b => if b = a then some (.frz { cls := .type "list", data := .seq vs.toArray } (.lst (ns.map V.int))) else none) (fun b => ?_) (.inl (.inr ⟨{ cls := .type "list", data := .seq vs.toArray }, if_pos rfl⟩)) (fun b u z => ?_) (fun b z => ?_) fun _ => hk
    · by_cases hb : b = a
      · exact .inr ⟨_, _, if_pos hb⟩
      · exact .inl (if_neg hb)
    · by_cases hb : b = a
      · have z' := (if_pos hb).symm.trans z
        cases z'
        subst hb
        exact ⟨ha, by rw [List.length_map]; exact hl, vs, _, rv, ha⟩
      · have z' := (if_neg hb).symm.trans z
        cases z'
    · by_cases hb : b = a
      · exact hb
      · exact absurd (if_neg hb) z
end L2

namespace L2
open PySem PySem.Spec PyProof.Rows

noncomputable abbrev KOf {K : PySem.W.Frag} {h : Heap} (_ : K.In h) : PySem.W.Frag := K

/-- the goal that k_head leaves (case hc), from the law's promise. F gives the function object fd (K's own) once, then the promise over every base -/
theorem walk_of {l : PySem.W.OpenLaw} {n k : Nat} {q : Program} {loose : List Str} {XP : (Str → Option Value) → Heap → Prop} {YP : World → Heap → Prop} {d : DefRec} {K : Params → PySem.W.Frag} {CX : World → CXT} {sp : World → Sp} {x : Str}
    (hn : l.most = some n) (hn2 : n ≤ sizeLine) (hdf : d.params.defaults = []) (hr : Room k callerA)
    (hY : ∀ (w : World) (h : Heap), YP w h → (K w.params).In h)
    (F : ∀ (w : World) (mg : Str → Option Value) (fa : Addr) (h : Heap), (K w.params).In h → h.Ns mainGlobals mg → mg d.name = some (.ref fa) →
      ∃ fd : FuncData, (∀ (s : Shared) (u : Value), BindsTo s fd ⟨[u], []⟩ [(x, u)]) ∧
        ∀ base : Heap, (K w.params).In base → base.Ns mainGlobals mg → FnOk l.prog w (K w.params) mg base (CX w) k fa fd [x] (sp w))
    (hsp : ∀ (w : World) (H : Hp) (a : Addr) (ns : List Int), ns.length ≤ n → Only H → SqL (K w.params) H a (ns.map V.int) → sp w [.ref a] H (fun v _ => v = .bl true) fun _ _ _ => False)
    (hCX : ∀ (w : World) (H : Hp) (s : Shared) (e : Value) (s' : Shared), CX w [] H s (fun _ _ _ => False) e s' → False) :
    PySem.W.WalkO q loose XP YP l.row.toRowW d [] (fun f vs => PySem.call f vs) := by
  refine Att.attach_call hn hdf fun w s₀ s₁ mg mb fa o pm cd doc a vs ns G Y ho hd hcd hmg hobj hints hlen hg => ?_
  have KX := hY w _ Y
  obtain ⟨fd, hb, hF⟩ := F w mg fa _ KX G.T.g hmg
  exact law_call KX G.T.g G.T.b G.T.builtins G.T.nolimit hg hobj hints (Nat.le_trans hlen hn2) hr hF hb (fun H hO hS => hsp w H a ns hlen hO hS) fun H e s' => hCX w H s₁ e s'
end L2

/- THE LAST THEOREM (shape; LID, My.* are yours):
   My.Adr: a structure of the addresses that your layer names (classes, functions); My.Txt K t: a structure (Prop) of the equations over K;
   My.txt_mk : {K} {implicit addresses ..} (e1 : nsIn K mainGlobals "law" = some (some (.ref f))) (e2 : K.lookup f = some ⟨oc, od, .func (fnOf "law" "law" params body scope dV kV doc pm an cdv ct), sl⟩) (e3 : codeIn K cdv "law" = true) .. : ∃ t, My.Txt K t

set_option maxRecDepth 100000 in
set_option maxHeartbeats 0 in
theorem PySem.Challenge.cw_LID_holds : PySem.Challenge.rw_LID.Holds := by
  w_on; o_law; k_head; (case hw => w_witness2)
  k_fill
  refine L2.walk_of (l := PySem.Challenge.rw_LID) (n := 63) (k := 40) (x := "script") (CX := fun w => ..) (sp := fun _ => My.sp_law) rfl (by decide) rfl ⟨rfl, by decide, by decide⟩ (fun w h Y => PySem.W.kIn_of Y) ?F ?S ?C
  case F =>
    intro w mg fa h KX G hmg
    have T : ∃ t, My.Txt (L2.KOf KX) t := by
      dsimp only [L2.KOf]                          -- K must stand as «<heap const> w.params» for k_is
      refine' My.txt_mk ?e1 ?e2 ?e3 ..
      (case e1 => PySem.W.k_is)                    -- in the order: a name -> its address -> its object -> its parts
      (case e2 => PySem.W.k_is)
      ..
    obtain ⟨t, T⟩ := T
    have e0 := hmg.symm.trans (PySem.W.mg_of KX G T.law)
    cases e0                                       -- fa is the law's own address
    exact ⟨_, fun s u => .of_eq rfl, fun base kb nb => My.law_fn T kb nb⟩     -- if «.of_eq rfl» comes too early: refine' ⟨_, ?b, fun base kb nb => My.law_fn T kb nb⟩; exact fun s u => .of_eq rfl
  case S => exact fun w H a ns hl hO hS => ..
  case C => exact ..
(the tactic k_is has no namespace: write k_is) -/

/-! SHORT WORDS over the layer: a def of the text, its body, what a loop and a test want. -/
namespace L2
open PySem PySem.Spec PyProof.Rows

/-! ### the text by places -/
/-- the j-th statement of a class's body -/
noncomputable def defArgs (s : Stmt) : Arguments := match s with
  | .FunctionDef _ a _ _ _ _ _ _ _ _ => a
  | _ => { posonlyargs := [], args := [], vararg := none, kwonlyargs := [], kw_defaults := [], kwarg := none, defaults := [] }
noncomputable def defBody (s : Stmt) : List Stmt := match s with
  | .FunctionDef _ _ b _ _ _ _ _ _ _ => b
  | _ => []
noncomputable def defScope (s : Stmt) : Scope := match s with
  | .FunctionDef _ _ _ _ _ _ sc _ _ _ => sc
  | _ => { kind := .function, names := [], isGenerator := false, isCoroutine := false }

/-! ### no exception leaves a def -/
noncomputable abbrev CX0 : CXT := fun _ _ _ _ _ _ => False
noncomputable abbrev E0 : XK := fun _ _ _ => False
theorem pass0 {X : Cx} : Passes CX0 X E0 := fun _ _ _ _ _ _ _ h => h.elim

/-! ### a def (or method) of the text as it stands behind the top -/
structure Fun (K : PySem.W.Frag) (x qual : Str) (st : Stmt) (f : Addr) (fd : FuncData) : Prop where
  ex : ∃ (oc : Value) (od : Option Addr) (kV doc pm : Value) (an : Option Addr) (cdv ct : Value) (osl : Array (Option Value)),
    fd = PySem.W.fnOf x qual (defArgs st) (defBody st) (defScope st) .none kV doc pm an cdv ct ∧ K.lookup f = some ⟨oc, od, .func fd, osl⟩ ∧ PySem.W.codeIn K cdv qual = true
  kp : PySem.W.keepIn K (.ref f) = true
section
variable {P : Program} {w : World} {K : PySem.W.Frag} {mg : Str → Option Value} {base : Heap}
/-- THE RULE for a def: its body as a term of rules, and the reading of that term -/
theorem Fun.ok {x qual : Str} {st : Stmt} {f : Addr} {fd : FuncData} {N ps : List Str} {k : Nat} {sp : Sp} (F : Fun K x qual st f fd) (S : FnScope N ps (defScope st)) (len : ∀ vs H Q E, sp vs H Q E → vs.length = ps.length)
    (hbody : ∀ (cdv : Value) (A : Around) (outer : List Env) (s : Shared) (H : Hp) (vs : List V) (Q : VK) (E : XK), Room k (A.deeper (envOfC qual (defScope st) s.heap.objs.size f cdv)) → sp vs H Q E →
      ∃ t, PSs (cxOf CX0 P w K mg base N qual (defScope st) f cdv A outer s H E).nox (defBody st) t ∧ t { nx := fun _ H' => Q .non H', rt := Q } (start N vs) H) : FnOk P w K mg base CX0 (k + 1) f fd ps sp := by
  obtain ⟨oc, od, kV, doc, pm, an, cdv, ct, osl, rfl, lk, hcd⟩ := F.ex
  refine fn_of lk hcd S len fun A outer s H vs Q E hr hsp => ?_
  obtain ⟨t, h, q⟩ := hbody cdv A outer s H vs Q E hr hsp
  exact ⟨t, h.nox, q⟩
/-- how its arguments bind (no defaults): h is «fun _ _ _ _ _ _ us hl => match us, hl with | [_, _], _ => rfl», one _ a parameter -/
theorem Fun.binds {x qual : Str} {st : Stmt} {f : Addr} {fd : FuncData} {ps : List Str} (F : Fun K x qual st f fd)
    (h : ∀ (kV doc pm : Value) (an : Option Addr) (cdv ct : Value) (us : List Value), us.length = ps.length → bindArgs (PySem.W.fnOf x qual (defArgs st) (defBody st) (defScope st) .none kV doc pm an cdv ct) ⟨us, []⟩ = pure (ps.zip us)) : Binds K fd ps [] := by
  obtain ⟨oc, od, kV, doc, pm, an, cdv, ct, osl, rfl, lk, hcd⟩ := F.ex
  exact .all (h kV doc pm an cdv ct)
theorem fun_mk {x qual : Str} {st : Stmt} {f : Addr} {oc : Value} {od an : Option Addr} {osl : Array (Option Value)} {kV doc pm cdv ct : Value} (l : K.lookup f = some ⟨oc, od, .func (PySem.W.fnOf x qual (defArgs st) (defBody st) (defScope st) .none kV doc pm an cdv ct), osl⟩)
    (c : PySem.W.codeIn K cdv qual = true) (k : PySem.W.keepIn K (.ref f) = true) : Fun K x qual st f (PySem.W.fnOf x qual (defArgs st) (defBody st) (defScope st) .none kV doc pm an cdv ct) := ⟨⟨oc, od, kV, doc, pm, an, cdv, ct, osl, rfl, l, c⟩, k⟩
end
theorem small1000 {n : Nat} (h : n ≤ 1000) : n < sizeLine := Nat.lt_of_le_of_lt h (by decide)

/-! ### expressions in short: the name that stands in the i-th slot -/
section
variable {X : Cx}
theorem pv (i : Nat) {x : Str} {pos : Pos} (hN : X.N[i]? = some x := by rfl) (hv : Vis X.env.scope x := by first | exact Or.inl rfl | exact Or.inr (Or.inl rfl) | exact Or.inr (Or.inr rfl)) (hd : (x == ("__debug__" : Str)) = false := by decide)
    (hcd : (x == ("__classdict__" : Str)) = false := by decide) : PE X (.Name x pos) (tVar i) := pe_var hN hv hd hcd
end

/-! ### tests -/
theorem iteF {A B : Prop} (h : B) : if false = true then A else B := by
  rw [if_neg Bool.false_ne_true]
  exact h
theorem iteT {A B : Prop} (h : A) : if true = true then A else B := by
  rw [if_pos rfl]
  exact h
theorem iteNS {c A B : Prop} [Decidable c] (hc : c) (h : B) : if (!decide c) = true then A else B := by
  rw [decide_eq_true hc]
  exact iteF h

/-! ### heaps -/
/-- all that was tracked is as it was -/
noncomputable def Same (H H' : Hp) : Prop := ∀ b o, H b = some o → H' b = some o
theorem Same.refl (H : Hp) : Same H H := fun _ _ h => h
theorem Same.trans {H H1 H2 : Hp} (a : Same H H1) (b : Same H1 H2) : Same H H2 := fun c o h => b c o (a c o h)
theorem Same.free {H H' : Hp} (e : Same H H') {l : Addr} (h : H' l = Option.none) : H l = Option.none := by
  cases q : H l with
  | none => rfl
  | some o =>
    rw [e l o q] at h
    cases h
theorem Same.seq {K : PySem.W.Frag} {H H' : Hp} {a : Addr} {xs : List V} (e : Same H H') (h : SqL K H a xs) : SqL K H' a xs := by
  rcases h with (h | ⟨o, h⟩) | h
  · exact .inl (.inl (e _ _ h))
  · exact .inl (.inr ⟨o, e _ _ h⟩)
  · exact .inr h

end L2

namespace Cv
/-! sizes -/
structure Sz (n : Nat) (x : Int) : Prop where
  lt : x.natAbs < 2 ^ n
theorem Sz.mono {n m : Nat} {x : Int} (h : Sz n x) (hm : n ≤ m) : Sz m x := ⟨Nat.lt_of_lt_of_le h.lt (Nat.pow_le_pow_right (by decide) hm)⟩
theorem Sz.le {n : Nat} {x y : Int} (h : Sz n x) (hy : y.natAbs ≤ x.natAbs) : Sz n y := ⟨Nat.lt_of_le_of_lt hy h.lt⟩
theorem Sz.mul {n m : Nat} {x y : Int} (h : Sz n x) (k : Sz m y) : Sz (n + m) (x * y) := by
  refine ⟨?_⟩
  rw [Int.natAbs_mul, Nat.pow_add]
  exact Nat.mul_lt_mul'' h.lt k.lt
theorem Sz.add {n m : Nat} {x y : Int} (h : Sz n x) (k : Sz m y) : Sz (max n m + 1) (x + y) := by
  refine ⟨?_⟩
  have h1 := (h.mono (Nat.le_max_left n m)).lt
  have h2 := (k.mono (Nat.le_max_right n m)).lt
  have h3 := Int.natAbs_add_le x y
  rw [Nat.pow_succ]
  omega
theorem Sz.neg {n : Nat} {x : Int} (h : Sz n x) : Sz n (-x) := ⟨by rw [Int.natAbs_neg]; exact h.lt⟩
theorem Sz.sub {n m : Nat} {x y : Int} (h : Sz n x) (k : Sz m y) : Sz (max n m + 1) (x - y) := by
  rw [Int.sub_eq_add_neg]
  exact h.add k.neg
theorem Sz.one : Sz 1 1 := ⟨by decide⟩
theorem Sz.zero : Sz 0 0 := ⟨by decide⟩
/-! a fraction's size -/
structure Bd (n : Nat) (q : Rat) : Prop where
  num : Sz n q.num
  den : Sz n (q.den : Int)
theorem Bd.mono {n m : Nat} {q : Rat} (h : Bd n q) (hm : n ≤ m) : Bd m q := ⟨h.num.mono hm, h.den.mono hm⟩
theorem num_le (a b : Int) (hb : b ≠ 0) : (Rat.divInt a b).num.natAbs ≤ a.natAbs ∧ (Rat.divInt a b).den ≤ b.natAbs := by
  refine ⟨?_, ?_⟩
  · rw [Rat.num_divInt]
    have h2 : (b.sign * a).natAbs = a.natAbs := by
      rw [Int.natAbs_mul, Int.natAbs_sign_of_ne_zero hb, Nat.one_mul]
    have hd : (b.gcd a : Int) ∣ b.sign * a := Int.dvd_mul_of_dvd_right (Int.gcd_dvd_right ..)
    rw [← h2]
    have := Int.natAbs_ediv_of_dvd hd
    rw [this]
    exact Nat.div_le_self _ _
  · rw [Rat.den_divInt, if_neg hb]
    exact Nat.div_le_self _ _
theorem Bd.of {n m : Nat} {a b : Int} (ha : Sz n a) (hb : Sz m b) (h0 : b ≠ 0) : Bd (max n m) (Rat.divInt a b) :=
  ⟨(ha.mono (Nat.le_max_left n m)).le (num_le a b h0).1, (hb.mono (Nat.le_max_right n m)).le (by rw [Int.natAbs_natCast]; exact (num_le a b h0).2)⟩
theorem den_ne (q : Rat) : (q.den : Int) ≠ 0 := by have := q.den_pos; omega
theorem add_eq (a b : Rat) : Rat.divInt (a.num * b.den + b.num * a.den) ((a.den : Int) * b.den) = a + b := by
  have := Rat.divInt_add_divInt a.num b.num (den_ne a) (den_ne b)
  rw [Rat.num_divInt_den, Rat.num_divInt_den] at this
  exact this.symm
theorem sub_eq (a b : Rat) : Rat.divInt (a.num * b.den - b.num * a.den) ((a.den : Int) * b.den) = a - b := by
  have := Rat.divInt_sub_divInt a.num b.num (den_ne a) (den_ne b)
  rw [Rat.num_divInt_den, Rat.num_divInt_den] at this
  exact this.symm
theorem mul_eq (a b : Rat) : Rat.divInt (a.num * b.num) ((a.den : Int) * b.den) = a * b := by
  have := Rat.divInt_mul_divInt a.num b.num (d₁ := a.den) (d₂ := b.den)
  rw [Rat.num_divInt_den, Rat.num_divInt_den] at this
  exact this.symm
theorem den_mul_ne (a b : Rat) : (a.den : Int) * b.den ≠ 0 := Int.mul_ne_zero (den_ne a) (den_ne b)
theorem Bd.add {n m : Nat} {a b : Rat} (h : Bd n a) (k : Bd m b) : Bd (n + m + 1) (a + b) := by
  rw [← add_eq]
  exact (Bd.of ((h.num.mul k.den).add (k.num.mul h.den)) (h.den.mul k.den) (den_mul_ne a b)).mono (by omega)
theorem Bd.sub {n m : Nat} {a b : Rat} (h : Bd n a) (k : Bd m b) : Bd (n + m + 1) (a - b) := by
  rw [← sub_eq]
  exact (Bd.of ((h.num.mul k.den).sub (k.num.mul h.den)) (h.den.mul k.den) (den_mul_ne a b)).mono (by omega)
theorem Bd.mul {n m : Nat} {a b : Rat} (h : Bd n a) (k : Bd m b) : Bd (n + m) (a * b) := by
  rw [← mul_eq]
  exact (Bd.of (h.num.mul k.num) (h.den.mul k.den) (den_mul_ne a b)).mono (by omega)
/-! the share of two whole numbers, as it is reckoned -/
theorem share_pos (t b : Int) (hb : 0 < b) : t.fdiv (Int.gcd t b) = (Rat.divInt t b).num ∧ b.fdiv (Int.gcd t b) = ((Rat.divInt t b).den : Int) := by
  rw [Rat.num_divInt, Rat.den_divInt, if_neg (by omega), Int.sign_eq_one_of_pos hb, Int.one_mul, Int.gcd_comm b t]
  refine ⟨Int.fdiv_eq_ediv_of_nonneg _ (Int.natCast_nonneg _), ?_⟩
  rw [Int.fdiv_eq_ediv_of_nonneg _ (Int.natCast_nonneg _), Int.natCast_ediv, Int.natAbs_of_nonneg (Int.le_of_lt hb)]
theorem share_neg (t b : Int) (hb : b < 0) : t.fdiv (-(Int.gcd t b : Int)) = (Rat.divInt t b).num ∧ b.fdiv (-(Int.gcd t b : Int)) = ((Rat.divInt t b).den : Int) := by
  have h := share_pos (-t) (-b) (by omega)
  rw [Rat.neg_divInt_neg, Int.neg_gcd, Int.gcd_neg] at h
  rw [← Int.neg_fdiv_neg, Int.neg_neg, ← Int.neg_fdiv_neg b, Int.neg_neg]
  exact h
theorem gcd_step (a b : Int) : Int.gcd b (a.fmod b) = Int.gcd a b := by
  rw [Int.fmod_def, Int.sub_eq_add_neg, ← Int.mul_neg, Int.gcd_add_mul_left_right, Int.gcd_comm]
theorem fmod_lt (a b : Int) (hb : b ≠ 0) : (a.fmod b).natAbs < b.natAbs := by
  rw [Int.fmod_eq_emod]
  have h1 := Int.emod_nonneg a hb
  have h2 := Int.emod_lt a hb
  by_cases h : 0 ≤ b ∨ b ∣ a
  · rw [if_pos h]; omega
  · rw [if_neg h]
    have h3 : a % b ≠ 0 := fun z => h (.inr (Int.dvd_of_emod_eq_zero z))
    omega
theorem gcd_zero (a : Int) : (if a < 0 then -a else a) = (Int.gcd a 0 : Int) := by
  rw [Int.gcd_zero]
  split <;> omega
theorem gcd_pos' (t b : Int) (hb : b ≠ 0) : (Int.gcd t b : Int) ≠ 0 := by
  have := Int.gcd_pos_of_ne_zero_right t hb
  omega
/-- the two products of a good share -/
theorem gcd_red (q : Rat) : Int.gcd (if q.num < 0 then -q.num else q.num) (q.den : Int) = 1 := by
  have := q.reduced
  unfold Nat.Coprime at this
  have e : (if q.num < 0 then -q.num else q.num).natAbs = q.num.natAbs := by split <;> omega
  show Nat.gcd _ _ = 1
  rw [e]
  exact this
end Cv
namespace Cv
theorem divInt_cast (a b : Int) : Rat.divInt a b = (a : Rat) / (b : Rat) := Rat.divInt_eq_div a b
theorem num_cast (q : Rat) : (q.num : Rat) = q * ((q.den : Int) : Rat) := by
  have h := Rat.num_divInt_den q
  rw [Rat.divInt_eq_div] at h
  have hd : ((q.den : Int) : Rat) ≠ 0 := by
    intro z
    exact den_ne q (by exact_mod_cast z)
  conv => rhs; rw [← h]
  grind
theorem den_cast_ne (q : Rat) : ((q.den : Int) : Rat) ≠ 0 := by
  intro z
  exact den_ne q (by exact_mod_cast z)
/-- a quotient of whole numbers, by what it is worth -/
theorem eq_divInt {q : Rat} {t b : Int} (hb : b ≠ 0) (h : q * (b : Rat) = (t : Rat)) : q = Rat.divInt t b := by
  rw [Rat.divInt_eq_div]
  have hb' : (b : Rat) ≠ 0 := by
    intro z
    exact hb (by exact_mod_cast z)
  grind
end Cv

namespace Cv
open PySem PySem.Spec PyProof.Rows L2
section
variable {X : Cx}
/-! ### products and quotients of greater numbers -/
noncomputable def CMulB (i j : Int) : Prop := ∃ n m, Sz n i ∧ Sz m j ∧ n + m ≤ 100000000
noncomputable def CDivB (_i j : Int) : Prop := j ≠ 0 ∧ Sz 9000 j
theorem op_fdivB : OpR X (binaryOp .FloorDiv) (rI CDivB fun i j => .int (i.fdiv j)) := opI fun i j _ _ _ _ _ hc q => by
  obtain ⟨h0, h1⟩ := hc
  refine floordiv_int h0 q (.inl (PyProof.noPylong_of_log2 ?_))
  have hp : j.natAbs ≠ 0 := by omega
  exact (Nat.log2_lt hp).mpr h1.lt
/-! ### isinstance -/
theorem vals_one {x : V} {us : List Value} (r : Vals [x] us) : ∃ u, us = [u] ∧ RelV x u := by
  cases r with
  | cons p q => cases q; exact ⟨_, rfl, p⟩
theorem vals_two {x y : V} {us : List Value} (r : Vals [x, y] us) : ∃ u v, us = [u, v] ∧ RelV x u ∧ RelV y v := by
  cases r with
  | cons p q =>
    obtain ⟨v, rfl, p'⟩ := vals_one q
    exact ⟨_, _, rfl, p, p'⟩
theorem call_isi : CallR X (.builtin "isinstance") (fun xs H Q => ∃ x T t b, xs = [x, .ty T] ∧ TyOf X.K H x t ∧ PySem.W.kitOne X.K t (.type T) = some b ∧ Q (.bl b) H) := by
  intro pins s σ H xs us Q I r h
  obtain ⟨x, T, t, b, rfl, ty, e, q⟩ := h
  obtain ⟨u, v, rfl, ru, rv⟩ := vals_two r
  cases rv
  exact isinst_ok I ru ty e fun tk => ⟨.bl b, H, I.tok tk, rfl, q⟩
/-! ### data -/
mutual
/-- v is the data d -/
noncomputable def Dn (K : PySem.W.Frag) (H : Hp) : PySem.W.Dat → V → Prop
  | .none, v => v = .non
  | .bool b, v => v = .bl b
  | .int i, v => v = .int i
  | .str x, v => v = .str x
  | .bytes _, _ => False
  | .tuple ds, v => ∃ a xs, v = .ref a ∧ SqT K H a xs ∧ DnAll K H ds xs
  | .list ds, v => ∃ a xs, v = .ref a ∧ SqL K H a xs ∧ DnAll K H ds xs
noncomputable def DnAll (K : PySem.W.Frag) (H : Hp) : List PySem.W.Dat → List V → Prop
  | [], xs => xs = []
  | d :: ds, xs => ∃ y ys, xs = y :: ys ∧ Dn K H d y ∧ DnAll K H ds ys
end
mutual
theorem dn_reads {pins : List (Addr × Obj)} {σ : L2.St} {H : Hp} {s : Shared} (I : Inv X pins σ H s) : ∀ (n : Nat) (d : PySem.W.Dat) (v : V) (u : Value), Dn X.K H d v → RelV v u → PySem.W.kqdOk n d = true → ∃ as, Reads s.heap u (PySem.W.kqdP d) as
  | n, .none, v, u, h, r, _ => by
    cases (show v = .non from by simpa [Dn] using h); cases r
    rw [PySem.W.kqdP]; exact ⟨_, Reads.none⟩
  | n, .bool b, v, u, h, r, _ => by
    cases (show v = .bl b from by simpa [Dn] using h); cases r
    rw [PySem.W.kqdP]; exact ⟨_, Reads.bool b⟩
  | n, .int i, v, u, h, r, _ => by
    cases (show v = .int i from by simpa [Dn] using h)
    obtain ⟨t, rfl⟩ := r
    rw [PySem.W.kqdP]; exact ⟨_, Reads.int i t⟩
  | n, .str x, v, u, h, r, _ => by
    cases (show v = .str x from by simpa [Dn] using h)
    obtain ⟨t, rfl⟩ := r
    rw [PySem.W.kqdP]; exact ⟨_, Reads.str x t⟩
  | n, .bytes b, v, u, h, r, _ => by simp [Dn] at h
  | 0, .tuple ds, v, u, h, r, hk => by simp [PySem.W.kqdOk] at hk
  | 0, .list ds, v, u, h, r, hk => by simp [PySem.W.kqdOk] at hk
  | n + 1, .tuple ds, v, u, h, r, hk => by
    rw [Dn] at h
    obtain ⟨a, xs, rfl, hs, hd⟩ := h
    cases r
    obtain ⟨its, rv, ⟨o, ho, hc, m, hdt⟩, hz⟩ := I.tuple hs
    obtain ⟨as, q⟩ := dn_readsAll I n ds xs its hd rv (by simpa [PySem.W.kqdOk] using hk)
    rw [PySem.W.kqdP]
    exact ⟨as, reads_tuple_at ho hc hdt (by simpa using q)⟩
  | n + 1, .list ds, v, u, h, r, hk => by
    rw [Dn] at h
    obtain ⟨a, xs, rfl, hs, hd⟩ := h
    cases r
    obtain ⟨its, rv, pl, hz⟩ := I.list hs
    obtain ⟨o, ho, hc, m, hdt⟩ := pl.isList
    obtain ⟨as, q⟩ := dn_readsAll I n ds xs its hd rv (by simpa [PySem.W.kqdOk] using hk)
    rw [PySem.W.kqdP]
    exact ⟨_, reads_list_at ho hc hdt (by simpa using q)⟩
theorem dn_readsAll {pins : List (Addr × Obj)} {σ : L2.St} {H : Hp} {s : Shared} (I : Inv X pins σ H s) : ∀ (n : Nat) (ds : List PySem.W.Dat) (xs : List V) (us : List Value), DnAll X.K H ds xs → Vals xs us → (∀ d ∈ ds, PySem.W.kqdOk n d = true) → ∃ as, ReadsAll s.heap us (PySem.W.kqdPs ds) as
  | n, [], xs, us, h, r, _ => by
    cases (show xs = [] from by simpa [DnAll] using h)
    cases r
    rw [PySem.W.kqdPs]; exact ⟨_, ReadsAll.nil⟩
  | n, d :: ds, xs, us, h, r, hk => by
    rw [DnAll] at h
    obtain ⟨y, ys, rfl, h1, h2⟩ := h
    cases r with
    | cons p q =>
      obtain ⟨as, r1⟩ := dn_reads I n d y _ h1 p (hk d (.head _))
      obtain ⟨bs, r2⟩ := dn_readsAll I n ds ys _ h2 q fun e he => hk e (.tail _ he)
      rw [PySem.W.kqdPs]
      exact ⟨_, ReadsAll.cons r1 r2⟩
end
theorem shaped_ok {d : PySem.W.Dat} (h : PySem.W.kqdOk 8 d = true) : SeqAt.shaped (PySem.W.kqdP d) = true := by
  have la := PySem.W.kqd_lay 8 d h
  unfold SeqAt.shaped; rw [la.1, Bool.true_and]; exact decide_eq_true (Nat.le_trans la.2 (by decide))
noncomputable def rEqD (K : PySem.W.Frag) : R2 := fun x y H Q => ∃ d e, Dn K H d x ∧ Dn K H e y ∧ PySem.W.kqdOk 8 d = true ∧ PySem.W.kqdOk 8 e = true ∧ ∀ b : Bool, (b = true ↔ d = e) → Q (.bl b) H
theorem op_eqD (hu : X.A.units + 64 < cLine) : OpR X (compareOp .Eq) (rEqD X.K) := by
  intro pins s σ H x y v u Q I rx ry h
  obtain ⟨d, e, hd, he, k1, k2, q⟩ := h
  obtain ⟨as, r1⟩ := dn_reads I 8 d x v hd rx k1
  obtain ⟨bs, r2⟩ := dn_reads I 8 e y u he ry k2
  exact eq_dataH r1 r2 (shaped_ok k1) (shaped_ok k2) hu ⟨.bl _, H, I, rfl, q _ (PySem.W.kqd_eqv 8 d e 8 k1 k2)⟩
end
/-! ### shares -/
noncomputable def ShV (H : Hp) (v : V) (q : Rat) : Prop := ∃ a, v = .ref a ∧ H a = some (.tup [.int q.num, .int (q.den : Int)])
theorem ShV.same {H H' : Hp} {v : V} {q : Rat} (h : ShV H v q) (e : Same H H') : ShV H' v q := by
  obtain ⟨a, rfl, h⟩ := h
  exact ⟨a, rfl, e _ _ h⟩
noncomputable def datSh (q : Rat) : PySem.W.Dat := .tuple [.int q.num, .int (q.den : Int)]
theorem datSh_ok (q : Rat) (n : Nat) : PySem.W.kqdOk (n + 1) (datSh q) = true := by
  cases n <;> simp [datSh, PySem.W.kqdOk]
theorem ShV.dn {K : PySem.W.Frag} {H : Hp} {v : V} {q : Rat} (h : ShV H v q) : Dn K H (datSh q) v := by
  obtain ⟨a, rfl, h⟩ := h
  unfold datSh
  simp only [Dn, DnAll]
  exact ⟨a, _, rfl, SqT.of h, _, _, rfl, rfl, _, _, rfl, rfl, rfl⟩
theorem Same.new {H : Hp} {p : Addr} {o : HO} (h : H p = none) : Same H (upd H p o) := fun b u e => by
  rw [upd_ne (ne_of_none e h)]; exact e
theorem SqT.same {K : PySem.W.Frag} {H H' : Hp} {a : Addr} {xs : List V} (e : Same H H') (h : SqT K H a xs) : SqT K H' a xs := by
  rcases h with (h | ⟨o, h⟩) | h
  · exact .inl (.inl (e _ _ h))
  · exact .inl (.inr ⟨o, e _ _ h⟩)
  · exact .inr h
end Cv

namespace Cv
open PySem PySem.Spec PyProof.Rows L2
/-! ### a def of the text, in one word -/
/-- a def of the module as the top left it -/
structure FunAt (K : PySem.W.Frag) (mg : Str → Option Value) (x : Str) (st : Stmt) (ps : List Str) : Prop where
  ex : ∃ (f : Addr) (fd : FuncData), Fun K x x st f fd ∧ mg x = some (.ref f) ∧ Binds K fd ps []
structure DefOk (P : Program) (w : World) (K : PySem.W.Frag) (mg : Str → Option Value) (base : Heap) (CX : CXT) (k : Nat) (x : Str) (ps : List Str) (sp : Sp) : Prop where
  ex : ∃ (f : Addr) (fd : FuncData), FnOk P w K mg base CX k f fd ps sp ∧ mg x = some (.ref f) ∧ PySem.W.keepIn K (.ref f) = true ∧ Binds K fd ps [] ∧
    ∃ (oc : Value) (od : Option Addr) (osl : Array (Option Value)), K.lookup f = some ⟨oc, od, .func fd, osl⟩
/-- the names that the module leaves to the builtins -/
structure Blt (mg : Str → Option Value) : Prop where
  len : mg "len" = none
  abs : mg "abs" = none
  range : mg "range" = none
  max : mg "max" = none
  min : mg "min" = none
  any : mg "any" = none
  all : mg "all" = none
  sum : mg "sum" = none
  isinstance : mg "isinstance" = none
  int : mg "int" = none
  bool : mg "bool" = none
  tuple : mg "tuple" = none
  list : mg "list" = none
  str : mg "str" = none
  ValueError : mg "ValueError" = none
  zip : mg "zip" = none
  reversed : mg "reversed" = none
  enumerate : mg "enumerate" = none
  sorted : mg "sorted" = none
  dict : mg "dict" = none
section
variable {P : Program} {w : World} {K : PySem.W.Frag} {mg : Str → Option Value} {base : Heap}
theorem FunAt.mk' {x : Str} {st : Stmt} {ps : List Str} {f : Addr} {oc : Value} {od an : Option Addr} {osl : Array (Option Value)} {kV doc pm cdv ct : Value} (hm : mg x = some (.ref f))
    (l : K.lookup f = some ⟨oc, od, .func (PySem.W.fnOf x x (defArgs st) (defBody st) (defScope st) .none kV doc pm an cdv ct), osl⟩)
    (c : PySem.W.codeIn K cdv x = true) (k : PySem.W.keepIn K (.ref f) = true)
    (h : ∀ (kV doc pm : Value) (an : Option Addr) (cdv ct : Value) (us : List Value), us.length = ps.length → bindArgs (PySem.W.fnOf x x (defArgs st) (defBody st) (defScope st) .none kV doc pm an cdv ct) ⟨us, []⟩ = pure (ps.zip us)) : FunAt K mg x st ps := by
  have F := fun_mk (st := st) l c k
  exact ⟨_, _, F, hm, F.binds h⟩
theorem def_ok {x : Str} {st : Stmt} {N ps : List Str} {k : Nat} {sp : Sp} (F : FunAt K mg x st ps) (S : FnScope N ps (defScope st)) (len : ∀ vs H Q E, sp vs H Q E → vs.length = ps.length)
    (hbody : ∀ (f : Addr) (cdv : Value) (A : Around) (outer : List Env) (s : Shared) (H : Hp) (vs : List V) (Q : VK) (E : XK), Room k (A.deeper (envOfC x (defScope st) s.heap.objs.size f cdv)) → sp vs H Q E →
      ∃ t, PSs (cxOf CX0 P w K mg base N x (defScope st) f cdv A outer s H E).nox (defBody st) t ∧ t { nx := fun _ H' => Q .non H', rt := Q } (start N vs) H) : DefOk P w K mg base CX0 (k + 1) x ps sp := by
  obtain ⟨f, fd, F, hm, hb⟩ := F.ex
  exact ⟨f, fd, F.ok S len fun cdv A outer s H vs Q E hr h => hbody f cdv A outer s H vs Q E hr h, hm, F.kp, hb, let ⟨oc, od, _, _, _, _, _, _, osl, _, l, _⟩ := F.ex; ⟨oc, od, osl, l⟩⟩
end
section
variable {X : Cx} {CX : CXT} {k j : Nat} {ps : List Str} {sp : Sp} {E : XK} {x : Str} {p pos : Pos} {e : Expr} {es : List Expr} {t : TA}
noncomputable def tFn (sp : Sp) (E : XK) (t : TA) : TE := fun σ H Q => t σ H fun vs H1 => sp vs H1 Q E
theorem pe_fn (D : DefOk X.prog X.w X.K X.mg X.base CX k x ps sp) (hr : Room j X.A) (hx : Passes CX X E) (ha : PA X (e :: es) t) (hk : k ≤ j := by decide) (hg : Gl X x := by rfl)
    (hdb : (x == ("__debug__" : Str)) = false := by decide) (he : starEach (e :: es) X.env = (false, eval e X.env) :: starEach es X.env := by rfl) (hpl : (backTo pos (starEach es X.env)).any (·.1) = false := by rfl) :
    PE X (.Call (.Name x p) (e :: es) [] pos) (tFn sp E t) := by
  obtain ⟨f, fd, F, hm, kp, hb, _⟩ := D.ex
  intro pins s σ H Q I h
  have q := pe_call (X := X) (p := p) (pos := pos) F (hr.mono hk) hg hm kp hb .nil hx ha hdb he hpl
  refine q pins s σ H Q I ?_
  unfold tCall
  have e : (fun (vs : List V) (H1 : Hp) => sp (vs ++ []) H1 Q E) = fun vs H1 => sp vs H1 Q E := by
    funext vs H1
    rw [List.append_nil]
  rw [e]
  exact h
end
end Cv

namespace Cv
open PySem PySem.Spec PyProof.Rows L2
section
variable {X : Cx}
noncomputable def CMulA (i j : Int) : Prop := CMul i j ∨ CMulB i j
theorem op_mulA : OpR X (binaryOp .Mult) (rI CMulA fun i j => .int (i * j)) := opI fun i j _ _ _ _ _ hc q => by
  rcases hc with hc | ⟨n, m, h1, h2, h3⟩
  · exact mul_int q hc.ok
  · exact mul_int q (IntMulOk.of_le (PySem.intBits_le_iff.mpr h1.lt) (PySem.intBits_le_iff.mpr h2.lt) (by omega))
end
theorem mulL {i j : Int} (h1 : -(2 ^ 64) < i) (h2 : i < 2 ^ 64) : CMulA i j := .inl (.inl ⟨h1, h2⟩)
theorem mulR {i j : Int} (h1 : -(2 ^ 64) < j) (h2 : j < 2 ^ 64) : CMulA i j := .inl (.inr ⟨h1, h2⟩)
theorem mulB {n m : Nat} {i j : Int} (h1 : Sz n i) (h2 : Sz m j) (h : n + m ≤ 100000000 := by decide) : CMulA i j := .inr ⟨n, m, h1, h2, h⟩
/-! ### the promises -/
noncomputable def spGcd : Sp := fun vs H Q _ => ∃ a b : Int, vs = [.int a, .int b] ∧ Q (.int (Int.gcd a b)) H
noncomputable def spShare : Sp := fun vs H Q _ => ∃ t b : Int, vs = [.int t, .int b] ∧ b ≠ 0 ∧ Sz 9000 b ∧ ∀ v H', Same H H' → ShV H' v (Rat.divInt t b) → Q v H'
/-! the law's own helpers -/
noncomputable def spCell (K : PySem.W.Frag) : Sp := fun vs H Q _ => ∃ (a : Addr) (ns : List Int) (k : Int), vs = [.ref a, .int k] ∧ SqL K H a (ns.map V.int) ∧ 0 ≤ k ∧ ∀ z, Q (.int z) H
noncomputable def spStream : Sp := fun vs H Q _ => ∃ c p : Int, vs = [.int c, .int p] ∧ ∀ (l : Addr) (xs : List Int) (H' : Hp), Same H H' → H' l = some (.lst (xs.map V.int)) → xs.length = 24 → (∀ x ∈ xs, 0 ≤ x) → Q (.ref l) H'
noncomputable def spWhole : Sp := fun vs H Q _ => ∃ i : Int, vs = [.int i] ∧ Q (.bl true) H
noncomputable def spPart : Sp := fun vs H Q _ => ∃ a b : Int, vs = [.int a, .int b] ∧ 0 ≤ a ∧ 0 ≤ b ∧ Q (.int (Int.gcd a b)) H
noncomputable def spLShare : Sp := fun vs H Q _ => ∃ t b : Int, vs = [.int t, .int b] ∧ 0 < b ∧ Sz 9000 b ∧ ∀ v H', Same H H' → ShV H' v (Rat.divInt t b) → Q v H'
noncomputable def spIsShare : Sp := fun vs H Q _ => ∃ x q, vs = [x] ∧ ShV H x q ∧ Q (.bl true) H
noncomputable def spLaw (K : PySem.W.Frag) : Sp := fun vs H Q _ => ∃ (a : Addr) (ns : List Int), vs = [.ref a] ∧ SqL K H a (ns.map V.int) ∧ ns.length ≤ 63 ∧ ∀ H', Q (.bl true) H'
/-! ### tests -/
theorem ite_dec {c : Prop} [Decidable c] {A B : Prop} (h1 : c → A) (h2 : ¬ c → B) : if decide c = true then A else B := by
  by_cases h : c
  · rw [if_pos (decide_eq_true h)]; exact h1 h
  · rw [if_neg (by simp [h])]; exact h2 h
theorem ifT {b : Bool} {A B : Prop} (h : b = true) (k : A) : if b = true then A else B := by rw [if_pos h]; exact k
theorem ifF {b : Bool} {A B : Prop} (h : b = false) (k : B) : if b = true then A else B := by rw [if_neg (by rw [h]; decide)]; exact k
theorem ifB {b : Bool} {A B : Prop} (h1 : b = true → A) (h2 : b = false → B) : if b = true then A else B := by
  cases b
  · exact ifF rfl (h2 rfl)
  · exact ifT rfl (h1 rfl)
end Cv
namespace Cv
open PySem PySem.Spec PyProof.Rows L2
/-- the law's function is the one that the top left -/
theorem DefOk.law {P : Program} {w : World} {K : PySem.W.Frag} {mg : Str → Option Value} {base : Heap} {CX : CXT} {k : Nat} {x : Str} {ps : List Str} {sp : Sp} {f : Addr} {fd : FuncData} {oc : Value} {od : Option Addr} {osl : Array (Option Value)}
    (D : DefOk P w K mg base CX k x ps sp) (l : K.lookup f = some ⟨oc, od, .func fd, osl⟩) (hm : mg x = some (.ref f)) : FnOk P w K mg base CX k f fd ps sp := by
  obtain ⟨f', fd', FO, hm', _, _, oc', od', osl', l'⟩ := D.ex
  have e := hm.symm.trans hm'
  cases e
  have e2 := l.symm.trans l'
  have e3 : Data.func fd = Data.func fd' := congrArg (fun (o : Obj) => o.data) (Option.some.inj e2)
  cases e3
  exact FO
theorem walk {l : PySem.W.OpenLaw} {k : Nat} {CX : CXT} {sp : PySem.W.Frag → Sp} {q : Program} {loose : List Str} {XP : (Str → Option Value) → Heap → Prop} {YP : World → Heap → Prop} {d : DefRec} {K : Params → PySem.W.Frag} {x : Str} (hn : l.most = some 63) (hdf : d.params.defaults = []) (hr : Room k callerA)
    (hY : ∀ (w : World) (h : Heap), YP w h → (K w.params).In h)
    (F : ∀ (w : World) (mg : Str → Option Value) (fa : Addr) (h : Heap), (K w.params).In h → h.Ns mainGlobals mg → mg d.name = some (.ref fa) →
      ∃ fd : FuncData, (∀ (s : Shared) (u : Value), BindsTo s fd ⟨[u], []⟩ [(x, u)]) ∧ ∀ (P : Program) (base : Heap), (K w.params).In base → base.Ns mainGlobals mg → FnOk P w (K w.params) mg base CX k fa fd [x] (sp (K w.params)))
    (hsp : ∀ (K : PySem.W.Frag) (H : Hp) (a : Addr) (ns : List Int), ns.length ≤ 63 → Only H → SqL K H a (ns.map V.int) → sp K [.ref a] H (fun v _ => v = .bl true) fun _ _ _ => False)
    (hCX : ∀ (H : Hp) (s : Shared) (e : Value) (s' : Shared), CX [] H s (fun _ _ _ => False) e s' → False) :
    PySem.W.WalkO q loose XP YP l.row.toRowW d [] (fun f vs => PySem.call f vs) :=
  L2.walk_of (n := 63) (k := k) (x := x) (CX := fun _ => CX) (sp := fun w => sp (K w.params)) hn (by decide) hdf hr hY
    (fun w mg fa h a b c => let ⟨fd, h1, h2⟩ := F w mg fa h a b c; ⟨fd, h1, fun base => h2 l.prog base⟩) (fun w H a ns => hsp (K w.params) H a ns) fun _ H s e s' => hCX H s e s'
end Cv

namespace Cv
open PySem PySem.Spec PyProof.Rows L2
/-! small facts for the readings -/
theorem pl {j : Int} (h : 0 < j := by decide) : 0 < j := h
theorem at_map (xs : List Int) (k : Nat) (h : k < xs.length) : atI (xs.map V.int) (k : Int) = some (V.int (xs.getD k 0)) := by
  refine atI_nat ?_
  rw [List.getElem?_map, List.getElem?_eq_getElem h]
  simp [List.getD_eq_getElem?_getD, List.getElem?_eq_getElem h]
theorem at_mapZ (xs : List Int) (k : Int) (h0 : 0 ≤ k) (h : k < (xs.length : Int)) : atI (xs.map V.int) k = some (V.int (xs.getD k.toNat 0)) := by
  have e : k = ((k.toNat : Nat) : Int) := by omega
  have q := at_map xs k.toNat (by omega)
  rw [← e] at q
  exact q
theorem getD_nn {xs : List Int} (h : ∀ x ∈ xs, 0 ≤ x) (k : Nat) : 0 ≤ xs.getD k 0 := by
  rw [List.getD_eq_getElem?_getD]
  cases e : xs[k]? with
  | none => simp
  | some v => exact h v (List.mem_of_getElem? e)
theorem cut_one (xs : List Int) (h : 1 ≤ xs.length) : cutV (xs.map V.int) (some 1) none = (xs.drop 1).map V.int := by
  unfold cutV
  have e : HT.sIx (xs.map V.int).length 0 (some 1) = 1 := by
    have := HT.sIx_nat (xs.map V.int).length 0 1
    rw [List.length_map] at this
    rw [List.length_map]
    exact this.trans (by omega)
  rw [e, HT.sIx_none, ← List.map_drop]
  refine List.take_of_length_le ?_
  rw [List.length_map, List.length_drop, List.length_map]
  omega
theorem atI_lt {α : Type} (xs : List α) (i : Int) (h0 : 0 ≤ i) (h1 : i < (xs.length : Int)) : ∃ v, atI xs i = some v ∧ v ∈ xs := by
  have e : i = ((i.toNat : Nat) : Int) := by omega
  have hl : i.toNat < xs.length := by omega
  refine ⟨xs[i.toNat], ?_, List.getElem_mem hl⟩
  have q := atI_nat (xs := xs) (j := i.toNat) (v := xs[i.toNat]) (List.getElem?_eq_getElem hl)
  rw [← e] at q
  exact q
theorem p30 : (10 : Int) ^ (30 : Int).toNat = 1000000000000000000000000000000 := by decide
theorem pos30 : (0 : Int) < (10 : Int) ^ (30 : Int).toNat := by rw [p30]; decide
theorem sz_of {n : Nat} {x : Int} {b : Nat} (h1 : x.natAbs ≤ b) (h2 : b < 2 ^ n) : Sz n x := ⟨Nat.lt_of_le_of_lt h1 h2⟩
/-- a drawn top -/
theorem gcd_abs (t b : Int) : Int.gcd (if t < 0 then -t else t) b = Int.gcd t b := by
  split
  · rw [Int.neg_gcd]
  · rfl
theorem emod_gcd (a b : Int) (hb : 0 < b) : Int.gcd b (a % b) = Int.gcd a b := by
  have := gcd_step a b
  rw [Int.fmod_eq_emod_of_nonneg a (by omega)] at this
  exact this
theorem Sz.million {b : Int} (h0 : 1 ≤ b) (h1 : b ≤ 1000000) : Sz 20 b := sz_of (b := 1000000) (by omega) (by decide)
theorem den_pos' (q : Rat) : (1 : Int) ≤ (q.den : Int) := by have := q.den_pos; omega
theorem dec_int_ne {a b : Int} (h : a ≠ b) : (!decide (V.int a = V.int b)) = true := by simp [h]
theorem kit_ii (K : PySem.W.Frag) : PySem.W.kitOne K (.type "int") (.type "int") = some true := rfl
theorem kit_ib (K : PySem.W.Frag) : PySem.W.kitOne K (.type "int") (.type "bool") = some false := rfl
theorem kit_tt (K : PySem.W.Frag) : PySem.W.kitOne K (.type "tuple") (.type "tuple") = some true := rfl
theorem kit_bb (K : PySem.W.Frag) : PySem.W.kitOne K (.type "bool") (.type "bool") = some true := rfl
theorem kit_ll (K : PySem.W.Frag) : PySem.W.kitOne K (.type "list") (.type "list") = some true := rfl
end Cv

namespace Cv
open PySem PySem.Spec PyProof.Rows L2
/-! ### an exception on its way, with none ahead of it -/
structure TrX (h B : Heap) (e : Addr) (cls fl : Value) : Prop where
  ex : ∃ (oe : Obj) (vs : Array Value) (T : Addr) (oT : Obj) (ts : Array Value), (h.get? e = some oe ∧ oe.cls = cls ∧ oe.data = .fields vs ∧ oe.dict = none) ∧ (vs[2]? = some .none ∧ vs[1]? = some (.ref T)) ∧ (B.get? T = none ∧ T ≠ e) ∧ h.get? T = some oT ∧ oT.data = .fields ts ∧ ts[3]? = some fl
structure FlyX (B : Heap) (l : List Env) (e : Addr) (cls fl : Value) (h : Heap) : Prop where
  stays : B.StaysIn h
  new : B.get? e = none
  frames : h.FunFrames B l
  tr : TrX h B e cls fl
theorem FlyX.there {B h : Heap} {l : List Env} {e : Addr} {cls fl : Value} (x : FlyX B l e cls fl h) : ∃ o vs, h.get? e = some o ∧ o.cls = cls ∧ o.data = .fields vs ∧ vs[2]? = some .none ∧ o.dict = none := by
  obtain ⟨o, vs, _, _, _, ⟨a, b, c, f⟩, ⟨d, _⟩, _⟩ := x.tr.ex
  exact ⟨o, vs, a, b, c, d, f⟩
section
variable {M : Model} {A : Around} {E : Value → Shared → Prop} {s : Shared} {B : Heap} {env : Env} {outer : List Env} {L e : Addr}
end
end Cv

namespace Cv
open PySem PySem.Spec PyProof.Rows L2
/-! ### an exception that flies -/
section
variable {X : Cx} {pins : List (Addr × Obj)} {σ : L2.St} {H H' : Hp} {s : Shared}
end
section
variable {P : Program} {w : World} {K : PySem.W.Frag} {mg : Str → Option Value} {base : Heap} {N : List Str} {qual : Str} {scope : Scope} {f : Addr} {cd : Value} {A : Around} {outer : List Env} {s : Shared} {H : Hp} {E : XK}
end

/-! ### a def whose exceptions fly on -/
section
variable {P : Program} {w : World} {K : PySem.W.Frag} {mg : Str → Option Value} {base : Heap}
end
/-! ### the classes of refusals -/
section
variable {X : Cx} {x : Str} {C : Addr} {np cpos pos : Pos} {E : XK} {e₀ : Expr} {ta : TA}
end

/-! ### try, except C as n -/
section
variable {X : Cx} {pins pins' : List (Addr × Obj)} {σ : L2.St} {H H' : Hp} {s : Shared}
end
section
variable {X : Cx}
end
end Cv

namespace Cv
open PySem PySem.Spec PyProof.Rows L2
/-! ### isinstance of a caught exception -/
section
variable {X : Cx}
end
end Cv
namespace Cv
open PySem PySem.Spec PyProof.Rows L2
/-! ### promises with refusals -/
theorem Bd.zero : Bd 4000 (0 : Rat) := ⟨Sz.zero.mono (by decide), Sz.one.mono (by decide)⟩
theorem Bd.one : Bd 4000 (1 : Rat) := ⟨Sz.one.mono (by decide), Sz.one.mono (by decide)⟩
end Cv

namespace Cv
open PySem PySem.Spec PyProof.Rows L2
/-! ### a list comprehension: one clause, no test -/
noncomputable abbrev cxComp (X : Cx) (scope : Scope) (cl : List (Str × Addr)) (Nc : List Str) (C : Addr) (s0 : Shared) (H0 : Hp) (fp : List Addr) : Cx where
  prog := X.prog
  w := X.w
  K := X.K
  mg := X.mg
  base := X.base
  A := X.A
  N := Nc
  s₀ := s0
  H₀ := H0
  env := compEnvC scope cl C X.env
  outer := X.stack
  stack := X.stack
  ex := fp
  fn := fun _ => false
  calm := X.calm
  pn := []
  xe := fun _ _ => False
noncomputable def capd (σ : L2.St) (ix : List Nat) : L2.St := ix.map fun j => (σ[j]?).getD none
section
variable {X : Cx}
end
end Cv

namespace Cv
open PySem PySem.Spec PyProof.Rows L2
/-! ### closures of a comprehension's block -/
theorem closure_go {env : Env} : ∀ (names : List (Str × NameKind)) (acc : List (Str × Addr)), (∀ y ∈ names, y.2 = .free → ∃ c, env.cells.lookup y.1 = some c) →
    ∃ cl, (forIn names acc fun (x : Str × NameKind) (r : List (Str × Addr)) => if (x.2 == NameKind.free) = true then (do let c ← cellOf env x.1; pure (ForInStep.yield ((x.1, c) :: r))) else pure (ForInStep.yield r) : Sem (List (Str × Addr))) = pure cl ∧
      ((∀ y c, acc.lookup y = some c → env.cells.lookup y = some c) → ∀ y c, cl.lookup y = some c → env.cells.lookup y = some c) ∧
      (∀ y, (∃ c, acc.lookup y = some c) → ∃ c, cl.lookup y = some c) ∧ ∀ y ∈ names, y.2 = .free → ∃ c, cl.lookup y.1 = some c
  | [], acc, _ => ⟨acc, by simp, fun h => h, fun _ h => h, fun _ h => nomatch h⟩
  | (n, k) :: r, acc, h => by
    rw [List.forIn_cons]
    by_cases hk : k = .free
    · subst hk
      obtain ⟨c, hc⟩ := h (n, .free) (.head _) rfl
      obtain ⟨cl, e, h1, h2, h3⟩ := closure_go (env := env) r ((n, c) :: acc) fun y hy => h y (.tail _ hy)
      refine ⟨cl, ?_, fun ha => h1 fun y d hd => ?_, fun y hy => h2 y ?_, fun y hy hf => ?_⟩
      · have ec : cellOf env n = pure c := by
          unfold cellOf
          have hc' : env.cells.lookup n = some c := hc
          rw [hc']
        simp only [ec]
        exact e
      · rw [List.lookup_cons] at hd
        by_cases hy : y == n
        · rw [hy] at hd
          cases hd
          rw [eq_of_beq hy]; exact hc
        · rw [Bool.not_eq_true] at hy
          rw [hy] at hd
          exact ha y d hd
      · rw [List.lookup_cons]
        by_cases hyn : y == n
        · rw [hyn]; exact ⟨_, rfl⟩
        · rw [Bool.not_eq_true] at hyn
          rw [hyn]; exact hy
      · rcases List.mem_cons.mp hy with rfl | hy
        · exact h2 n ⟨c, by rw [List.lookup_cons]; simp⟩
        · exact h3 y hy hf
    · obtain ⟨cl, e, h1, h2, h3⟩ := closure_go (env := env) r acc fun y hy => h y (.tail _ hy)
      refine ⟨cl, ?_, h1, h2, fun y hy hf => ?_⟩
      · have hk' : (k == NameKind.free) = false := by
          cases k <;> first | rfl | exact absurd rfl hk
        simp only [hk']
        exact e
      · rcases List.mem_cons.mp hy with rfl | hy
        · exact absurd hf hk
        · exact h3 y hy hf
theorem closure_of {scope : Scope} {env : Env} (h : ∀ y ∈ scope.names, y.2 = .free → ∃ c, env.cells.lookup y.1 = some c) :
    ∃ cl, closureFor scope env = pure cl ∧ (∀ y c, cl.lookup y = some c → env.cells.lookup y = some c) ∧ ∀ y ∈ scope.names, y.2 = .free → ∃ c, cl.lookup y.1 = some c := by
  obtain ⟨cl, e, h1, _, h3⟩ := closure_go (env := env) scope.names [] h
  refine ⟨cl, ?_, h1 (fun _ _ z => nomatch z), h3⟩
  unfold closureFor
  have := congrArg (fun (m : Sem (List (Str × Addr))) => m >>= fun r => pure r) e
  first
    | exact e
    | simpa using e
    | (simp only [bind_pure] at this ⊢; exact this)
/-- the names of the block, by their kinds in the def around it -/
theorem relabel_lookup {env : Env} : ∀ {names : List (Str × NameKind)} {y : Str} {k : NameKind}, (∀ z ∈ names, z.2 ≠ .cell) →
    (names.map fun (n, k) => if (k == NameKind.free && env.scope.kind == .function && env.kindOf n == some .cell) then (n, NameKind.cell) else (n, k)).lookup y = some k → (k = .cell ∨ k = .free) → (y, NameKind.free) ∈ names
  | [], _, _, _, h, _ => by simp at h
  | (n, q) :: r, y, k, hc, h, hk => by
    rw [List.map_cons] at h
    by_cases hy : y == n
    · have e : y = n := eq_of_beq hy
      subst e
      by_cases ht : (q == NameKind.free && env.scope.kind == .function && env.kindOf y == some .cell) = true
      · have : q = .free := by
          simp only [Bool.and_eq_true] at ht
          exact eq_of_beq ht.1.1
        rw [this]; exact .head _
      · simp only [ht] at h
        rw [List.lookup_cons] at h
        simp at h
        subst h
        rcases hk with rfl | rfl
        · exact absurd rfl (hc _ (.head _))
        · exact .head _
    · rw [Bool.not_eq_true] at hy
      refine .tail _ (relabel_lookup (env := env) (fun z hz => hc z (.tail _ hz)) ?_ hk)
      by_cases ht : (q == NameKind.free && env.scope.kind == .function && env.kindOf n == some .cell) = true
      · simp only [ht] at h
        rw [List.lookup_cons] at h
        have h' := h
        (simp [hy] at h'; simpa using h')
      · simp only [ht] at h
        rw [List.lookup_cons] at h
        have h' := h
        (simp [hy] at h'; simpa using h')
section
variable {prog : Program} {w : World} {A : Around} {R : Result → Shared → Prop} {s : Shared}
theorem compLoop_listG {elt target iter : Expr} {scope : Scope} {pos : Pos} {it acc : Value} {env : Env} (I : Nat → Shared → Prop)
    (turn : ∀ n s, I n s → wpAny (model prog w) A (pyNext it) (fun r s₁ => match r with
      | none => R (.ok .next) s₁
      | some v => wpAny (model prog w) A (letOwnedTupleGo target it v) (fun _ s₁' => wpAny (model prog w) A (assign target env v) (fun _ s₂ => wpAny (model prog w) A (eval elt env) (fun x s₃ =>
          wpAny (model prog w) A (call (.builtin "list.append") [acc, x]) (fun _ s₄ => ∃ m, m < n ∧ I m s₄) (notedBy (model prog w) A env fun e s' => R (.error e) s') s₃)
          (notedBy (model prog w) A env fun e s' => R (.error e) s') s₂) (notedBy (model prog w) A env fun e s' => R (.error e) s') s₁') (notedBy (model prog w) A env fun e s' => R (.error e) s') s₁) (notedBy (model prog w) A env fun e s' => R (.error e) s') s)
    (n : Nat) (h : I n s) :
    codeAny (model prog w) A (.compLoop (.ListComp elt [⟨target, iter, [], 0⟩] scope pos) 0 it acc env) R s := by
  refine codeAny_loop rfl I (fun n s hI => ?_) n h
  show wpAny _ _ ((compTurn (.ListComp elt [⟨target, iter, [], 0⟩] scope pos) 0 it acc env).onRaise (fun x => do noteFrame x env; theTreesLotGoes x)) _ _ s
  refine wpAny_noted ?_
  rw [compTurn_list1]
  refine wpAny_bind (wpAny_standAt (wpAny_bind (wpAny_mono (turn n s hI) (fun r s₁ h₁ => ?_) fun _ _ h' => h')))
  cases r with
  | none => exact wpAny_pure h₁
  | some v =>
    refine wpAny_bind (wpAny_mono h₁ (fun _ s₁' h₁' => ?_) fun _ _ h' => h')
    exact wpAny_bind (wpAny_mono h₁' (fun _ s₂ h₂ => wpAny_bind (wpAny_bind (wpAny_mono h₂ (fun x s₃ h₃ => wpAny_bind (wpAny_mono h₃
      (fun _ s₄ h₄ => wpAny_pure (wpAny_pure ⟨rfl, h₄⟩)) fun _ _ h' => h')) fun _ _ h' => h'))) fun _ _ h' => h')
end
noncomputable def CompGoal (k : Nat) (J : It) (H1 : Hp) (g : TG) (te : TE) (cs : L2.St) (Q : VK) : Prop := ∀ D, H1 D = none → ∃ W : Nat → Nat → List V → Hp → Prop, (∃ m, W 0 m [] (upd H1 D (.lst []))) ∧
  ∀ i m ys H2, W i m ys H2 → (J.stop i H2 ∧ Q (.ref D) H2) ∨ (J.go i H2 ∧ ∀ x H', J.yld i H2 x H' → ∀ own : L2.St, own.length = k → g x (own ++ cs) H' fun σ2 H4 => (∃ own' : L2.St, own'.length = k ∧ σ2 = own' ++ cs) ∧
    te σ2 H4 fun v H3 => H3 D = some (.lst ys) ∧ ys.length < sizeLine ∧ ∃ m', m' < m ∧ W (i + 1) m' (ys ++ [v]) (upd H3 D (.lst (ys ++ [v]))))
noncomputable def tCompG (k : Nat) (wi : TI) (g : TG) (te : TE) (ix : List Nat) : TE := fun σ H Q => wi σ H fun J H1 => CompGoal k J H1 g te (capd σ ix) Q
section
variable {X : Cx}
theorem comp_core {tg elt iter : Expr} {os : List Str} {pos ipos : Pos} {scope : Scope} {wi : TI} {g : TG} {te : TE} {caps : List (Nat × Str)} {pins : List (Addr × Obj)} {s : Shared} {σ : L2.St} {H : Hp} {Q : VK} {use : Option (Value → Sem Unit)} {R : Value → Shared → Prop} (hi : PI X tg iter wi)
    (hg : ∀ cl C s0 H0 fp, PG (cxComp X scope cl (os ++ caps.map (·.2)) C s0 H0 fp) tg g)
    (he : ∀ cl C s0 H0 fp, PE (cxComp X scope cl (os ++ caps.map (·.2)) C s0 H0 fp) elt te)
    (hfree : ∀ y ∈ scope.names, y.2 = .free → X.env.kindOf y.1 = some .cell)
    (hcap : ∀ p ∈ caps, X.N[p.1]? = some p.2 ∧ X.env.kindOf p.2 = some .cell ∧ ((relabel scope X.env).names.lookup p.2 = some .cell ∨ (relabel scope X.env).names.lookup p.2 = some .free))
    (hkind : scope.kind = .function) (hcell : ∀ y ∈ scope.names, y.2 ≠ .cell)
    (hnames : ∀ y ∈ scope.names, y.2 = .local → scope.names.lookup y.1 = some .local) (hc : X.calm = true) (hfs : ∀ v, foldedSetIterable iter X.env v = pure v)
    (hfin : ∀ D C H5 s6 m6, Inv X pins σ H5 s6 → s6.heap.Ns C m6 → FpOk X pins H5 C → Q (.ref D) H5 → compPost (model X.prog X.w) X.A X.xe use R (.ref D) C (.ok .next) s6)
    (I : Inv X pins σ H s) (h : tCompG os.length wi g te (caps.map (·.1)) σ H Q) :
    wpAny (model X.prog X.w) X.A (comprehension (.ListComp elt [⟨tg, iter, [], 0⟩] scope pos) scope X.env ipos (newList []) false (eval iter X.env) use) R X.xe s := by
  obtain ⟨cl, hclos, hcl, hin⟩ := closure_of (scope := scope) (env := X.env) fun y hy hf => I.ok.has y.1 (.inl (hfree y hy hf))
  have hhas : ∀ y, ((relabel scope X.env).names.lookup y = some .cell ∨ (relabel scope X.env).names.lookup y = some .free) → ∃ c, cl.lookup y = some c := fun y hy => by
    rcases hy with hy | hy
    · exact hin (y, .free) (relabel_lookup (env := X.env) hcell hy (.inl rfl)) rfl
    · exact hin (y, .free) (relabel_lookup (env := X.env) hcell hy (.inr rfl)) rfl
  refine wpAny_comprehension_free (use := use) rfl hfs hclos hkind hnames ?_
  refine thn (hi pins s σ H _ I h) fun v s1 h1 => thn h1 fun itv s2 h2 => ?_
  obtain ⟨it, fp, tn, J, H1, rfl, I2, T, st2, f2, rd⟩ := h2
  refine wpAny_newObj_type ?_ (by show 0 ≤ sizeLine; decide)
  have hD : H1 s2.heap.objs.size = none := I2.hok.fresh (Nat.le_refl _)
  obtain ⟨W, ⟨m0, w0⟩, turn⟩ := rd s2.heap.objs.size hD
  generalize eD : s2.heap.objs.size = D at hD w0 turn
  have I3 : Inv X pins σ (upd H1 D (.lst [])) { s2 with heap := s2.heap.push { cls := .type "list", data := .seq ([] : List Value).toArray } } := by
    subst eD
    exact I2.laid (t' := s2.toks) (fun b u e => Heap.get?_push_of_some _ e) (Nat.le_refl _) ⟨Nat.zero_le _, [], 0, .nil, Heap.get?_push_size _ rfl⟩
  generalize e3 : ({ s2 with heap := s2.heap.push { cls := .type "list", data := .seq ([] : List Value).toArray } } : Shared) = s3 at I3
  have hs3 : s3.heap.objs.size = D + 1 := by rw [← e3, ← eD]; simp
  have k23 : ∀ b o, s2.heap.get? b = some o → s3.heap.get? b = some o := fun b o e => by rw [← e3]; exact Heap.get?_push_of_some _ e
  refine wpAny_newFunctionEnv hcell (by intro y hy; simp at hy) (fun h4 hn4 hs4 => ?_) hkind
  have k34 : ∀ b o, s3.heap.get? b = some o → h4.get? b = some o := fun b o e => (hs4.2 b (Nat.ne_of_lt (Heap.lt_size e))).trans (Heap.get?_push_of_some _ e)
  generalize eC : s3.heap.objs.size = C at hn4 hs4
  have hfpC : ∀ b ∈ fp, b ≠ C := fun b hb z => by
    obtain ⟨o, e, _⟩ := T.obj 0 _ st2 b hb
    have h1 := Heap.lt_size e
    rw [z, ← eC, hs3, eD] at h1
    exact absurd h1 (Nat.not_lt.mpr (Nat.le_succ D))
  have hfps : ∀ b ∈ fp, b ∉ frs X.stack := fun b hb z => by
    rcases List.mem_cons.mp (I2.stkSub b z) with q | q
    · exact (f2 b hb).2.1 q
    · exact (f2 b hb).2.2.1 q
  have hfpD : ∀ b ∈ fp, b ≠ D := fun b hb z => by
    obtain ⟨o, e, _⟩ := T.obj 0 _ st2 b hb
    have h1 := Heap.lt_size e
    rw [z, eD] at h1
    exact Nat.lt_irrefl _ h1
  have okc : (cxComp X scope cl (os ++ caps.map (·.2)) C s3 (upd H1 D (.lst [])) fp).Ok := by
    refine ⟨I3.ok.mod, hkind, I3.ok.glob, I3.ok.blt, Nat.le_of_eq eC, fun y z c h1 h2 => I3.ok.inj y z c (hcl y c h1) (hcl z c h2), fun y hy => hhas y hy, fun y c hf => absurd hf Bool.false_ne_true, I3.ok.hd, I3.ok.frames, .inl rfl,
      fun b hb => ⟨hfpC b hb, fun y c e => (f2 b hb).2.2.2.2.1 y c (hcl y c e)⟩, I3.bs, Nat.le_trans I3.ok.bsz I3.sz, fun b o e hb => ?_, fun b hb => hfps b hb, I3.stack, I3.stkFree⟩
    rcases (f2 b hb).2.2.2.1 with z | z
    · exact I3.ok.noex b o e z
    · exact Nat.lt_irrefl _ (Nat.lt_of_lt_of_le (Heap.lt_size (I3.ok.bs b o e).1) z)
  have capS : (capd σ (caps.map (·.1))).length = caps.length := by unfold capd; rw [List.length_map, List.length_map]
  have Ic : Inv (cxComp X scope cl (os ++ caps.map (·.2)) C s3 (upd H1 D (.lst [])) fp) [] (List.replicate os.length none ++ capd σ (caps.map (·.1))) (upd H1 D (.lst [])) { s3 with heap := h4, toks := s3.toks + ([] : List (Str × Value)).length } := by
    refine ⟨okc, rfl, I3.bare, Un.kept k34, ⟨_, hn4, fun i y v e1 e2 e3' => ?_⟩, fun y c e => ?_, I3.hok.fresh (Nat.le_of_eq eC), fun y c e => I3.freeC y c (hcl y c e), fun p hp => absurd hp (by simp), I3.hok.kept k34, ?_⟩
    · by_cases hik : i < os.length
      · rw [List.getElem?_append_left (by rw [List.length_replicate]; exact hik), List.getElem?_replicate] at e2
        split at e2 <;> cases e2
      · have e1' : (caps.map (·.2))[i - os.length]? = some y := by
          have z : (os ++ caps.map (·.2))[i]? = some y := e1
          rw [List.getElem?_append_right (by omega)] at z
          exact z
        have e2' : (capd σ (caps.map (·.1)))[i - os.length]? = some (some v) := by
          rw [List.getElem?_append_right (by rw [List.length_replicate]; omega), List.length_replicate] at e2
          exact e2
        generalize i - os.length = i at e1' e2'
        rw [List.getElem?_map] at e1'
        unfold capd at e2'
        rw [List.getElem?_map, List.getElem?_map] at e2'
        cases q : caps[i]? with
        | none => rw [q] at e1'; cases e1'
        | some p =>
          rw [q] at e1' e2'
          have ey : p.2 = y := Option.some.inj e1'
          have ev : (σ[p.1]?).getD none = some v := Option.some.inj e2'
          have es : σ[p.1]? = some (some v) := by
            cases z : σ[p.1]? with
            | none => rw [z] at ev; cases ev
            | some w' => rw [z] at ev; exact congrArg some ev
          obtain ⟨hN, hk, hv⟩ := hcap p (List.mem_of_getElem? q)
          obtain ⟨m, _, hl⟩ := I3.loc
          obtain ⟨u, r, lk⟩ := hl p.1 p.2 v hN es (.inr (.inl hk))
          rw [ey] at hk hv lk
          refine ⟨u, r, .inr ⟨hv, ?_⟩⟩
          obtain ⟨c, hc'⟩ := hhas y hv
          rcases lk with ⟨z, _⟩ | ⟨_, c2, z, ic⟩
          · rw [hk] at z; cases z
          · have ec := (hcl y c hc').symm.trans z
            cases ec
            obtain ⟨o, ho, hd⟩ := ic
            exact ⟨c, hc', o, k34 _ _ ho, hd⟩
    · obtain ⟨v, o, ho, hd⟩ := I3.cell y c (hcl y c e)
      exact ⟨v, o, k34 _ _ ho, hd⟩
    · show (List.replicate os.length (none : Option V) ++ capd σ (caps.map fun p => p.1)).length = (os ++ caps.map fun p => p.2).length
      rw [List.length_append, List.length_append, List.length_replicate, capS, List.length_map]
  have fpc : ∀ H', (∀ b ∈ fp, H' b = none) → ∀ b ∈ fp, FpOk (cxComp X scope cl (os ++ caps.map (·.2)) C s3 (upd H1 D (.lst [])) fp) [] H' b := fun H' hn b hb =>
    ⟨hn b hb, hfpC b hb, hfps b hb, .inl hb, fun y c e => (f2 b hb).2.2.2.2.1 y c (hcl y c e), fun p hp => absurd hp (by simp)⟩
  have st4 : tn 0 h4 := T.keep _ _ _ (T.keep _ _ _ st2 fun b _ o e => k23 b o e) fun b _ o e => k34 b o e
  have fp0 : ∀ b ∈ fp, (upd H1 D (.lst [])) b = none := fun b hb => by rw [upd_ne (hfpD b hb)]; exact (f2 b hb).1
  have loop : codeAny (model X.prog X.w) X.A (.compLoop (.ListComp elt [⟨tg, iter, [], 0⟩] scope pos) 0 (.ref it) (.ref D) (compEnvC scope cl C X.env)) (compPost (model X.prog X.w) X.A X.xe use R (.ref D) C)
      { s3 with heap := h4, toks := s3.toks + ([] : List (Str × Value)).length } := by
    refine compLoop_listG (fun n s' => ∃ i ys own H', own.length = os.length ∧ Inv (cxComp X scope cl (os ++ caps.map (·.2)) C s3 (upd H1 D (.lst [])) fp) [] (own ++ capd σ (caps.map (·.1))) H' s' ∧ tn i s'.heap ∧ (∀ b ∈ fp, H' b = none) ∧ W i n ys H') ?_ m0 ⟨0, [], List.replicate os.length none, _, List.length_replicate, Ic, st4, fp0, w0⟩
    rintro n s5 ⟨i, ys, own, H5, ho5, I5, st5, fr5, w5⟩
    rcases turn i n ys H5 w5 with ⟨stop, qn⟩ | ⟨go, step⟩
    · refine thn (T.done (cxComp X scope cl (os ++ caps.map (·.2)) C s3 (upd H1 D (.lst [])) fp) rfl rfl rfl hc i [] s5 _ H5 _ I5 (fpc H5 fr5) st5 stop) fun r s6 ⟨hr, I6⟩ => ?_
      subst hr
      obtain ⟨m6, hn6, _⟩ := I6.loc
      have hs' : Heap.SameBut C s6.heap s6.heap := ⟨rfl, fun _ _ => rfl⟩
      generalize eh' : s6.heap = h' at hs'
      have hs' : Heap.SameBut C s6.heap h' := by rw [eh']; exact hs'
      have neC : ∀ b o, s3.heap.get? b = some o → b ≠ C := fun b o e => Nat.ne_of_lt (eC ▸ Heap.lt_size e)
      have ns : ∀ b o, s2.heap.get? b = some o → b ≠ D := fun b o e => Nat.ne_of_lt (eD ▸ Heap.lt_size e)
      have B := I6.base
      have uu : Un (frs X.stack) fp H1 H5 s2.heap h' := by
        refine ⟨fun b o e nn hb hf => ?_, fun b o e nn hb hf => ?_, fun b o e nn hf => ?_, fun b o e hf => ?_, fun b xs e => ?_, fun b o u' e => ?_, fun b ps e => ?_⟩
        · exact (hs'.2 b (neC b o (k23 b o e))).trans (B.keep b o (k23 b o e) (by show (upd H1 D _) b = none; rw [upd_ne (ns b o e)]; exact nn) hb hf)
        · obtain ⟨sl, z⟩ := B.slot b o (k23 b o e) (by show (upd H1 D _) b = none; rw [upd_ne (ns b o e)]; exact nn) hb hf
          exact ⟨sl, (hs'.2 b (neC b o (k23 b o e))).trans z⟩
        · exact B.free b o (k23 b o e) (by show (upd H1 D _) b = none; rw [upd_ne (ns b o e)]; exact nn) hf
        · obtain ⟨o', z⟩ := B.there b o (k23 b o e) hf
          exact ⟨o', (hs'.2 b (neC b o (k23 b o e))).trans z⟩
        · exact B.tups b xs (by show (upd H1 D _) b = _; rw [upd_ne (ne_of_none e hD)]; exact e)
        · exact B.frzs b o u' (by show (upd H1 D _) b = _; rw [upd_ne (ne_of_none e hD)]; exact e)
        · exact B.tbls b ps (by show (upd H1 D _) b = _; rw [upd_ne (ne_of_none e hD)]; exact e)
      have hok' : HOk X.prog X.w H5 h' := fun b o e => by
        refine (I6.hok b o e).stay (fun c' u' hc' z => (hs'.2 c' fun zz => ?_).trans z) (fun _ z => z) fun _ _ z => z
        have fr : H5 C = none := I6.free
        rcases hc' with hc' | hc'
        · rw [← zz, hc', e] at fr; cases fr
        · rw [← zz, hc'] at fr; cases fr
      have ho6 : s6.os = s2.os := I6.os.trans (by show s3.os = s2.os; rw [← e3])
      subst eh'
      have hC2 : s2.heap.objs.size ≤ C := by rw [← eC, hs3, eD]; exact Nat.le_succ D
      exact hfin D C H5 s6 m6 (I2.call' (s' := s6) (ch := fp) ho6 uu hok' I6.bare (fun b hb => ⟨(f2 b hb).2.2.2.1, (f2 b hb).2.1, (f2 b hb).2.2.2.2.1, (f2 b hb).2.2.2.2.2⟩)) hn6 (I2.fpOk hC2 I6.free) qn
    · refine thn (T.item (cxComp X scope cl (os ++ caps.map (·.2)) C s3 (upd H1 D (.lst [])) fp) rfl rfl rfl hc i [] s5 _ H5 _ I5 (fpc H5 fr5) st5 go) fun r s6 ⟨u, hr, h6⟩ => ?_
      subst hr
      refine (thn h6 fun _ s7 ⟨y, H7, I7, r7, y7, st7, fr7⟩ => ?_)
      have I7' := I7.pinned (fpc H7 fr7) (T.obj _ _ st7)
      refine wpAny_mono (hg cl C s3 _ fp _ s7 _ H7 y u _ I7' r7 (step y H7 y7 own ho5)) (fun _ s8 ⟨σ8, H8, I8, ⟨own', ho8, e8⟩, q8⟩ => ?_) fun _ _ z => z.elim
      subst e8
      refine wpAny_mono (he cl C s3 _ fp _ s8 _ H8 _ I8 q8) (fun xv s9 ⟨v9, H9, I9, r9, d9, l9, m9, lt9, w9⟩ => ?_) fun _ _ z => z.elim
      refine wpAny_mono (mt_append (X := (cxComp X scope cl (os ++ caps.map (·.2)) C s3 (upd H1 D (.lst [])) fp)) _ s9 _ H9 (.ref D) [v9] (.ref D) [xv] (fun _ H10 => H10 = upd H9 D (.lst (ys ++ [v9]))) I9 rfl (.cons r9 .nil) ⟨D, ys, v9, rfl, rfl, d9, l9, rfl⟩) (fun _ s10 ⟨_, H10, I10, _, e10⟩ => ?_) fun _ _ z => z.elim
      subst e10
      refine ⟨m9, lt9, i + 1, ys ++ [v9], own', _, ho8, I10.unpinned, T.keep _ _ _ st7 fun b hb o e => (I10.pin (b, o) (List.mem_append_right _ (List.mem_append_right _ (mem_pinsAt hb e)))).1, fun b hb => ?_, w9⟩
      obtain ⟨o, e, _⟩ := T.obj _ _ st7 b hb
      exact (I10.pin (b, o) (List.mem_append_right _ (List.mem_append_right _ (mem_pinsAt hb e)))).2.1
  exact codeAny_compStart_list loop (T.self _ 0 _ _ _ st4 loop)

theorem pe_compG {tg elt iter : Expr} {os : List Str} {pos : Pos} {scope : Scope} {wi : TI} {g : TG} {te : TE} {caps : List (Nat × Str)} (hi : PI X tg iter wi)
    (hg : ∀ cl C s0 H0 fp, PG (cxComp X scope cl (os ++ caps.map (·.2)) C s0 H0 fp) tg g)
    (he : ∀ cl C s0 H0 fp, PE (cxComp X scope cl (os ++ caps.map (·.2)) C s0 H0 fp) elt te)
    (hfree : ∀ y ∈ scope.names, y.2 = .free → X.env.kindOf y.1 = some .cell)
    (hcap : ∀ p ∈ caps, X.N[p.1]? = some p.2 ∧ X.env.kindOf p.2 = some .cell ∧ ((relabel scope X.env).names.lookup p.2 = some .cell ∨ (relabel scope X.env).names.lookup p.2 = some .free))
    (hkind : scope.kind = .function) (hcell : ∀ y ∈ scope.names, y.2 ≠ .cell)
    (hnames : ∀ y ∈ scope.names, y.2 = .local → scope.names.lookup y.1 = some .local) (hc : X.calm = true) (hfs : ∀ v, foldedSetIterable iter X.env v = pure v) :
    PE X (.ListComp elt [⟨tg, iter, [], 0⟩] scope pos) (tCompG os.length wi g te (caps.map (·.1))) := by
  intro pins s σ H Q I h
  rw [eval_ListComp]
  refine comp_core (Q := Q) (use := none) (R := EP X pins σ Q) hi hg he hfree hcap hkind hcell hnames hc hfs (fun D C H5 s6 m6 I6 n6 f6 q6 => ?_) I h
  refine ⟨m6, n6, fun h' hs' => ⟨.ref D, H5, ?_, rfl, q6⟩⟩
  exact I6.turned (t' := s6.toks) (fun b o hb e => (hs'.2 b hb).trans e) f6.1 f6.2.1 f6.2.2.2.1 f6.2.2.2.2.1 f6.2.2.2.2.2
end
end Cv

namespace Cv
open PySem PySem.Spec PyProof.Rows L2
/-! ### what a comprehension asks of the scopes, by one reckoning -/
noncomputable def compOk (N : List Str) (sc scope : Scope) (caps : List (Nat × Str)) : Bool :=
  decide (scope.kind = .function) && scope.names.all (fun y => decide (y.2 ≠ .cell) && (!decide (y.2 = .free) || decide (sc.names.lookup y.1 = some .cell)) && (!decide (y.2 = .local) || decide (scope.names.lookup y.1 = some .local))) &&
    caps.all fun p => decide (N[p.1]? = some p.2) && decide (sc.names.lookup p.2 = some .cell) && decide (scope.names.lookup p.2 = some .free)
theorem relabel_free {env : Env} : ∀ {names : List (Str × NameKind)} {y : Str}, names.lookup y = some .free →
    (names.map fun (n, k) => if (k == NameKind.free && env.scope.kind == .function && env.kindOf n == some .cell) then (n, NameKind.cell) else (n, k)).lookup y = some .cell ∨
    (names.map fun (n, k) => if (k == NameKind.free && env.scope.kind == .function && env.kindOf n == some .cell) then (n, NameKind.cell) else (n, k)).lookup y = some .free
  | [], _, h => by simp at h
  | (n, q) :: r, y, h => by
    rw [List.lookup_cons] at h
    rw [List.map_cons]
    by_cases hy : y == n
    · rw [hy] at h
      cases h
      by_cases ht : (NameKind.free == NameKind.free && env.scope.kind == .function && env.kindOf n == some .cell) = true
      · left; simp only [ht]; rw [List.lookup_cons]; simp [eq_of_beq hy]
      · right; simp only [ht]; rw [List.lookup_cons]; simp [eq_of_beq hy]
    · rw [Bool.not_eq_true] at hy
      rw [hy] at h
      have ih := relabel_free (env := env) h
      by_cases ht : (q == NameKind.free && env.scope.kind == .function && env.kindOf n == some .cell) = true
      · simp only [ht]; rw [List.lookup_cons]; simpa [hy] using ih
      · simp only [ht]; rw [List.lookup_cons]; simpa [hy] using ih
section
variable {X : Cx}
theorem pe_compS {tg elt iter : Expr} {os : List Str} {pos : Pos} {scope : Scope} {wi : TI} {g : TG} {te : TE} {caps : List (Nat × Str)} (N : List Str) (sc : Scope) (hi : PI X tg iter wi)
    (hg : ∀ cl C s0 H0 fp, PG (cxComp X scope cl (os ++ caps.map (·.2)) C s0 H0 fp) tg g)
    (he : ∀ cl C s0 H0 fp, PE (cxComp X scope cl (os ++ caps.map (·.2)) C s0 H0 fp) elt te)
    (ok : compOk N sc scope caps = true) (hN : X.N = N := by rfl) (hsc : X.env.scope = sc := by rfl) (hc : X.calm = true := by rfl) (hfs : ∀ v, foldedSetIterable iter X.env v = pure v := by intro _; rfl) :
    PE X (.ListComp elt [⟨tg, iter, [], 0⟩] scope pos) (tCompG os.length wi g te (caps.map (·.1))) := by
  subst hN hsc
  unfold compOk at ok
  simp only [Bool.and_eq_true, List.all_eq_true, decide_eq_true_eq, Bool.or_eq_true, Bool.not_eq_true', decide_eq_false_iff_not] at ok
  obtain ⟨⟨h1, h2⟩, h3⟩ := ok
  refine pe_compG hi hg he (fun y hy hf => ?_) (fun p hp => ?_) h1 (fun y hy => (h2 y hy).1.1) (fun y hy hl => ?_) hc hfs
  · rcases (h2 y hy).1.2 with z | z
    · exact absurd hf z
    · exact z
  · obtain ⟨⟨a, b⟩, c⟩ := h3 p hp
    exact ⟨a, b, relabel_free c⟩
  · rcases (h2 y hy).2 with z | z
    · exact absurd hl z
    · exact z
end
/-! ### tuples never change -/
noncomputable def Tup (H H' : Hp) : Prop := ∀ b xs, H b = some (.tup xs) → H' b = some (.tup xs)
theorem _root_.L2.Same.tup {H H' : Hp} (h : Same H H') : Tup H H' := fun b xs e => h b _ e
theorem Tup.refl (H : Hp) : Tup H H := fun _ _ e => e
theorem Tup.trans {H H1 H2 : Hp} (a : Tup H H1) (b : Tup H1 H2) : Tup H H2 := fun c xs e => b c xs (a c xs e)
theorem Tup.lst {H : Hp} {D : Addr} {ys : List V} {o : HO} (h : H D = some (.lst ys)) : Tup H (upd H D o) := fun b xs e => by
  rw [upd_ne (fun z => by rw [z, h] at e; cases e)]; exact e
theorem Tup.new {H : Hp} {D : Addr} {o : HO} (h : H D = none) : Tup H (upd H D o) := L2.Same.tup (Same.new h)
theorem ShV.tup {H H' : Hp} {v : V} {q : Rat} (h : ShV H v q) (e : Tup H H') : ShV H' v q := by
  obtain ⟨a, rfl, h⟩ := h
  exact ⟨a, rfl, e _ _ h⟩
/-! ### comprehensions by what their items are -/
/-- an iterator of n items that are known ahead -/
noncomputable def Plain1 (J : It) (H1 : Hp) (n : Nat) (f : Nat → V) : Prop := ∀ H2, Same H1 H2 → ∀ i, (i < n → J.go i H2 ∧ ∀ x H', J.yld i H2 x H' → H' = H2 ∧ x = f i) ∧ (i = n → J.stop i H2)
/-- .. of n pairs (tuples that are new, or known ahead) -/
noncomputable def Plain2 (K : PySem.W.Frag) (J : It) (H1 : Hp) (n : Nat) (f g : Nat → V) : Prop := ∀ H2, Same H1 H2 → ∀ i, (i < n → J.go i H2 ∧ ∀ x H', J.yld i H2 x H' → Same H2 H' ∧ ∃ a, x = .ref a ∧ SqT K H' a [f i, g i]) ∧ (i = n → J.stop i H2)
theorem plain_range (lo : Int) (n : Nat) (H1 : Hp) : Plain1 (Itr lo n) H1 n fun i => .int (lo + i) := fun H2 _ i =>
  ⟨fun hi => ⟨hi, fun x H' y => ⟨y.1, y.2⟩⟩, fun e => by subst e; exact Nat.le_refl _⟩
theorem plain_list {K : PySem.W.Frag} {a : Addr} {xs : List V} {H1 : Hp} (h : SqL K H1 a xs) : Plain1 (Itl K a) H1 xs.length fun i => (xs[i]?).getD .non := fun H2 s i =>
  ⟨fun hi => ⟨⟨xs, xs[i], s.seq h, by simp [hi]⟩, fun x H' y => ⟨y.1, by show x = (xs[i]?).getD .non; rw [y.2 xs (s.seq h)]; rfl⟩⟩, fun e => by subst e; exact ⟨xs, s.seq h, Nat.le_refl _⟩⟩
theorem small_line {n : Nat} (h : n ≤ 100000) : n < sizeLine := Nat.lt_of_le_of_lt h (by rw [sizeLine_eq]; decide)
section
variable {K : PySem.W.Frag} {J : It} {H1 : Hp} {te : TE} {cs : L2.St} {Q : VK} {n : Nat}
theorem comp1 {f : Nat → V} (hJ : Plain1 J H1 n f) (hn : n ≤ 100000) (R : Nat → V → Hp → Prop) (hR : ∀ i v H H', Tup H H' → R i v H → R i v H')
    (he : ∀ i H2 (k : VK), i < n → Same H1 H2 → (∀ v H3, Same H2 H3 → R i v H3 → k v H3) → te (some (f i) :: cs) H2 k)
    (hq : ∀ D ys H2, H1 D = none → Same H1 H2 → H2 D = some (.lst ys) → ys.length = n → (∀ i v, ys[i]? = some v → R i v H2) → Q (.ref D) H2) :
    CompGoal 1 J H1 (gName 0) te cs Q := by
  intro D hD
  refine ⟨fun i m ys H2 => m = n - i ∧ i ≤ n ∧ ys.length = i ∧ Same H1 H2 ∧ H2 D = some (.lst ys) ∧ ∀ j v, ys[j]? = some v → R j v H2, ⟨n, by simp, Nat.zero_le _, rfl, Same.new hD, upd_same, fun j v e => by simp at e⟩, ?_⟩
  rintro i m ys H2 ⟨rfl, hi, hl, s2, d2, r2⟩
  by_cases hlt : i < n
  · refine .inr ⟨((hJ H2 s2 i).1 hlt).1, fun x H' y own ho => ?_⟩
    obtain ⟨rfl, rfl⟩ := ((hJ H2 s2 i).1 hlt).2 x H' y
    cases own with
    | nil => cases ho
    | cons o1 r =>
      cases r with
      | cons _ _ => cases ho
      | nil =>
        refine ⟨⟨[some (f i)], rfl, rfl⟩, he i _ _ hlt s2 fun v H3 s3 r3 => ⟨s3 _ _ d2, small_line (by omega), n - (i + 1), by omega, rfl, hlt, by rw [List.length_append, hl]; rfl, fun b o e => ?_, upd_same, fun j w e => ?_⟩⟩
        · rw [upd_ne (ne_of_none e hD)]; exact s3 _ _ (s2 _ _ e)
        · have t3 : Tup H3 (upd H3 D (.lst (ys ++ [v]))) := Tup.lst (s3 _ _ d2)
          by_cases hj : j < ys.length
          · rw [List.getElem?_append_left hj] at e
            exact hR _ _ _ _ (s3.tup.trans t3) (r2 j w e)
          · rw [List.getElem?_append_right (by omega)] at e
            have hj0 : j - ys.length = 0 := by
              cases q : j - ys.length with
              | zero => rfl
              | succ k => rw [q] at e; simp at e
            rw [hj0] at e
            have e' : v = w := by simpa using e
            have hji : j = i := by omega
            rw [← e', hji]
            exact hR _ _ _ _ t3 r3
  · have e : i = n := by omega
    subst e
    exact .inl ⟨(hJ H2 s2 i).2 rfl, hq D ys H2 hD s2 d2 hl r2⟩
theorem comp2 {f g : Nat → V} (hJ : Plain2 K J H1 n f g) (hn : n ≤ 100000) (R : Nat → V → Hp → Prop) (hR : ∀ i v H H', Tup H H' → R i v H → R i v H')
    (he : ∀ i H2 (k : VK), i < n → Same H1 H2 → (∀ v H3, Same H2 H3 → R i v H3 → k v H3) → te (some (f i) :: some (g i) :: cs) H2 k)
    (hq : ∀ D ys H2, H1 D = none → Same H1 H2 → H2 D = some (.lst ys) → ys.length = n → (∀ i v, ys[i]? = some v → R i v H2) → Q (.ref D) H2) :
    CompGoal 2 J H1 (gTup K 2 (gCons (gName 0) (gCons (gName 1) gNil))) te cs Q := by
  intro D hD
  refine ⟨fun i m ys H2 => m = n - i ∧ i ≤ n ∧ ys.length = i ∧ Same H1 H2 ∧ H2 D = some (.lst ys) ∧ ∀ j v, ys[j]? = some v → R j v H2, ⟨n, by simp, Nat.zero_le _, rfl, Same.new hD, upd_same, fun j v e => by simp at e⟩, ?_⟩
  rintro i m ys H2 ⟨rfl, hi, hl, s2, d2, r2⟩
  by_cases hlt : i < n
  · refine .inr ⟨((hJ H2 s2 i).1 hlt).1, fun x H' y own ho => ?_⟩
    obtain ⟨s2', a, rfl, ht⟩ := ((hJ H2 s2 i).1 hlt).2 x H' y
    cases own with
    | nil => cases ho
    | cons o1 r =>
      cases r with
      | nil => cases ho
      | cons o2 r =>
        cases r with
        | cons _ _ => cases ho
        | nil =>
          refine ⟨a, _, rfl, ht, rfl, _, _, rfl, _, _, rfl, rfl, ⟨[some (f i), some (g i)], rfl, rfl⟩, he i _ _ hlt (s2.trans s2') fun v H3 s3 r3 => ⟨s3 _ _ (s2' _ _ d2), small_line (by omega), n - (i + 1), by omega, rfl, hlt, by rw [List.length_append, hl]; rfl, fun b o e => ?_, upd_same, fun j w e => ?_⟩⟩
          · rw [upd_ne (ne_of_none e hD)]; exact s3 _ _ (s2' _ _ (s2 _ _ e))
          · have t3 : Tup H3 (upd H3 D (.lst (ys ++ [v]))) := Tup.lst (s3 _ _ (s2' _ _ d2))
            by_cases hj : j < ys.length
            · rw [List.getElem?_append_left hj] at e
              exact hR _ _ _ _ ((s2'.trans s3).tup.trans t3) (r2 j w e)
            · rw [List.getElem?_append_right (by omega)] at e
              have hj0 : j - ys.length = 0 := by
                cases q : j - ys.length with
                | zero => rfl
                | succ k => rw [q] at e; simp at e
              rw [hj0] at e
              have e' : v = w := by simpa using e
              have hji : j = i := by omega
              rw [← e', hji]
              exact hR _ _ _ _ t3 r3
  · have e : i = n := by omega
    subst e
    exact .inl ⟨(hJ H2 s2 i).2 rfl, hq D ys H2 hD s2 d2 hl r2⟩
end
/-! ### rules that name K plainly (a comprehension's block hands on no context) -/
section
variable {X : Cx}
theorem ix_listK (K : PySem.W.Frag) (h : X.K = K := by rfl) : IxR X (rIxL K) := by subst h; exact ix_list
theorem ix_tupK (K : PySem.W.Frag) (h : X.K = K := by rfl) : IxR X (rIxT K) := by subst h; exact ix_tup
theorem sl_listK (K : PySem.W.Frag) (h : X.K = K := by rfl) : SlR X (rSlL K) := by subst h; exact sl_list
theorem sl_tupK (K : PySem.W.Frag) (h : X.K = K := by rfl) : SlR X (rSlT K) := by subst h; exact sl_tup
theorem op_eqDK (K : PySem.W.Frag) (hu : X.A.units + 64 < cLine) (h : X.K = K := by rfl) : OpR X (compareOp .Eq) (rEqD K) := by subst h; exact op_eqD hu
theorem call_lenK (K : PySem.W.Frag) (h : X.K = K := by rfl) : CallR X (.builtin "len") (fun xs H Q => ∃ p ys, xs = [.ref p] ∧ (SqL K H p ys ∨ SqT K H p ys) ∧ Q (.int ys.length) H) := by subst h; exact call_len_seq
theorem call_isiK (K : PySem.W.Frag) (h : X.K = K := by rfl) : CallR X (.builtin "isinstance") (fun xs H Q => ∃ x T t b, xs = [x, .ty T] ∧ TyOf K H x t ∧ PySem.W.kitOne K t (.type T) = some b ∧ Q (.bl b) H) := by subst h; exact call_isi
theorem op_catTK (K : PySem.W.Frag) (h : X.K = K := by rfl) : OpR X (binaryOp .Add) (rCatT K) := by subst h; exact op_catT
theorem pg_tupK (K : PySem.W.Frag) {es : List Expr} {k : Nat} {t : TGs} {n : Nat} {pos : Pos} (hc : X.calm = true) (h : PGs X es t) (hK : X.K = K := by rfl)
    (hn : (assignEach es X.env).length = n := by rfl) (hst : (assignEach es X.env).findIdx? (·.1) = none := by rfl) : PG X (.Tuple es k pos) (gTup K n t) := by subst hK; exact pg_tup hc h hn hst
end
end Cv

namespace Cv
open PySem PySem.Spec PyProof.Rows L2
/-! ### reversed of a list, walked -/
section
variable {X : Cx} {tg : Expr}
end
end Cv

namespace Cv
open PySem PySem.Spec PyProof.Rows L2
section
variable {prog : Program} {w : World} {A : Around} {E : Value → Shared → Prop} {s : Shared}
end
section
variable {X : Cx}
/-- e[::-1], a list -/
noncomputable def tBack (K : PySem.W.Frag) (te : TE) (ts : TO) : TE := fun σ H Q => te σ H fun x H1 => ts σ H1 fun o H2 => o = some (-1) ∧ ∃ (a : Addr) (xs : List V), x = .ref a ∧ SqL K H2 a xs ∧ ∀ l, H2 l = none → Q (.ref l) (upd H2 l (.lst xs.reverse))
theorem pe_backward (K : PySem.W.Frag) {e : Expr} {st : Expr} {te : TE} {ts : TO} {p2 pos : Pos} (he : PE X e te) (hs : PO X (some st) ts) (hK : X.K = K := by rfl) : PE X (.Subscript e (.Slice none none (some st) p2) pos) (tBack K te ts) := by
  subst hK
  intro pins s σ H Q I h
  refine Subscript_ (thn (he pins s σ H _ I h) fun v s1 ⟨x, H1, I1, r1, q1⟩ => ?_)
  refine wpAny_Slice ?_
  rw [evalPart_none]
  refine wpAny_pure ?_
  refine wpAny_pure ?_
  refine thn (hs pins s1 σ H1 _ I1 q1) fun vs s3 ⟨o, H3, I3, pu, q3⟩ => ?_
  obtain ⟨rfl, a, xs, rfl, hq, q⟩ := q3
  cases r1
  have I4 : Inv X pins σ H3 { s3 with heap := s3.heap.push { cls := .type "slice", data := .fields #[.none, .none, vs] } } := I3.kept (t' := s3.toks) fun b ob q => Heap.get?_push_of_some _ q
  obtain ⟨its, r, ht, hz⟩ := I4.list hq
  have hlen := r.length
  have hg : wpAny (model X.prog X.w) X.A (getItem (.ref a) (.ref s3.heap.objs.size)) (EP X pins σ Q) X.xe { s3 with heap := s3.heap.push { cls := .type "slice", data := .fields #[.none, .none, vs] } } := by
    refine wpAny_getItem_list_slice ht.isList (Heap.IsSliceOf.new ..) .none .none pu (by decide) ?_ (by rw [List.size_toArray] <;> omega)
    rw [PySem.W.krv_pick]
    refine ⟨.ref _, _, I4.laid (t' := s3.toks) (o := .lst xs.reverse) (fun b ob q => Heap.get?_push_of_some _ q) (Nat.le_refl _) ?_, rfl, q _ (I4.hok.fresh (Nat.le_refl _))⟩
    exact ⟨by rw [List.length_reverse]; exact hz, _, 0, r.reverse, Heap.get?_push_size _ rfl⟩
  show wpAny (model X.prog X.w) X.A (subscriptTail e (.Slice none none (some st) p2) (.ref a) (.ref s3.heap.objs.size)) (EP X pins σ Q) X.xe { s3 with heap := s3.heap.push { cls := .type "slice", data := .fields #[.none, .none, vs] } }
  exact tail_any (ops := [.ref a, .ref s3.heap.objs.size]) ht.isList.typeIs slot_list_getitem.lookup hg (by with_unfolding_all rfl)
end
end Cv

namespace Cv
open PySem PySem.Spec PyProof.Rows L2
section
variable {X : Cx} {pins : List (Addr × Obj)} {σ : L2.St} {H : Hp} {s : Shared} {h' : Heap}
/-- untracked records of ours have turned, a new object is laid and tracked -/
theorem turnedLay {t' : Nat} {ch : List Addr} {a : Addr} {o : HO} (I : Inv X pins σ H s) (hf : ∀ b ∈ ch, FpOk X pins H b) (k : ∀ b o, b ∉ ch → s.heap.get? b = some o → h'.get? b = some o)
    (ha : s.heap.objs.size ≤ a) (new : ObjOk X.prog X.w (upd H a o) h' a o) : Inv X pins σ (upd H a o) { s with heap := h', toks := t' } := by
  have hna : H a = none := I.hok.fresh ha
  have nit : ∀ b u, H b = some u → b ∉ ch := fun b u e z => by rw [(hf b z).1] at e; cases e
  have up : ∀ b u, H b = some u → upd H a o b = some u := fun b u e => by rw [upd_ne (ne_of_none e hna)]; exact e
  refine I.step (g' := s.gens) (d' := s.drawn) (ch := ch) (fun b hb => ⟨(hf b hb).2.2.2.1, (hf b hb).2.1, (hf b hb).2.2.2.2.1, (hf b hb).2.2.2.2.2⟩) (fun b o _ _ hc e _ => k b o hc e) (fun b o _ _ hc e _ => ⟨o.slots, k b o hc e⟩) (fun b o _ e n => ?_)
    (fun b o hc e => ⟨o, k b o hc e⟩) (fun _ _ e => up _ _ e) (fun _ _ _ e => up _ _ e) (fun b ps e => ⟨#[], by rw [up _ _ e]; simp⟩) (fun m hm => ?_) (fun b u e => ?_) I.bare
  · rw [upd_ne (fun z => by rw [z] at e; exact absurd (Heap.lt_size e) (Nat.not_lt.mpr ha))]; exact n
  · obtain ⟨o, es, ep, ho, r⟩ := hm
    exact ⟨o, es, ep, k _ o (fun z => (hf _ z).2.1 rfl) ho, r⟩
  · by_cases hb : b = a
    · subst hb
      rw [upd_same] at e
      cases e
      exact new
    · rw [upd_ne hb] at e
      refine (I.hok b u e).stay (fun c v hc q => k c v ?_ q) (fun _ q => up _ _ q) fun _ _ q => up _ _ q
      rcases hc with z | z
      · rw [z]; exact nit b u e
      · exact nit c _ z
theorem turnedL {t' : Nat} {ch : List Addr} (I : Inv X pins σ H s) (hf : ∀ b ∈ ch, FpOk X pins H b) (k : ∀ b o, b ∉ ch → s.heap.get? b = some o → h'.get? b = some o) : Inv X pins σ H { s with heap := h', toks := t' } := by
  have nit : ∀ b u, H b = some u → b ∉ ch := fun b u e z => by rw [(hf b z).1] at e; cases e
  refine I.step (g' := s.gens) (d' := s.drawn) (ch := ch) (fun b hb => ⟨(hf b hb).2.2.2.1, (hf b hb).2.1, (hf b hb).2.2.2.2.1, (hf b hb).2.2.2.2.2⟩) (fun b o _ _ hc e _ => k b o hc e) (fun b o _ _ hc e _ => ⟨o.slots, k b o hc e⟩) (fun _ _ _ _ n => n)
    (fun b o hc e => ⟨o, k b o hc e⟩) (fun _ _ e => e) (fun _ _ _ e => e) (fun b ps e => ⟨#[], by rw [e]; simp⟩) (fun m hm => ?_) (fun b u e => ?_) I.bare
  · obtain ⟨o, es, ep, ho, r⟩ := hm
    exact ⟨o, es, ep, k _ o (fun z => (hf _ z).2.1 rfl) ho, r⟩
  · refine (I.hok b u e).stay (fun c v hc q => k c v ?_ q) (fun _ q => q) fun _ _ q => q
    rcases hc with z | z
    · rw [z]; exact nit b u e
    · exact nit c _ z
end
/-! ### zip of two lists, walked by pairs of names -/
noncomputable def Itz (K : PySem.W.Frag) (l1 l2 : Addr) : It :=
  ⟨fun i H => ∃ xs ys x y, SqL K H l1 xs ∧ SqL K H l2 ys ∧ xs[i]? = some x ∧ ys[i]? = some y,
   fun i H v H' => ∃ T a b, v = .ref T ∧ H T = none ∧ H' = upd H T (.tup [a, b]) ∧ (∀ xs, SqL K H l1 xs → xs[i]? = some a) ∧ ∀ ys, SqL K H l2 ys → ys[i]? = some b,
   fun i H => ∃ xs ys, SqL K H l1 xs ∧ SqL K H l2 ys ∧ (xs[i]? = none ∨ ys[i]? = none)⟩
theorem turn_zip {P : Program} {w : World} {K : PySem.W.Frag} {elts : List Expr} {k0 : Nat} {pos : Pos} {z TI TO i1 i2 l1 l2 : Addr} (D : ZipApart z TI TO i1 i2 l1 l2) : Turn P w K (.Tuple elts k0 pos) (Itz K l1 l2) [z, TI, TO, i1, i2] z
    (fun i h => IsZip h z TI TO .none ∧ IsPair h TI (.ref i1) (.ref i2) ∧ (∃ a b, IsPair h TO a b) ∧ h.IsListIter i1 l1 i ∧ h.IsListIter i2 l2 i) where
  mem := by simp
  obj := fun i h st b hb => by
    obtain ⟨hz, hTI, ⟨a, b', hTO⟩, ⟨o1, e1, c1, d1⟩, ⟨o2, e2, c2, d2⟩⟩ := st
    simp only [List.mem_cons, List.not_mem_nil, or_false] at hb
    rcases hb with rfl | rfl | rfl | rfl | rfl
    · exact ⟨_, hz, fun v q => by have q' : Data.fields _ = Data.cell v := q; cases q'⟩
    · exact ⟨_, hTI, fun v q => by have q' : Data.seq _ _ = Data.cell v := q; cases q'⟩
    · exact ⟨_, hTO, fun v q => by have q' : Data.seq _ _ = Data.cell v := q; cases q'⟩
    · exact ⟨_, e1, fun v q => by rw [d1] at q; cases q⟩
    · exact ⟨_, e2, fun v q => by rw [d2] at q; cases q⟩
  keep := fun i h h' st k => by
    obtain ⟨hz, hTI, ⟨a, b, hTO⟩, h1, h2⟩ := st
    exact ⟨k z (by simp) _ hz, k TI (by simp) _ hTI, ⟨a, b, k TO (by simp) _ hTO⟩, h1.at fun o e => k i1 (by simp) o e, h2.at fun o e => k i2 (by simp) o e⟩
  item := by
    intro X hP hw hK hc i pins s σ H E I hf st hg
    subst hP hw hK
    obtain ⟨xs, ys, x, y, hq1, hq2, hx, hy⟩ := hg
    obtain ⟨hz, hTI, ⟨a, b, hTO⟩, h1, h2⟩ := st
    obtain ⟨its1, rv1, p1, hz1⟩ := I.list hq1
    obtain ⟨its2, rv2, p2, hz2⟩ := I.list hq2
    obtain ⟨u1, hu1, ru1⟩ := rv1.get hx
    obtain ⟨u2, hu2, ru2⟩ := rv2.get hy
    refine wpAny_pyNext_zip_item D hz hTI hTO h1 h2 p1.isList p2.isList (x := u1) (y := u2) (by simpa using hu1) (by simpa using hu2) fun h' a1 a2 a3 a4 a5 a6 a7 => ?_
    refine ⟨_, rfl, wpAny_letOwnedTupleGo_zip a1 fun h'' b1 b2 => ?_⟩
    have hT : H s.heap.objs.size = none := I.hok.fresh (Nat.le_refl _)
    have neT : ∀ {c o}, s.heap.get? c = some o → c ≠ s.heap.objs.size := fun e => Nat.ne_of_lt (Heap.lt_size e)
    have kk : ∀ b o, b ∉ [z, TI, TO, i1, i2] → s.heap.get? b = some o → h''.get? b = some o := fun b o hb e => by
      simp only [List.mem_cons, List.not_mem_nil, or_false, not_or] at hb
      exact b2.extBut b o hb.1 (a7 b o hb.1 hb.2.2.1 hb.2.2.2.1 hb.2.2.2.2 e)
    have tT : h''.get? s.heap.objs.size = some { cls := .type "tuple", data := .seq #[u1, u2] } := b2.extBut _ _ (Ne.symm (neT hz)) a5
    have I1 := turnedLay (t' := s.toks) (a := s.heap.objs.size) (o := .tup [x, y]) (h' := h'') I hf kk (Nat.le_refl _) ⟨by show 2 ≤ sizeLine; decide, [u1, u2], .cons ru1 (.cons ru2 .nil), ⟨_, tT, rfl, _, rfl⟩⟩
    refine ⟨.ref s.heap.objs.size, _, I1, rfl, ⟨s.heap.objs.size, x, y, rfl, hT, rfl, fun xs' hx' => by rw [I.list_inj hx' hq1]; exact hx, fun ys' hy' => by rw [I.list_inj hy' hq2]; exact hy⟩, ?_, fun c hc => ?_⟩
    · exact ⟨b1, b2.extBut _ _ D.TIz (a7 _ _ D.TIz D.TITO D.TIi1 D.TIi2 hTI), ⟨_, _, b2.extBut _ _ D.TOz a2⟩, a3.extBut b2.extBut D.i1z, a4.extBut b2.extBut D.i2z⟩
    · have e0 := (hf c hc).1
      rw [upd_ne ?_]
      · exact e0
      · intro q
        obtain ⟨o1, e1, _⟩ := h1
        obtain ⟨o2, e2, _⟩ := h2
        simp only [List.mem_cons, List.not_mem_nil, or_false] at hc
        rcases hc with rfl | rfl | rfl | rfl | rfl
        · exact neT hz q
        · exact neT hTI q
        · exact neT hTO q
        · exact neT e1 q
        · exact neT e2 q
  done := by
    intro X hP hw hK hc i pins s σ H E I hf st hg
    subst hP hw hK
    obtain ⟨xs, ys, hq1, hq2, hend⟩ := hg
    obtain ⟨hz, hTI, ⟨a, b, hTO⟩, h1, h2⟩ := st
    obtain ⟨its1, rv1, p1, hz1⟩ := I.list hq1
    obtain ⟨its2, rv2, p2, hz2⟩ := I.list hq2
    refine wpAny_pyNext_zip_end (I.ok.hd hc) D hz hTI hTO h1 h2 p1.isList p2.isList (hend.imp (fun e => by simpa using rv1.none_of e) fun e => by simpa using rv2.none_of e) fun h' kk => ⟨rfl, turnedL (t' := s.toks) I hf fun b o hb e => ?_⟩
    simp only [List.mem_cons, List.not_mem_nil, or_false, not_or] at hb
    exact kk b o hb.1 hb.2.2.1 hb.2.2.2.1 hb.2.2.2.2 e
  self := fun _ _ _ _ _ st h => wpAny_pyIter_zip st.1 h
section
variable {X : Cx}
noncomputable def iZip (K : PySem.W.Frag) (ta : TA) : TI := fun σ H R => ta σ H fun vs H1 => ∃ l1 l2, vs = [.ref l1, .ref l2] ∧ (∃ xs, SqL K H1 l1 xs) ∧ (∃ ys, SqL K H1 l2 ys) ∧ R (Itz K l1 l2) H1
theorem pi_zip {a b : Expr} {ta : TA} {p pos ppos : Pos} {elts : List Expr} {k0 : Nat} (hg : Gl X "zip") (hm : X.mg "zip" = none) (ha : PA X [a, b] ta) (he : starEach [a, b] X.env = (false, eval a X.env) :: starEach [b] X.env := by rfl)
    (hpl : (backTo pos (starEach [b] X.env)).any (·.1) = false := by rfl) : PI X (.Tuple elts k0 ppos) (.Call (.Name "zip" p) [a, b] [] pos) (iZip X.K ta) := by
  intro pins s σ H R I h
  refine wpAny_Call_Name_kw (ld_blt I hg hm boot_zip ?_ (by decide) (by decide))
  refine PyProof.Rows.callWith_type1 (thn (ha pos pins s σ H _ I h) fun us s1 ⟨vs, H1, I1, r1, q1⟩ => ?_) he hpl
  obtain ⟨l1, l2, rfl, ⟨xs, hq1⟩, ⟨ys, hq2⟩, q⟩ := q1
  obtain ⟨u1, u2, rfl, e1, e2⟩ := vals_two r1
  cases e1; cases e2
  obtain ⟨its1, rv1, p1, hz1⟩ := I1.list hq1
  obtain ⟨its2, rv2, p2, hz2⟩ := I1.list hq2
  have a1 : l1 < s1.heap.objs.size := by obtain ⟨_, e, _⟩ := p1.isList; exact Heap.lt_size e
  have a2 : l2 < s1.heap.objs.size := by obtain ⟨_, e, _⟩ := p2.isList; exact Heap.lt_size e
  refine call_zip_2 p1.isList p2.isList fun h' hz hTI hTO hi1 hi2 _ hk => ?_
  refine wpAny_pyIter_zip hz ?_
  refine ⟨_, [s1.heap.objs.size + 4, s1.heap.objs.size + 2, s1.heap.objs.size + 3, s1.heap.objs.size, s1.heap.objs.size + 1], _, _, H1, rfl, I1.kept (t' := s1.toks) hk, turn_zip (zipApart_new a1 a2), ⟨hz, hTI, ⟨_, _, hTO⟩, hi1, hi2⟩, fun c hc => ?_, q⟩
  have hge : s1.heap.objs.size ≤ c := by
    simp only [List.mem_cons, List.not_mem_nil, or_false] at hc
    rcases hc with rfl | rfl | rfl | rfl | rfl <;> omega
  exact I1.fpOk hge (I1.hok.fresh hge)
theorem plain_zip {K : PySem.W.Frag} {l1 l2 : Addr} {xs ys : List V} {H1 : Hp} (h1 : SqL K H1 l1 xs) (h2 : SqL K H1 l2 ys) : Plain2 K (Itz K l1 l2) H1 (min xs.length ys.length) (fun i => (xs[i]?).getD .non) (fun i => (ys[i]?).getD .non) := fun H2 s i => by
  refine ⟨fun hi => ⟨⟨xs, ys, xs[i]'(by omega), ys[i]'(by omega), s.seq h1, s.seq h2, by simp [show i < xs.length by omega], by simp [show i < ys.length by omega]⟩, fun x H' y => ?_⟩, fun e => ⟨xs, ys, s.seq h1, s.seq h2, ?_⟩⟩
  · obtain ⟨T, a, b, rfl, hT, rfl, e1, e2⟩ := y
    refine ⟨Same.new hT, T, rfl, ?_⟩
    show SqT K _ T [(xs[i]?).getD .non, (ys[i]?).getD .non]
    rw [e1 xs (s.seq h1), e2 ys (s.seq h2)]
    exact SqT.of upd_same
  · rcases Nat.le_total xs.length ys.length with h | h
    · exact .inl (List.getElem?_eq_none (by omega))
    · exact .inr (List.getElem?_eq_none (by omega))
/-! ### all, any of a list of truths -/
end
end Cv

namespace Cv
open PySem PySem.Spec PyProof.Rows L2
section
set_option autoImplicit true
@[irreducible] noncomputable def PEi (X : Cx) (e : Expr) (t : TE) : Prop := PE X e t
@[irreducible] noncomputable def PAi (X : Cx) (e : List Expr) (t : TA) : Prop := PA X e t
@[irreducible] noncomputable def PTi (X : Cx) (e : Expr) (t : TT) : Prop := PT X e t
@[irreducible] noncomputable def PWi (X : Cx) (e : Expr) (t : TT) : Prop := PW X e t
@[irreducible] noncomputable def PSi (X : Cx) (e : Stmt) (t : TS) : Prop := PS X e t
@[irreducible] noncomputable def PSsi (X : Cx) (e : List Stmt) (t : TS) : Prop := PSs X e t
@[irreducible] noncomputable def PGi (X : Cx) (e : Expr) (t : TG) : Prop := PG X e t
@[irreducible] noncomputable def PGsi (X : Cx) (e : List Expr) (t : TGs) : Prop := PGs X e t
@[irreducible] noncomputable def PIi (X : Cx) (tg e : Expr) (t : TI) : Prop := PI X tg e t
@[irreducible] noncomputable def POi (X : Cx) (e : Option Expr) (t : TO) : Prop := PO X e t
theorem pvI  (i : Nat) {x : Str} {pos : Pos} (hN : X.N[i]? = some x := by rfl) (hv : Vis X.env.scope x := by first | exact Or.inl rfl | exact Or.inr (Or.inl rfl) | exact Or.inr (Or.inr rfl)) (hd : (x == ("__debug__" : Str)) = false := by decide) (hcd : (x == ("__classdict__" : Str)) = false := by decide) : PEi X (.Name x pos) (tVar i) := by with_unfolding_all exact pv (i := i) (hN := hN) (hv := hv) (hd := hd) (hcd := hcd)
theorem pe_intI  {i j pos} : PEi X (.Constant (.int i) j pos) (tC (.int i)) := by with_unfolding_all exact pe_int 
theorem pe_blI  {b j pos} : PEi X (.Constant (.bool b) j pos) (tC (.bl b)) := by with_unfolding_all exact pe_bl 
theorem pe_nonI  {j pos} : PEi X (.Constant .none j pos) (tC .non) := by with_unfolding_all exact pe_non 
theorem pe_strI  {x j pos} : PEi X (.Constant (.str x) j pos) (tC (.str x)) := by with_unfolding_all exact pe_str 
theorem pe_globI  {x : Str} {v : V} {u : Value} {pos : Pos} (hg : Gl X x) (hm : X.mg x = some u) (r : RelV v u) (hd : (x == ("__debug__" : Str)) = false := by decide) : PEi X (.Name x pos) (tC v) := by with_unfolding_all exact pe_glob (hg := hg) (hm := hm) (r := r) (hd := hd)
theorem pe_bltnI  {x : Str} {v : V} {u : Value} {pos : Pos} (hg : Gl X x) (hm : X.mg x = none) (hv : bootBuiltins x = some u) (r : RelV v u) (hn : x ≠ "__name__" := by decide) (hd : (x == ("__debug__" : Str)) = false := by decide) : PEi X (.Name x pos) (tC v) := by with_unfolding_all exact pe_bltn (hg := hg) (hm := hm) (hv := hv) (r := r) (hn := hn) (hd := hd)
theorem pe_opI  {op : Operator} {r : R2} (ho : OpR X (binaryOp op) r) (ha : PEi X a ta) (hb : PEi X b tb) : PEi X (.BinOp a op b pos) (tOp r ta tb) := by with_unfolding_all exact pe_op (ho := ho) (ha := ha) (hb := hb)
theorem pe_unI  {op : UnaryOp} {r : V → Hp → VK → Prop} (ho : UnR X (unaryOp op) r) (ha : PEi X a ta) : PEi X (.UnaryOp op a pos) (tUn r ta) := by with_unfolding_all exact pe_un (ho := ho) (ha := ha)
theorem pe_cmpRI  {op : CmpOp} {r : R2} (ho : OpR X (compareOp op) r) (ha : PEi X a ta) (hb : PEi X b tb) (hm : behindInMarks op b = false) : PEi X (.Compare a [op] [b] pos) (tOp r ta tb) := by with_unfolding_all exact pe_cmpR (ho := ho) (ha := ha) (hb := hb) (hm := hm)
theorem pe_andI {rest : List Expr} (ha : PEi X a ta) (hb : PEi X (.BoolOp .And (b :: rest) pos) tb) : PEi X (.BoolOp .And (a :: b :: rest) pos) (tAndV ta tb) := by with_unfolding_all exact pe_and (ha := ha) (hb := hb)
theorem pe_oneI  {op} {t : TE} (h : PEi X a t) : PEi X (.BoolOp op [a] pos) t := by with_unfolding_all exact pe_one (h := h)
theorem pe_notI  (ha : PEi X a ta) : PEi X (.UnaryOp .Not a pos) (tNotV ta) := by with_unfolding_all exact pe_not (ha := ha)
theorem pe_ifExpI  {c : Expr} (hc : PTi X c tA) (ha : PEi X a ta) (hb : PEi X b tb) : PEi X (.IfExp c a b pos) (tIf tA ta tb) := by with_unfolding_all exact pe_ifExp (hc := hc) (ha := ha) (hb := hb)
theorem pe_fnI  (D : DefOk X.prog X.w X.K X.mg X.base CX k x ps sp) (hr : Room j X.A) (hx : Passes CX X E) (ha : PAi X (e :: es) t) (hk : k ≤ j := by decide) (hg : Gl X x := by rfl) (hdb : (x == ("__debug__" : Str)) = false := by decide) (he : starEach (e :: es) X.env = (false, eval e X.env) :: starEach es X.env := by rfl) (hpl : (backTo pos (starEach es X.env)).any (·.1) = false := by rfl) : PEi X (.Call (.Name x p) (e :: es) [] pos) (tFn sp E t) := by with_unfolding_all exact pe_fn (D := D) (hr := hr) (hx := hx) (ha := ha) (hk := hk) (hg := hg) (hdb := hdb) (he := he) (hpl := hpl)
theorem pe_callBI {id : String} (hc : CallR X (.builtin id) r) (hg : Gl X x) (hm : X.mg x = none) (hv : bootBuiltins x = some (.builtin id)) (ha : PAi X (e :: es) t) (hn : x ≠ "__name__" := by decide) (hdb : (x == ("__debug__" : Str)) = false := by decide) (he : starEach (e :: es) X.env = (false, eval e X.env) :: starEach es X.env := by rfl) (hpl : (backTo pos (starEach es X.env)).any (·.1) = false := by rfl) : PEi X (.Call (.Name x p) (e :: es) [] pos) (tCB r t) := by with_unfolding_all exact pe_callB (hc := hc) (hg := hg) (hm := hm) (hv := hv) (ha := ha) (hn := hn) (hdb := hdb) (he := he) (hpl := hpl)
theorem pe_callTyI  (hc : CallR X (.type T) r) (hg : Gl X x) (hm : X.mg x = none) (hv : bootBuiltins x = some (.type T)) (ha : PAi X (e :: es) t) (hn : x ≠ "__name__" := by decide) (hdb : (x == ("__debug__" : Str)) = false := by decide) (he : starEach (e :: es) X.env = (false, eval e X.env) :: starEach es X.env := by rfl) (hpl : (backTo pos (starEach es X.env)).any (·.1) = false := by rfl) : PEi X (.Call (.Name x p) (e :: es) [] pos) (tCB r t) := by with_unfolding_all exact pe_callTy (hc := hc) (hg := hg) (hm := hm) (hv := hv) (ha := ha) (hn := hn) (hdb := hdb) (he := he) (hpl := hpl)
theorem pe_bmI {id : String} (pa : PlainAttrs T) (slot : Slot T name id) (hty : typeOf (.builtin id) = pure (.type "method_descriptor")) (hm : MtR X id r) (ho : PEi X o to) (ha : PAi X (e :: es) t) (hbase : attributeBase o name X.env (eval o X.env) = eval o X.env := by rfl) (hfew : ((backTo cpos (starEach (e :: es) X.env)).all (fun x => !x.1) && (backToKw cpos (keywordEach [] X.env)).all (fun x => x.1.isSome)
      && decide ((e :: es).length + ([] : List Keyword).length + (if ([] : List Keyword).isEmpty then 0 else 1) < 30)) = true := by rfl) (hline : (apos.endLine == cpos.line) = true := by rfl) (hs : starEach (e :: es) X.env = (false, eval e X.env) :: starEach es X.env := by rfl) (hplain : (backTo cpos (starEach es X.env)).any (·.1) = false := by rfl) : PEi X (.Call (.Attribute o name apos) (e :: es) [] cpos) (tBM X.K T r to t) := by with_unfolding_all exact pe_bm (pa := pa) (slot := slot) (hty := hty) (hm := hm) (ho := ho) (ha := ha) (hbase := hbase) (hfew := hfew) (hline := hline) (hs := hs) (hplain := hplain)
theorem pe_ixI  {r : R2} (hr : IxR X r) (ha : PEi X a ta) (hb : PEi X b tb) (hs : PlainIx b) : PEi X (.Subscript a b pos) (tOp r ta tb) := by with_unfolding_all exact pe_ix (hr := hr) (ha := ha) (hb := hb) (hs := hs)
theorem pe_sliceI {lo hi : Option Expr} {r : V → Option Int → Option Int → Hp → VK → Prop} (hr : SlR X r) (he : PEi X e te) (hl : POi X lo tl) (hu : POi X hi th) : PEi X (.Subscript e (.Slice lo hi none p2) pos) (tSl r te tl th) := by with_unfolding_all exact pe_slice (hr := hr) (he := he) (hl := hl) (hu := hu)
theorem pe_tupI  {x1} (h : PAi X es t) : PEi X (.Tuple es x1 pos) (tTup t) := by with_unfolding_all exact pe_tup (h := h)
theorem pe_lstI  (h : PAi X es t) : PEi X (.List es pos) (tLst t) := by with_unfolding_all exact pe_lst (h := h)
theorem pe_compSI  {tg elt iter : Expr} {os : List Str} {pos : Pos} {scope : Scope} {wi : TI} {g : TG} {te : TE} {caps : List (Nat × Str)} (N : List Str) (sc : Scope) (hi : PIi X tg iter wi) (hg : ∀ cl C s0 H0 fp, PGi (cxComp X scope cl (os ++ caps.map (·.2)) C s0 H0 fp) tg g) (he : ∀ cl C s0 H0 fp, PEi (cxComp X scope cl (os ++ caps.map (·.2)) C s0 H0 fp) elt te) (ok : compOk N sc scope caps = true) (hN : X.N = N := by rfl) (hsc : X.env.scope = sc := by rfl) (hc : X.calm = true := by rfl) (hfs : ∀ v, foldedSetIterable iter X.env v = pure v := by intro _; rfl) : PEi X (.ListComp elt [⟨tg, iter, [], 0⟩] scope pos) (tCompG os.length wi g te (caps.map (·.1))) := by with_unfolding_all exact pe_compS (N := N) (sc := sc) (hi := hi) (hg := hg) (he := he) (ok := ok) (hN := hN) (hsc := hsc) (hc := hc) (hfs := hfs)
theorem pe_backwardI  (K : PySem.W.Frag) {e : Expr} {st : Expr} {te : TE} {ts : TO} {p2 pos : Pos} (he : PEi X e te) (hs : POi X (some st) ts) (hK : X.K = K := by rfl) : PEi X (.Subscript e (.Slice none none (some st) p2) pos) (tBack K te ts) := by with_unfolding_all exact pe_backward (K := K) (he := he) (hs := hs) (hK := hK)
theorem pa_nilI   : PAi X [] tNil := by with_unfolding_all exact pa_nil 
theorem pa_consI  (ha : PEi X e te) (hr : PAi X es t) (hs : starEach (e :: es) X.env = (false, eval e X.env) :: starEach es X.env := by rfl) : PAi X (e :: es) (tCons te t) := by with_unfolding_all exact pa_cons (ha := ha) (hr := hr) (hs := hs)
theorem pt_cmpRI  {op : CmpOp} {r : R2} (ho : OpR X (compareOp op) r) (ha : PEi X a ta) (hb : PEi X b tb) (hm : behindInMarks op b = false) : PTi X (.Compare a [op] [b] pos) (tTest (tOp r ta tb)) := by with_unfolding_all exact pt_cmpR (ho := ho) (ha := ha) (hb := hb) (hm := hm)
theorem pt_notI  (ha : PTi X a tA) : PTi X (.UnaryOp .Not a pos) (tNot tA) := by with_unfolding_all exact pt_not (ha := ha)
theorem pt_valI  {e : Expr} {t : TE} (h : PEi X e t) (he : ∀ whole, isTrue e X.env whole = (do let v ← whole; standAt e.pos; holding [v] (truthy v)) := by intro _; rfl) : PTi X e (tB t) := by with_unfolding_all exact pt_val (h := h) (he := he)
theorem PW_ptI  {X : Cx} {e : Expr} {t : TT} (h : PWi X e t) : PTi X e t := by with_unfolding_all exact L2.PW.pt (h := h)
theorem pw_and1I  (ha : PTi X a tA) : PWi X (.BoolOp .And [a] pos) tA := by with_unfolding_all exact pw_and1 (ha := ha)
theorem pw_or1I  (ha : PTi X a tA) : PWi X (.BoolOp .Or [a] pos) tA := by with_unfolding_all exact pw_or1 (ha := ha)
theorem pw_andI {rest : List Expr} (ha : PTi X a tA) (hb : PWi X (.BoolOp .And (b :: rest) pos) tB') : PWi X (.BoolOp .And (a :: b :: rest) pos) (tAnd tA tB') := by with_unfolding_all exact pw_and (ha := ha) (hb := hb)
theorem pw_orI {rest : List Expr} (ha : PTi X a tA) (hb : PWi X (.BoolOp .Or (b :: rest) pos) tB') : PWi X (.BoolOp .Or (a :: b :: rest) pos) (tOr tA tB') := by with_unfolding_all exact pw_or (ha := ha) (hb := hb)
theorem pss_nilI   : PSsi X [] tNext := by with_unfolding_all exact pss_nil 
theorem pss_consI {st : Stmt} {rest : List Stmt} (h1 : PSi X st t) (h2 : PSsi X rest u) : PSsi X (st :: rest) (tSeq t u) := by with_unfolding_all exact pss_cons (h1 := h1) (h2 := h2)
theorem pss_oneI {st : Stmt} (h1 : PSi X st t) : PSsi X [st] t := by with_unfolding_all exact pss_one (h1 := h1)
theorem ps_exprI  (he : PEi X e te) (hs : swapsWith e none pos.line X.env = pure false := by rfl) : PSi X (.Expr e pos) (tDrop te) := by with_unfolding_all exact ps_expr (he := he) (hs := hs)
theorem ps_retI  (he : PEi X e te) : PSi X (.Return (some e) pos) (tRet te) := by with_unfolding_all exact ps_ret (he := he)
theorem ps_ifI  {c : Expr} {a b : List Stmt} {tc : TT} (hc : PTi X c tc) (ha : PSsi X a t) (hb : PSsi X b u) : PSi X (.If c a b pos) (tIfS tc t u) := by with_unfolding_all exact ps_if (hc := hc) (ha := ha) (hb := hb)
theorem ps_neverI {st : Stmt}  : PSi X st tNever := by with_unfolding_all exact ps_never 
theorem ps_asgI  {tg e : Expr} {te : TE} {g : TG} (he : PEi X e te) (hg : PGi X tg g) (hs : swapsWithSole [tg] e pos.line X.env = pure false := by rfl) (hw : swappedStores [tg] e X.env = pure none := by rfl) (h1 : (assignEach [tg] X.env).map (·.2) = [assign tg X.env] := by rfl) : PSi X (.Assign [tg] e pos) (tAsg te g) := by with_unfolding_all exact ps_asg (he := he) (hg := hg) (hs := hs) (hw := hw) (h1 := h1)
theorem ps_setI  {i : Nat} {x : Str} {e : Expr} {te : TE} {pos' : Pos} (hN : X.N.Nodup) (hi : X.N[i]? = some x) (hx : Loc X.env.scope x) (he : PEi X e te) (hs : swapsWith e (some (.Name x pos')) pos.line X.env = pure false := by rfl) (hf : X.fn x = true ∨ X.env.scope.names.lookup x = some .local := by first | exact .inl rfl | exact .inr rfl | assumption) : PSi X (.Assign [.Name x pos'] e pos) (tAsg te (gName i)) := by with_unfolding_all exact ps_set (hN := hN) (hi := hi) (hx := hx) (he := he) (hs := hs) (hf := hf)
theorem ps_parI  {i j : Nat} {x y : Str} {a b : Expr} {ta : TA} {px py pt : Pos} {kt k2 pt2} (hc : X.calm = true) (hN : X.N.Nodup) (hi : X.N[i]? = some x) (hj : X.N[j]? = some y) (hij : i ≠ j) (hx : X.env.scope.names.lookup x = some .local) (hy : X.env.scope.names.lookup y = some .local) (ha : PAi X [a, b] ta) (hw : swappedStores [.Tuple [.Name x px, .Name y py] kt pt] (.Tuple [a, b] k2 pt2) X.env = pure (some [x, y])) (hs : swapsWithSole [.Tuple [.Name x px, .Name y py] kt pt] (.Tuple [a, b] k2 pt2) pos.line X.env = pure false := by rfl) : PSi X (.Assign [.Tuple [.Name x px, .Name y py] kt pt] (.Tuple [a, b] k2 pt2) pos) (tPar i j ta) := by with_unfolding_all exact ps_par (hc := hc) (hN := hN) (hi := hi) (hj := hj) (hij := hij) (hx := hx) (hy := hy) (ha := ha) (hw := hw) (hs := hs)
theorem ps_whileI  {c : Expr} {body : List Stmt} {tc : TT} {tb : TS} (hp : PassesOwn (model X.prog X.w) X.A X.env X.xe) (hc : PTi X c tc) (hb : PSsi X body tb) : PSi X (.While c body [] pos) (tWhile tc tb) := by with_unfolding_all exact ps_while (hp := hp) (hc := hc) (hb := hb)
theorem ps_forI  {iter : Expr} {body : List Stmt} {wi : TI} {g : TG} {tb : TS} {pos : Pos} (hp : PassesOwn (model X.prog X.w) X.A X.env X.xe) (hc : X.calm = true) (hi : PIi X tg iter wi) (hg : PGi X tg g) (hb : PSsi X body tb) (hs : ∀ x, foldedSetIterable iter X.env x = pure x := by intro _; rfl) : PSi X (.For tg iter body [] pos) (tFor wi g tb) := by with_unfolding_all exact ps_for (hp := hp) (hc := hc) (hi := hi) (hg := hg) (hb := hb) (hs := hs)
theorem pg_nameI  {i : Nat} {x : Str} (hN : X.N.Nodup) (hi : X.N[i]? = some x) (hx : Loc X.env.scope x) (hf : X.fn x = true ∨ X.env.scope.names.lookup x = some .local := by first | exact .inl rfl | exact .inr rfl | assumption) : PGi X (.Name x pos) (gName i) := by with_unfolding_all exact pg_name (hN := hN) (hi := hi) (hx := hx) (hf := hf)
theorem pgs_nilI   : PGsi X [] gNil := by with_unfolding_all exact pgs_nil 
theorem pgs_consI  {e : Expr} {es : List Expr} {t : TG} {u : TGs} (h1 : PGi X e t) (h2 : PGsi X es u) (hs : (assignEach (e :: es) X.env).map (·.2) = assign e X.env :: (assignEach es X.env).map (·.2) := by rfl) : PGsi X (e :: es) (gCons t u) := by with_unfolding_all exact pgs_cons (h1 := h1) (h2 := h2) (hs := hs)
theorem pg_tupKI  (K : PySem.W.Frag) {es : List Expr} {k : Nat} {t : TGs} {n : Nat} {pos : Pos} (hc : X.calm = true) (h : PGsi X es t) (hK : X.K = K := by rfl) (hn : (assignEach es X.env).length = n := by rfl) (hst : (assignEach es X.env).findIdx? (·.1) = none := by rfl) : PGi X (.Tuple es k pos) (gTup K n t) := by with_unfolding_all exact pg_tupK (K := K) (hc := hc) (h := h) (hK := hK) (hn := hn) (hst := hst)
theorem pg_subI  {o i : Expr} {to ti : TE} {t : TSet} (ho : PEi X o to) (hi : PEi X i ti) (hs : PSet X t) (ha : ∀ v, assign (.Subscript o i pos) X.env v = (do
      let ov ← holding [v] (eval o X.env)
      let iv ← holding [v, ov] (eval i X.env)
      standAt pos
      holding [v, ov, iv] (setItem ov iv v)
      release [v, ov, iv] []) := by intro _; rfl) : PGi X (.Subscript o i pos) (gSub to ti t) := by with_unfolding_all exact pg_sub (ho := ho) (hi := hi) (hs := hs) (ha := ha)
theorem pi_listI  {l : Expr} {tl : TE} (hl : PEi X l tl) : PIi X tg l (iList X.K tl) := by with_unfolding_all exact pi_list (hl := hl)
theorem pi_tupI  {l : Expr} {tl : TE} (hl : PEi X l tl) : PIi X tg l (iTup X.K tl) := by with_unfolding_all exact pi_tup (hl := hl)
theorem pi_range1I  {a : Expr} {ta : TA} {p pos : Pos} (hg : Gl X "range") (hm : X.mg "range" = none) (ha : PAi X [a] ta) (hs : starEach [a] X.env = [(false, eval a X.env)] := by rfl) : PIi X tg (.Call (.Name "range" p) [a] [] pos) (iRng1 ta) := by with_unfolding_all exact pi_range1 (hg := hg) (hm := hm) (ha := ha) (hs := hs)
theorem pi_range2I  {a b : Expr} {ta : TA} {p pos : Pos} (hg : Gl X "range") (hm : X.mg "range" = none) (ha : PAi X [a, b] ta) (hs : starEach [a, b] X.env = [(false, eval a X.env), (false, eval b X.env)] := by rfl) (hs2 : starEach [b] X.env = [(false, eval b X.env)] := by rfl) : PIi X tg (.Call (.Name "range" p) [a, b] [] pos) (iRng2 ta) := by with_unfolding_all exact pi_range2 (hg := hg) (hm := hm) (ha := ha) (hs := hs) (hs2 := hs2)
theorem pi_zipI  {a b : Expr} {ta : TA} {p pos ppos : Pos} {elts : List Expr} {k0 : Nat} (hg : Gl X "zip") (hm : X.mg "zip" = none) (ha : PAi X [a, b] ta) (he : starEach [a, b] X.env = (false, eval a X.env) :: starEach [b] X.env := by rfl) (hpl : (backTo pos (starEach [b] X.env)).any (·.1) = false := by rfl) : PIi X (.Tuple elts k0 ppos) (.Call (.Name "zip" p) [a, b] [] pos) (iZip X.K ta) := by with_unfolding_all exact pi_zip (hg := hg) (hm := hm) (ha := ha) (he := he) (hpl := hpl)
theorem po_noneI   : POi X none tNoPart := by with_unfolding_all exact po_none 
theorem po_someI  (h : PEi X e te) : POi X (some e) (tPart te) := by with_unfolding_all exact po_some (h := h)
theorem def_okI {P : Program} {w : World} {K : PySem.W.Frag} {mg : Str → Option Value} {base : Heap} {x : Str} {st : Stmt} {N ps : List Str} {k : Nat} {sp : Sp} (F : FunAt K mg x st ps) (S : FnScope N ps (defScope st)) (len : ∀ vs H Q E, sp vs H Q E → vs.length = ps.length) (hbody : ∀ (f : Addr) (cdv : Value) (A : Around) (outer : List Env) (s : Shared) (H : Hp) (vs : List V) (Q : VK) (E : XK), Room k (A.deeper (envOfC x (defScope st) s.heap.objs.size f cdv)) → sp vs H Q E →
      ∃ t, PSsi (cxOf CX0 P w K mg base N x (defScope st) f cdv A outer s H E).nox (defBody st) t ∧ t { nx := fun _ H' => Q .non H', rt := Q } (start N vs) H) : DefOk P w K mg base CX0 (k + 1) x ps sp := by with_unfolding_all exact def_ok (F := F) (S := S) (len := len) (hbody := hbody)
end
end Cv

namespace Cv
open PySem PySem.Spec PyProof.Rows L2
/-! ### points and steps -/
noncomputable def PtV (H : Hp) (v : V) (x y : Rat) : Prop := ∃ a vx vy, v = .ref a ∧ H a = some (.tup [vx, vy]) ∧ ShV H vx x ∧ ShV H vy y
theorem PtV.same {H H' : Hp} {v : V} {x y : Rat} (h : PtV H v x y) (e : Same H H') : PtV H' v x y := by
  obtain ⟨a, vx, vy, rfl, h, h1, h2⟩ := h
  exact ⟨a, vx, vy, rfl, e _ _ h, h1.same e, h2.same e⟩
end Cv
namespace Cv
open PySem PySem.Spec PyProof.Rows L2
/-! ### pairs that are not in lowest terms, as the law reckons them -/
noncomputable def RwV (H : Hp) (v : V) (t b : Int) : Prop := ∃ a, v = .ref a ∧ H a = some (.tup [.int t, .int b])
theorem RwV.same {H H' : Hp} {v : V} {t b : Int} (h : RwV H v t b) (e : Same H H') : RwV H' v t b := by
  obtain ⟨a, rfl, h⟩ := h
  exact ⟨a, rfl, e _ _ h⟩
theorem ShV.rw {H : Hp} {v : V} {q : Rat} (h : ShV H v q) : RwV H v q.num q.den := h
end Cv

namespace Cv
open PySem PySem.Spec PyProof.Rows L2
theorem upd_keep {H : Hp} {p b : Addr} {o x : HO} (h : H p = none) (e : H b = some x) : upd H p o b = some x := by rw [upd_ne (ne_of_none e h)]; exact e
theorem Bd.zero' : Bd 1 (0 : Rat) := ⟨⟨by decide⟩, ⟨by decide⟩⟩
theorem Bd.one' : Bd 1 (1 : Rat) := ⟨⟨by decide⟩, ⟨by decide⟩⟩
theorem PtV.tup {H H' : Hp} {v : V} {x y : Rat} (h : PtV H v x y) (e : Tup H H') : PtV H' v x y := by
  obtain ⟨a, vx, vy, rfl, h, h1, h2⟩ := h
  exact ⟨a, vx, vy, rfl, e _ _ h, h1.tup e, h2.tup e⟩
theorem RwV.tup {H H' : Hp} {v : V} {x y : Int} (h : RwV H v x y) (e : Tup H H') : RwV H' v x y := by
  obtain ⟨a, rfl, h⟩ := h
  exact ⟨a, rfl, e _ _ h⟩
theorem SqL.same' {K : PySem.W.Frag} {H H' : Hp} {a : Addr} {xs : List V} (h : SqL K H a xs) (e : Same H H') : SqL K H' a xs := e.seq h
theorem SqT.same' {K : PySem.W.Frag} {H H' : Hp} {a : Addr} {xs : List V} (h : SqT K H a xs) (e : Same H H') : SqT K H' a xs := SqT.same e h
end Cv

namespace Cv
open PySem PySem.Spec PyProof.Rows L2
/-! ### pairs not in lowest terms, by what they are worth -/
noncomputable def RwQ (H : Hp) (v : V) (r : Rat) (n : Nat) : Prop := ∃ t b : Int, RwV H v t b ∧ 0 < b ∧ (t : Rat) = r * (b : Rat) ∧ Sz n t ∧ Sz n b
theorem RwQ.same {H H' : Hp} {v : V} {r : Rat} {n : Nat} (h : RwQ H v r n) (e : Same H H') : RwQ H' v r n := by
  obtain ⟨t, b, h1, h2⟩ := h
  exact ⟨t, b, h1.same e, h2⟩
theorem RwQ.tup {H H' : Hp} {v : V} {r : Rat} {n : Nat} (h : RwQ H v r n) (e : Tup H H') : RwQ H' v r n := by
  obtain ⟨t, b, h1, h2⟩ := h
  exact ⟨t, b, h1.tup e, h2⟩
theorem cast_ne {b : Int} (h : 0 < b) : (b : Rat) ≠ 0 := by
  intro z
  have : b = 0 := by exact_mod_cast z
  omega
theorem mulN {n m : Nat} {i j : Int} (h1 : Sz n i) (h2 : Sz m j) (h : n + m ≤ 100000000) : CMulA i j := mulB h1 h2 h
end Cv

namespace Cv
/-! ### curves by rows, over Rat -/
noncomputable abbrev Pt := Rat × Rat
/-! ### sizes: tops over one bottom -/
noncomputable def Ov (D : Int) (n : Nat) (x : Rat) : Prop := ∃ m : Int, x * (D : Rat) = (m : Rat) ∧ Sz n m
theorem Ov.mono {D : Int} {n k : Nat} {x : Rat} (h : Ov D n x) (hk : n ≤ k) : Ov D k x := by
  obtain ⟨m, e, z⟩ := h
  exact ⟨m, e, z.mono hk⟩
theorem Ov.bd {D : Int} {n d : Nat} {x : Rat} (h : Ov D n x) (hD : D ≠ 0) (hd : Sz d D) : Bd (max n d) x := by
  obtain ⟨m, e, z⟩ := h
  rw [eq_divInt hD e]
  exact Bd.of z hd hD
theorem Ov.add {D E : Int} {n m d e : Nat} {x y : Rat} (hx : Ov D n x) (hy : Ov E m y) (hd : Sz d D) (he : Sz e E) : Ov (D * E) (max (n + e) (m + d) + 1) (x + y) := by
  obtain ⟨m1, e1, z1⟩ := hx
  obtain ⟨m2, e2, z2⟩ := hy
  refine ⟨m1 * E + m2 * D, ?_, ?_⟩
  · simp only [Rat.intCast_add, Rat.intCast_mul]
    rw [← e1, ← e2]; grind
  · exact ((z1.mul he).add (z2.mul hd)).mono (by omega)
theorem Ov.mul {D E : Int} {n m : Nat} {x y : Rat} (hx : Ov D n x) (hy : Ov E m y) : Ov (D * E) (n + m) (x * y) := by
  obtain ⟨m1, e1, z1⟩ := hx
  obtain ⟨m2, e2, z2⟩ := hy
  refine ⟨m1 * m2, ?_, z1.mul z2⟩
  simp only [Rat.intCast_mul]
  rw [← e1, ← e2]; grind
theorem Bd.ov {n : Nat} {x : Rat} (h : Bd n x) : Ov x.den n x := ⟨x.num, (num_cast x).symm, h.num⟩
noncomputable def OvP (D : Int) (n : Nat) (p : Pt) : Prop := Ov D n p.1 ∧ Ov D n p.2
end Cv

namespace Cv
open PySem PySem.Spec PyProof.Rows L2
/-! ### lists of points -/
structure PtsV (H : Hp) (vs : List V) (ps : List Pt) : Prop where
  len : vs.length = ps.length
  get : ∀ (i : Nat) v p, vs[i]? = some v → ps[i]? = some p → PtV H v p.1 p.2
theorem PtsV.tup {H H' : Hp} {vs : List V} {ps : List Pt} (h : PtsV H vs ps) (t : Tup H H') : PtsV H' vs ps := ⟨h.len, fun i v p e1 e2 => (h.get i v p e1 e2).tup t⟩
theorem PtsV.same {H H' : Hp} {vs : List V} {ps : List Pt} (h : PtsV H vs ps) (t : Same H H') : PtsV H' vs ps := h.tup t.tup
theorem PtsV.nil (H : Hp) : PtsV H [] [] := ⟨rfl, fun i v p e _ => by simp at e⟩
theorem PtsV.snoc {H : Hp} {vs : List V} {ps : List Pt} {v : V} {p : Pt} (h : PtsV H vs ps) (hv : PtV H v p.1 p.2) : PtsV H (vs ++ [v]) (ps ++ [p]) := by
  refine ⟨by simp [h.len], fun i w q e1 e2 => ?_⟩
  by_cases hi : i < vs.length
  · rw [List.getElem?_append_left hi] at e1
    rw [List.getElem?_append_left (by rw [← h.len]; exact hi)] at e2
    exact h.get i w q e1 e2
  · rw [List.getElem?_append_right (by omega)] at e1
    rw [List.getElem?_append_right (by rw [← h.len]; omega), ← h.len] at e2
    cases hk : i - vs.length with
    | zero =>
      rw [hk] at e1 e2
      simp at e1 e2
      subst e1 e2
      exact hv
    | succ k => rw [hk] at e1; simp at e1
theorem PtsV.at {H : Hp} {vs : List V} {ps : List Pt} (h : PtsV H vs ps) {i : Nat} {p : Pt} (hp : ps[i]? = some p) : ∃ v, vs[i]? = some v ∧ PtV H v p.1 p.2 := by
  have hi : i < ps.length := (List.getElem?_eq_some_iff.mp hp).1
  have e : vs[i]? = some (vs[i]'(by rw [h.len]; exact hi)) := List.getElem?_eq_getElem _
  exact ⟨_, e, h.get i _ p e hp⟩
theorem PtsV.of {H : Hp} {vs : List V} {ps : List Pt} (hl : vs.length = ps.length) (h : ∀ (i : Nat) v p, vs[i]? = some v → ps[i]? = some p → PtV H v p.1 p.2) : PtsV H vs ps := ⟨hl, h⟩
/-! ### promises of the law's helpers -/
theorem atI_nat' {α : Type} {xs : List α} {j : Nat} {i : Int} {v : α} (e : i = (j : Int)) (h : xs[j]? = some v) : atI xs i = some v := by subst e; exact atI_nat h
end Cv

namespace Cv
open PySem PySem.Spec PyProof.Rows L2
theorem cut_from {α : Type} (f : α → V) (xs : List α) (k : Nat) (h : k ≤ xs.length) : cutV (xs.map f) (some (k : Int)) none = (xs.drop k).map f := by
  unfold cutV
  have e : HT.sIx (xs.map f).length 0 (some (k : Int)) = k := by
    have := HT.sIx_nat (xs.map f).length 0 k
    rw [List.length_map] at this
    rw [List.length_map]
    exact this.trans (by omega)
  rw [e, HT.sIx_none, ← List.map_drop]
  refine List.take_of_length_le ?_
  rw [List.length_map, List.length_drop, List.length_map]
  omega
theorem cut_fromI {α : Type} (f : α → V) (xs : List α) (k : Int) (n : Nat) (e : k = (n : Int)) (h : n ≤ xs.length) : cutV (xs.map f) (some k) none = (xs.drop n).map f := by subst e; exact cut_from f xs n h
theorem ov_divInt {B m : Int} {n : Nat} (hB : B ≠ 0) (h : Sz n m) : Ov B n (Rat.divInt m B) := by
  refine ⟨m, ?_, h⟩
  rw [Rat.divInt_eq_div]
  have hb' : (B : Rat) ≠ 0 := by
    intro z
    exact hB (by exact_mod_cast z)
  grind
/-- a list of lists of points -/
theorem getD_bnd {T : List Int} {lo hi : Int} (h : ∀ x ∈ T, lo ≤ x ∧ x ≤ hi) {j : Nat} (hj : j < T.length) : lo ≤ T.getD j 0 ∧ T.getD j 0 ≤ hi := by
  rw [List.getD_eq_getElem?_getD, List.getElem?_eq_getElem hj]
  exact h _ (List.getElem_mem hj)
/-- an item of a written table of numbers, and its bounds -/
theorem tab (T : List Int) (lo hi i : Int) (h : ∀ x ∈ T, lo ≤ x ∧ x ≤ hi) (h0 : 0 ≤ i) (h1 : i < (T.length : Int)) : ∃ v : Int, atI (T.map V.int) i = some (.int v) ∧ lo ≤ v ∧ v ≤ hi :=
  ⟨_, at_mapZ T i h0 h1, getD_bnd h (by omega)⟩
theorem sh_int (i : Int) : ((i : Rat).num = i) ∧ ((i : Rat).den = 1) := ⟨by simp, by simp⟩
theorem ShV.int {H : Hp} {a : Addr} {i : Int} (h : H a = some (.tup [.int i, .int 1])) : ShV H (.ref a) (i : Rat) := ⟨a, rfl, by rw [(sh_int i).1, (sh_int i).2]; exact h⟩
end Cv

namespace Cv
open PySem PySem.Spec PyProof.Rows L2
/-! ### maps -/
structure Mp where
  a : Rat
  b : Rat
  c : Rat
  d : Rat
  e : Rat
  f : Rat
noncomputable def MpV (H : Hp) (v : V) (m : Mp) : Prop := ∃ x v0 v1 v2 v3 v4 v5, v = .ref x ∧ H x = some (.tup [v0, v1, v2, v3, v4, v5]) ∧ ShV H v0 m.a ∧ ShV H v1 m.b ∧ ShV H v2 m.c ∧ ShV H v3 m.d ∧ ShV H v4 m.e ∧ ShV H v5 m.f
theorem MpV.tup {H H' : Hp} {v : V} {m : Mp} (h : MpV H v m) (t : Tup H H') : MpV H' v m := by
  obtain ⟨x, v0, v1, v2, v3, v4, v5, rfl, h, h0, h1, h2, h3, h4, h5⟩ := h
  exact ⟨x, v0, v1, v2, v3, v4, v5, rfl, t _ _ h, h0.tup t, h1.tup t, h2.tup t, h3.tup t, h4.tup t, h5.tup t⟩
theorem MpV.same {H H' : Hp} {v : V} {m : Mp} (h : MpV H v m) (t : Same H H') : MpV H' v m := h.tup t.tup
/-! the mathematics -/
theorem Ov.scale {D E : Int} {n e : Nat} {x : Rat} (h : Ov D n x) (he : Sz e E) : Ov (D * E) (n + e) x := by
  obtain ⟨m, e1, z⟩ := h
  refine ⟨m * E, ?_, z.mul he⟩
  rw [Rat.intCast_mul, Rat.intCast_mul, ← e1]; grind
/-! shares in a list, each of a bounded size -/
noncomputable def ShsV (n : Nat) (H : Hp) (vs : List V) : Prop := ∀ (i : Nat) v, vs[i]? = some v → ∃ q, ShV H v q ∧ Bd n q
theorem ShsV.tup {n : Nat} {H H' : Hp} {vs : List V} (h : ShsV n H vs) (t : Tup H H') : ShsV n H' vs := fun i v e => let ⟨q, w, b⟩ := h i v e; ⟨q, w.tup t, b⟩
theorem ShsV.mono {n m : Nat} {H : Hp} {vs : List V} (h : ShsV n H vs) (hm : n ≤ m) : ShsV m H vs := fun i v e => let ⟨q, w, b⟩ := h i v e; ⟨q, w, b.mono hm⟩
theorem ixN_of {n : Nat} {k : Int} (h0 : 0 ≤ k) (h1 : k < (n : Int)) : ixN n k = some k.toNat := by
  unfold ixN
  rw [if_pos h0, if_pos h1]
theorem same_upd {H H' : Hp} {D : Addr} {o : HO} (h : H D = none) (s : Same H H') : Same H (upd H' D o) := fun b u e => by rw [upd_ne (ne_of_none e h)]; exact s b u e
theorem PtsV.one {H : Hp} {v : V} {p : Pt} (h : PtV H v p.1 p.2) : PtsV H [v] [p] := ⟨rfl, fun i w q e1 e2 => by
  cases i with
  | zero => simp at e1 e2; subst e1 e2; exact h
  | succ i => simp at e1⟩
end Cv

namespace Cv
/-! ### axes: tops over all the bottoms -/
noncomputable def prodI : List Int → Int
  | [] => 1
  | b :: r => b * prodI r
theorem prodI_append (xs ys : List Int) : prodI (xs ++ ys) = prodI xs * prodI ys := by
  induction xs with
  | nil => simp [prodI]
  | cons x r ih => simp only [List.cons_append, prodI, ih, Int.mul_assoc]
theorem prodI_snoc (xs : List Int) (y : Int) : prodI (xs ++ [y]) = prodI xs * y := by rw [prodI_append]; simp [prodI]
theorem prodI_pos {xs : List Int} (h : ∀ x ∈ xs, 0 < x) : 0 < prodI xs := by
  induction xs with
  | nil => decide
  | cons x r ih => exact Int.mul_pos (h x (.head _)) (ih fun y hy => h y (.tail _ hy))
noncomputable def axR (tops bs : List Int) : List Rat := tops.map fun x => Rat.divInt x (prodI bs)
/-! ### lowest terms, bottom by bottom -/
theorem int_dvd {y x u : Int} (hc : Int.gcd y x = 1) (h : y ∣ x * u) : y ∣ u := by
  have h2 : y.natAbs ∣ x.natAbs * u.natAbs := by rw [← Int.natAbs_mul]; exact Int.natAbs_dvd_natAbs.mpr h
  exact Int.natAbs_dvd_natAbs.mp (Nat.Coprime.dvd_of_dvd_mul_left hc h2)
theorem gcd_parts (a b : Int) (hb : 0 < b) : ∃ g x y : Int, (Int.gcd a b : Int) = g ∧ 0 < g ∧ a = g * x ∧ b = g * y ∧ Int.gcd x y = 1 ∧ 0 < y ∧ a.fdiv g = x ∧ b.fdiv g = y := by
  have g0 : 0 < (Int.gcd a b : Int) := by
    have := Int.gcd_pos_of_ne_zero_right a (show b ≠ 0 by omega)
    omega
  obtain ⟨x, hx⟩ : (Int.gcd a b : Int) ∣ a := Int.gcd_dvd_left ..
  obtain ⟨y, hy⟩ : (Int.gcd a b : Int) ∣ b := Int.gcd_dvd_right ..
  have hc : Int.gcd x y = 1 := by
    have h1 : Int.gcd a b = Int.gcd ((Int.gcd a b : Int) * x) ((Int.gcd a b : Int) * y) := by rw [← hx, ← hy]
    rw [Int.gcd_mul_left, Int.natAbs_natCast] at h1
    have h2 : 0 < Int.gcd a b := by omega
    have h3 : Int.gcd a b * 1 = Int.gcd a b * Int.gcd x y := by rw [Nat.mul_one]; exact h1
    exact (Nat.eq_of_mul_eq_mul_left h2 h3).symm
  generalize (Int.gcd a b : Int) = g at g0 hx hy
  have hyp : 0 < y := by
    rw [hy] at hb
    rcases Int.lt_trichotomy y 0 with h | h | h
    · have := Int.mul_neg_of_pos_of_neg g0 h; omega
    · rw [h, Int.mul_zero] at hb; omega
    · exact h
  refine ⟨g, x, y, rfl, g0, hx, hy, hc, hyp, ?_, ?_⟩
  · rw [Int.fdiv_eq_ediv_of_nonneg _ (Int.le_of_lt g0), hx]
    exact Int.mul_ediv_cancel_left _ (by omega)
  · rw [Int.fdiv_eq_ediv_of_nonneg _ (Int.le_of_lt g0), hy]
    exact Int.mul_ediv_cancel_left _ (by omega)
/-! ### a common bottom -/
theorem den_dvd {q : Rat} {D : Int} {n : Nat} (h : Ov D n q) : (q.den : Int) ∣ D := by
  obtain ⟨m, e, _⟩ := h
  have h1 := num_cast q
  have hd := den_cast_ne q
  have e2 : (q.num : Rat) * (D : Rat) = (m : Rat) * ((q.den : Int) : Rat) := by rw [h1, ← e]; grind
  have e3 : q.num * D = m * q.den := by exact_mod_cast e2
  have hr : Int.gcd q.den q.num = 1 := by rw [Int.gcd_comm]; exact q.reduced
  exact int_dvd hr ⟨m, by rw [e3]; exact Int.mul_comm ..⟩
theorem lcm_step {W d D : Int} (hd : 0 < d) (h1 : W ∣ D) (h2 : d ∣ D) : d ∣ W * d.fdiv (Int.gcd W d) ∧ W * d.fdiv (Int.gcd W d) ∣ D ∧ 0 < d.fdiv (Int.gcd W d) ∧ 0 < (Int.gcd W d : Int) ∧ (Int.gcd W d : Int) ∣ d := by
  obtain ⟨g, x, y, eg, g0, hx, hy, hc, hyp, ex, ey⟩ := gcd_parts W d hd
  rw [eg, ey]
  refine ⟨⟨x, by rw [hx, hy]; grind⟩, ?_, hyp, g0, ⟨y, hy⟩⟩
  obtain ⟨u, hu⟩ := h1
  obtain ⟨v, hv⟩ := h2
  have e : x * u = y * v := by
    have : g * (x * u) = g * (y * v) := by rw [← Int.mul_assoc, ← Int.mul_assoc, ← hx, ← hy, ← hu, hv]
    exact Int.eq_of_mul_eq_mul_left (by omega) this
  obtain ⟨w, hw⟩ := int_dvd (y := y) (x := x) (u := u) (by rw [Int.gcd_comm]; exact hc) ⟨v, e⟩
  exact ⟨w, by rw [hu, hw]; grind⟩
theorem sz_dvd {n : Nat} {x D : Int} (hD : D ≠ 0) (h : x ∣ D) (z : Sz n D) : Sz n x := z.le (Nat.le_of_dvd (by omega) (Int.natAbs_dvd_natAbs.mpr h))
end Cv

namespace Cv
open PySem PySem.Spec PyProof.Rows L2
/-! ### lists of shares, axes -/
structure ShL (H : Hp) (vs : List V) (qs : List Rat) : Prop where
  len : vs.length = qs.length
  get : ∀ (i : Nat) v q, vs[i]? = some v → qs[i]? = some q → ShV H v q
theorem ShL.tup {H H' : Hp} {vs : List V} {qs : List Rat} (h : ShL H vs qs) (t : Tup H H') : ShL H' vs qs := ⟨h.len, fun i v q e1 e2 => (h.get i v q e1 e2).tup t⟩
theorem ShL.same {H H' : Hp} {vs : List V} {qs : List Rat} (h : ShL H vs qs) (t : Same H H') : ShL H' vs qs := h.tup t.tup
theorem ShL.at {H : Hp} {vs : List V} {qs : List Rat} (h : ShL H vs qs) {i : Nat} {q : Rat} (hq : qs[i]? = some q) : ∃ v, vs[i]? = some v ∧ ShV H v q := by
  have hi : i < qs.length := (List.getElem?_eq_some_iff.mp hq).1
  have e : vs[i]? = some (vs[i]'(by rw [h.len]; exact hi)) := List.getElem?_eq_getElem _
  exact ⟨_, e, h.get i _ q e hq⟩
theorem ShL.atV {H : Hp} {vs : List V} {qs : List Rat} (h : ShL H vs qs) {i : Nat} {v : V} (hv : vs[i]? = some v) : ∃ q, qs[i]? = some q ∧ ShV H v q := by
  have hi : i < vs.length := (List.getElem?_eq_some_iff.mp hv).1
  have e : qs[i]? = some (qs[i]'(by rw [← h.len]; exact hi)) := List.getElem?_eq_getElem _
  exact ⟨_, e, h.get i v _ hv e⟩
theorem PtsV.atV {H : Hp} {vs : List V} {ps : List Pt} (h : PtsV H vs ps) {i : Nat} {v : V} (hv : vs[i]? = some v) : ∃ p, ps[i]? = some p ∧ PtV H v p.1 p.2 := by
  have hi : i < vs.length := (List.getElem?_eq_some_iff.mp hv).1
  have e : ps[i]? = some (ps[i]'(by rw [← h.len]; exact hi)) := List.getElem?_eq_getElem _
  exact ⟨_, e, h.get i v _ hv e⟩
noncomputable def AxV (H : Hp) (v : V) (n : Nat) (tops bs : List Int) : Prop := ∃ a lt lb, v = .ref a ∧ H a = some (.tup [.ref lt, .ref lb]) ∧ H lt = some (.lst (tops.map V.int)) ∧ H lb = some (.lst (bs.map V.int)) ∧ (∀ x ∈ tops, Sz n x) ∧ (∀ b ∈ bs, 0 < b ∧ Sz 9000 b) ∧ bs.length ≤ 100 ∧ tops.length ≤ 1000
theorem AxV.same {H H' : Hp} {v : V} {n : Nat} {tops bs : List Int} (h : AxV H v n tops bs) (s : Same H H') : AxV H' v n tops bs := by
  obtain ⟨a, lt, lb, e, h1, h2, h3, h4⟩ := h
  exact ⟨a, lt, lb, e, s _ _ h1, s _ _ h2, s _ _ h3, h4⟩
noncomputable def spCommon (K : PySem.W.Frag) : Sp := fun vs H Q _ => ∃ (a : Addr) (ws : List V) (qs : List Rat) (D : Int), vs = [.ref a] ∧ SqL K H a ws ∧ ShL H ws qs ∧ 0 < D ∧ Sz 9000 D ∧ (∀ q ∈ qs, (q.den : Int) ∣ D) ∧ qs.length ≤ 40 ∧
  ∀ (l : Addr) (bs : List Int) (H' : Hp), Same H H' → H' l = some (.lst (bs.map V.int)) → (∀ b ∈ bs, 0 < b ∧ Sz 9000 b) → (∀ q ∈ qs, (q.den : Int) ∣ prodI bs) → prodI bs ∣ D → bs.length ≤ qs.length → Q (.ref l) H'
noncomputable def spProduct (K : PySem.W.Frag) : Sp := fun vs H Q _ => ∃ (a : Addr) (bs : List Int), vs = [.ref a] ∧ SqL K H a (bs.map V.int) ∧ (∀ b ∈ bs, 0 < b ∧ Sz 9000 b) ∧ bs.length ≤ 100 ∧ Q (.int (prodI bs)) H
/-! the mathematics of the loops -/
theorem prod_sz {bs : List Int} (h : ∀ b ∈ bs, 0 < b ∧ Sz 9000 b) : Sz (9000 * bs.length + 1) (prodI bs) := by
  induction bs with
  | nil => exact ⟨by decide⟩
  | cons b r ih =>
    show Sz _ (b * prodI r)
    exact ((h b (.head _)).2.mul (ih fun c hc => h c (.tail _ hc))).mono (by rw [List.length_cons]; omega)
theorem top_of {q : Rat} {W : Int} (hW : 0 < W) (h : (q.den : Int) ∣ W) : Rat.divInt (q.num * W.fdiv q.den) W = q := by
  have hd : 0 < (q.den : Int) := by have := q.den_pos; omega
  obtain ⟨w, hw⟩ := h
  have e : W.fdiv q.den = w := by
    rw [Int.fdiv_eq_ediv_of_nonneg _ (Int.le_of_lt hd)]
    conv => lhs; rw [hw]
    exact Int.mul_ediv_cancel_left _ (by omega)
  rw [e]
  symm
  refine eq_divInt (by omega) ?_
  have h1 := num_cast q
  rw [hw]
  simp only [Rat.intCast_mul]
  rw [h1]; grind
theorem quo_sz {n : Nat} {W d : Int} (hW : 0 < W) (hd : 0 < d) (h : d ∣ W) (z : Sz n W) : Sz n (W.fdiv d) := by
  obtain ⟨w, hw⟩ := h
  have e : W.fdiv d = w := by
    rw [Int.fdiv_eq_ediv_of_nonneg _ (Int.le_of_lt hd)]
    conv => lhs; rw [hw]
    exact Int.mul_ediv_cancel_left _ (by omega)
  rw [e]
  exact sz_dvd (by omega) ⟨d, by rw [hw]; exact Int.mul_comm ..⟩ z
theorem ints_at {bs : List Int} {i : Nat} {x : V} (h : (bs.map V.int)[i]? = some x) : ∃ b, bs[i]? = some b ∧ x = .int b := by
  rw [List.getElem?_map] at h
  cases e : bs[i]? with
  | none => rw [e] at h; cases h
  | some b => rw [e] at h; cases h; exact ⟨b, rfl, rfl⟩
theorem take_snoc {α : Type} {bs : List α} {i : Nat} {b : α} (h : bs[i]? = some b) : bs.take (i + 1) = bs.take i ++ [b] := by rw [List.take_succ, h]; rfl
theorem axR_len (t b : List Int) : (axR t b).length = t.length := by unfold axR; rw [List.length_map]
theorem ints_of {α : Type} {ys : List V} {qs : List α} {f : α → Int} (hl : ys.length = qs.length) (h : ∀ (i : Nat) v, ys[i]? = some v → ∀ q, qs[i]? = some q → v = .int (f q)) : ys = (qs.map f).map V.int := by
  refine List.ext_getElem? fun i => ?_
  rw [List.getElem?_map, List.getElem?_map]
  cases e : ys[i]? with
  | none =>
    have : qs[i]? = none := List.getElem?_eq_none (by have := List.getElem?_eq_none_iff.mp e; omega)
    rw [this]; rfl
  | some v =>
    have hi : i < qs.length := by have := (List.getElem?_eq_some_iff.mp e).1; omega
    have e2 : qs[i]? = some qs[i] := List.getElem?_eq_getElem hi
    rw [h i v e _ e2, e2]; rfl
theorem axR_tops {qs : List Rat} {bs : List Int} (hb : 0 < prodI bs) (h : ∀ q ∈ qs, (q.den : Int) ∣ prodI bs) : axR (qs.map fun q => q.num * (prodI bs).fdiv q.den) bs = qs := by
  unfold axR
  rw [List.map_map]
  conv => rhs; rw [← List.map_id qs]
  refine List.map_congr_left fun q hq => ?_
  exact top_of hb (h q hq)
theorem ShL.map {H : Hp} {ys : List V} {ps : List Pt} {f : Pt → Rat} (hl : ys.length = ps.length) (h : ∀ (i : Nat) v, ys[i]? = some v → ∀ p, ps[i]? = some p → ShV H v (f p)) : ShL H ys (ps.map f) := by
  refine ⟨by rw [hl, List.length_map], fun i v q e1 e2 => ?_⟩
  rw [List.getElem?_map] at e2
  cases e3 : ps[i]? with
  | none => rw [e3] at e2; cases e2
  | some p => rw [e3] at e2; cases e2; exact h i v e1 p e3
theorem int_at {t : List Int} {i : Nat} {x : Int} (h : t[i]? = some x) : ((t.map V.int)[i]?).getD V.non = .int x := by rw [List.getElem?_map, h]; rfl
end Cv

namespace Cv
open PySem PySem.Spec PyProof.Rows L2
/-! ### rows, polar points, cuts and stretches of the program -/
/-- a curve as the program takes it: its seats, a common bottom, sizes -/
theorem AxV.lst {H : Hp} {v : V} {n : Nat} {tops bs : List Int} {l : Addr} {ls : List Addr} {o : HO} (h : AxV H v n tops bs) (hl : H l = some (.lst (ls.map V.ref))) (h1 : 1 ≤ ls.length) : AxV (upd H l o) v n tops bs := by
  obtain ⟨a, lt, lb, e, g1, g2, g3, g4⟩ := h
  have ne : ∀ (b : Addr) (xs : List Int), H b = some (.lst (xs.map V.int)) → b ≠ l := fun b xs e z => by
    rw [z, hl] at e
    have e' : ls.map V.ref = xs.map V.int := by simpa using e
    cases ls with
    | nil => simp at h1
    | cons x r =>
      cases xs with
      | nil => simp at e'
      | cons y s => simp at e'
  have na : a ≠ l := fun z => by rw [z, hl] at g1; cases g1
  exact ⟨a, lt, lb, e, by rw [upd_ne na]; exact g1, by rw [upd_ne (ne _ _ g2)]; exact g2, by rw [upd_ne (ne _ _ g3)]; exact g3, g4⟩
/-- the first points of the rows, the last points from the last row back -/
theorem flat_rep {α : Type} (n : Nat) (x : α) : (List.replicate n [x]).flatten = List.replicate n x := by
  induction n with
  | zero => rfl
  | succ n ih => rw [List.replicate_succ, List.flatten_cons, ih, List.replicate_succ]; rfl
theorem PtsV.range {H : Hp} {ys : List V} {n : Nat} {f : Nat → Pt} (hl : ys.length = n) (h : ∀ (i : Nat) v, ys[i]? = some v → PtV H v (f i).1 (f i).2) : PtsV H ys ((List.range n).map f) := by
  refine ⟨by rw [hl, List.length_map, List.length_range], fun i v p e1 e2 => ?_⟩
  have hi : i < n := by have := (List.getElem?_eq_some_iff.mp e1).1; omega
  rw [List.getElem?_map, List.getElem?_range hi] at e2
  cases e2
  exact h i v e1
end Cv

namespace Cv
open PySem PySem.Spec PyProof.Rows L2
/-! ### the order of the shares does not matter -/
/-! ### sizes -/
theorem cut_to (xs : List V) (k : Int) (n : Nat) (e : k = (n : Int)) : cutV xs none (some k) = xs.take n := by
  subst e
  unfold cutV
  rw [HT.sIx_nat, HT.sIx_none, List.drop_zero, Nat.sub_zero]
  rw [List.take_eq_take_iff]; omega
theorem PtsV.take {H : Hp} {ws : List V} {ps : List Pt} (h : PtsV H ws ps) (n : Nat) : PtsV H (ws.take n) (ps.take n) := by
  refine ⟨by rw [List.length_take, List.length_take, h.len], fun i v p e1 e2 => ?_⟩
  rw [List.getElem?_take] at e1 e2
  by_cases hi : i < n
  · rw [if_pos hi] at e1 e2; exact h.get i v p e1 e2
  · rw [if_neg hi] at e1; cases e1
end Cv

namespace Cv
/-! ### polar points share by share: each goes between as the share does -/
/-! ### a stretch's rows -/
/-! ### at 0 and at 1 -/
end Cv

namespace Cv
/-! ### sizes of the halves -/
end Cv

namespace Cv
open PySem PySem.Spec PyProof.Rows L2
/-! ### curves the other way round, stretches of stretches -/
/-! ### the bottoms of a stretch's seats -/
end Cv

namespace Cv
open PySem PySem.Spec PyProof.Rows L2
/-! ### curves and shares drawn from the script's cells -/
section
variable {X : Cx}
end
theorem ShL.nil (H : Hp) : ShL H [] [] := ⟨rfl, fun i v q e => by simp at e⟩
theorem ShL.snoc {H : Hp} {vs : List V} {qs : List Rat} {v : V} {q : Rat} (h : ShL H vs qs) (hv : ShV H v q) : ShL H (vs ++ [v]) (qs ++ [q]) := by
  refine ⟨by rw [List.length_append, List.length_append, h.len]; rfl, fun i x y e1 e2 => ?_⟩
  have hl := h.len
  by_cases hi : i < vs.length
  · rw [List.getElem?_append_left hi] at e1
    rw [List.getElem?_append_left (by omega)] at e2
    exact h.get i x y e1 e2
  · rw [List.getElem?_append_right (by omega)] at e1 e2
    rw [hl] at e1
    match hj : i - qs.length, e1, e2 with
    | 0, e1, e2 => cases e1; cases e2; exact hv
    | j + 1, e1, e2 => simp at e1
theorem len2 {α : Type} {l : List α} (h : l.length = 2) : ∃ x y, l = [x, y] := by
  match l, h with
  | [x, y], _ => exact ⟨x, y, rfl⟩
end Cv

namespace Cv
open PySem PySem.Spec PyProof.Rows L2
/-! ### how many ways, sums, powers -/
noncomputable def ch : Nat → Nat → Nat
  | _, 0 => 1
  | 0, _ + 1 => 0
  | n + 1, k + 1 => ch n k + ch n (k + 1)
noncomputable def pw (x : Rat) : Nat → Rat
  | 0 => 1
  | n + 1 => pw x n * x
noncomputable def sm (f : Nat → Rat) : Nat → Rat
  | 0 => 0
  | n + 1 => sm f n + f n
/-! ### the weighted sum -/
noncomputable def bn (x y : Rat) (r j : Nat) : Rat := ((ch r j : Int) : Rat) * pw x j * pw y (r - j)
noncomputable def gX (ps : List Pt) (j : Nat) : Rat := ((ps[j]?).getD (0, 0)).1
noncomputable def gY (ps : List Pt) (j : Nat) : Rat := ((ps[j]?).getD (0, 0)).2
/-! ### a walk over pairs -/
theorem for_plain2 {K : PySem.W.Frag} {J : It} {H1 : Hp} {n : Nat} {f f' : Nat → V} {g : TG} {tb : TS} {D : Ends} {σ : L2.St} (hJ : Plain2 K J H1 n f f') (Pv : Nat → L2.St → Hp → Prop) (h0 : Pv 0 σ H1) (hS : ∀ i σ H, Pv i σ H → Same H1 H)
    (hs : ∀ i a σ H H', i < n → Pv i σ H → Same H H' → SqT K H' a [f i, f' i] → g (.ref a) σ H' fun σ2 H2 => tb { D with nx := Pv (i + 1), ct := Pv (i + 1), bk := D.nx } σ2 H2) (hd : ∀ σ H, Pv n σ H → D.nx σ H) :
    ∃ W : Nat → Nat → L2.St → Hp → Prop, (∃ m, W 0 m σ H1) ∧ ∀ i m σ H, W i m σ H →
      (J.stop i H ∧ D.nx σ H) ∨ (J.go i H ∧ ∃ N : L2.St → Hp → Prop, (∀ σ' H', N σ' H' → ∃ m', m' < m ∧ W (i + 1) m' σ' H') ∧ ∀ x H', J.yld i H x H' → g x σ H' fun σ2 H2 => tb { D with nx := N, ct := N, bk := D.nx } σ2 H2) := by
  refine ⟨fun i m σ H => m = n - i ∧ i ≤ n ∧ Pv i σ H, ⟨n, by simp, Nat.zero_le _, h0⟩, ?_⟩
  rintro i m σ H ⟨rfl, hi, p⟩
  have q := hJ H (hS i σ H p) i
  by_cases hlt : i < n
  · refine .inr ⟨(q.1 hlt).1, Pv (i + 1), fun σ' H' p' => ⟨n - (i + 1), by omega, rfl, hlt, p'⟩, fun x H' y => ?_⟩
    obtain ⟨s, a, rfl, ht⟩ := (q.1 hlt).2 x H' y
    exact hs i a σ H H' hlt p s ht
  · have e : i = n := by omega
    subst e
    exact .inl ⟨q.2 rfl, hd σ H p⟩
/-! ### promises -/
end Cv

namespace Cv
open PySem PySem.Spec PyProof.Rows L2
section
variable {X : Cx}
theorem call_sumL (hc : X.calm = true) : CallR X (.builtin "sum") (fun xs H Q => ∃ (p : Addr) (ns : List Int), xs = [.ref p] ∧ SqL X.K H p (ns.map V.int) ∧ Q (.int ns.sum) H) := by
  intro pins s σ H xs us Q I r h
  obtain ⟨p, ns, rfl, hq, q⟩ := h
  obtain ⟨u, rfl, ru⟩ := vals_one r
  cases ru
  obtain ⟨its, rv, pl, hz⟩ := I.list hq
  have hi : IntsAre its ns := intsAre_of rv
  obtain ⟨ys, hx⟩ := hi.allInts.items
  have hl' : s.heap.IsList p (intItems ys) := hx ▸ pl.isList
  refine sum_intListG (show X.A.handled = none from I.ok.hd hc) hl' fun h' tk t' hk => ?_
  have e1 : ns = ys.toList.map (·.1) := by
    rw [← nums_intItems, ← hx]
    exact (show numsOf its.toArray.toList = ns from hi.numsOf).symm
  have e2 : preSum (numAt ys) ys.size = ns.sum := by
    rw [preSum_eq, List.take_of_length_le (by simp), e1]
  rw [e2]
  exact ⟨.int _, H, I.kept (h' := h') (t' := tk) hk, ⟨_, rfl⟩, q⟩
end
/-! ### the weights -/
end Cv

namespace Cv
open PySem PySem.Spec PyProof.Rows L2
/-! ### enumerate of a list -/
section
variable {X : Cx}
end
/-! ### least and greatest of a list of whole numbers -/
section
variable {X : Cx}
theorem call_minL (hc : X.calm = true) : CallR X (.builtin "min") (fun xs H Q => ∃ (p : Addr) (ns : List Int), xs = [.ref p] ∧ SqL X.K H p (ns.map V.int) ∧ 0 < ns.length ∧ ∀ M, M ∈ ns → (∀ a ∈ ns, M ≤ a) → Q (.int M) H) := by
  intro pins s σ H xs us Q I r h
  obtain ⟨p, ns, rfl, hq, hne, q⟩ := h
  obtain ⟨u, rfl, ru⟩ := vals_one r
  cases ru
  obtain ⟨its, rv, pl, hz⟩ := I.list hq
  have hi : IntsAre its ns := intsAre_of rv
  obtain ⟨ys, e⟩ := hi.allInts.items
  have hns : ns = ys.toList.map (·.1) := by rw [← hi.numsOf, ← nums_intItems, ← e]
  have hsz : 0 < ys.size := by have h3 := hne; rw [hns, List.length_map, Array.length_toList] at h3; exact h3
  have hl' : s.heap.IsList p (intItems ys) := e ▸ pl.isList
  refine min_intList (show X.A.handled = none from I.ok.hd hc) hl' hsz fun v h' tk hv hk => ?_
  obtain ⟨t, rfl⟩ := intItems_at hv
  obtain ⟨h1, h2⟩ := argBest_lt (numAt ys) (ys.size - 1)
  refine ⟨.int _, H, I.kept (h' := h') (t' := tk) hk, ⟨_, rfl⟩, q _ ?_ fun a ha => ?_⟩
  · rw [hns, numAt_eq]; exact getD_mem (by rw [List.length_map, Array.length_toList]; omega)
  · rw [hns] at ha
    obtain ⟨j, hj, rfl⟩ := mem_getD ha
    rw [List.length_map, Array.length_toList] at hj
    rw [← numAt_eq]; exact h2 j (by omega)
theorem call_maxL (hc : X.calm = true) : CallR X (.builtin "max") (fun xs H Q => ∃ (p : Addr) (ns : List Int), xs = [.ref p] ∧ SqL X.K H p (ns.map V.int) ∧ 0 < ns.length ∧ ∀ M, M ∈ ns → (∀ a ∈ ns, a ≤ M) → Q (.int M) H) := by
  intro pins s σ H xs us Q I r h
  obtain ⟨p, ns, rfl, hq, hne, q⟩ := h
  obtain ⟨u, rfl, ru⟩ := vals_one r
  cases ru
  obtain ⟨its, rv, pl, hz⟩ := I.list hq
  have hi : IntsAre its ns := intsAre_of rv
  obtain ⟨ys, e⟩ := hi.allInts.items
  have hns : ns = ys.toList.map (·.1) := by rw [← hi.numsOf, ← nums_intItems, ← e]
  have hsz : 0 < ys.size := by have h3 := hne; rw [hns, List.length_map, Array.length_toList] at h3; exact h3
  have hl' : s.heap.IsList p (intItems ys) := e ▸ pl.isList
  refine max_intList (show X.A.handled = none from I.ok.hd hc) hl' hsz fun v h' tk hv hk => ?_
  obtain ⟨t, rfl⟩ := intItems_at hv
  obtain ⟨h1, h2⟩ := argBest_gt (numAt ys) (ys.size - 1)
  refine ⟨.int _, H, I.kept (h' := h') (t' := tk) hk, ⟨_, rfl⟩, q _ ?_ fun a ha => ?_⟩
  · rw [hns, numAt_eq]; exact getD_mem (by rw [List.length_map, Array.length_toList]; omega)
  · rw [hns] at ha
    obtain ⟨j, hj, rfl⟩ := mem_getD ha
    rw [List.length_map, Array.length_toList] at hj
    rw [← numAt_eq]; exact h2 j (by omega)
end
end Cv

namespace Cv
open PySem PySem.Spec PyProof.Rows L2
/-! ### tuples that never change: ours, or the module's -/
noncomputable def TK (K : PySem.W.Frag) (H : Hp) (a : Addr) (xs : List V) : Prop := H a = some (.tup xs) ∨ ∃ (o : Obj) (its : Array Value) (n : Nat), K.lookup a = some o ∧ o.cls = .type "tuple" ∧ o.data = .seq its n ∧ its.size ≤ sizeLine ∧ Vals xs its.toList
theorem TK.of {K : PySem.W.Frag} {H : Hp} {a : Addr} {xs : List V} (h : H a = some (.tup xs)) : TK K H a xs := .inl h
theorem TK.sq {K : PySem.W.Frag} {H : Hp} {a : Addr} {xs : List V} (h : TK K H a xs) : SqT K H a xs := by
  rcases h with h | h
  · exact SqT.of h
  · exact .inr h
theorem TK.tup {K : PySem.W.Frag} {H H' : Hp} {a : Addr} {xs : List V} (h : TK K H a xs) (t : Tup H H') : TK K H' a xs := by
  rcases h with h | h
  · exact .inl (t _ _ h)
  · exact .inr h
theorem TK.same {K : PySem.W.Frag} {H H' : Hp} {a : Addr} {xs : List V} (h : TK K H a xs) (t : Same H H') : TK K H' a xs := h.tup t.tup
theorem TK.same' {K : PySem.W.Frag} {H H' : Hp} {a : Addr} {xs : List V} (t : Same H H') (h : TK K H a xs) : TK K H' a xs := h.tup t.tup
structure ShK (K : PySem.W.Frag) (H : Hp) (v : V) (q : Rat) : Prop where
  ex : ∃ a, v = .ref a ∧ TK K H a [.int q.num, .int (q.den : Int)]
structure PtK (K : PySem.W.Frag) (H : Hp) (v : V) (x y : Rat) : Prop where
  ex : ∃ a vx vy, v = .ref a ∧ TK K H a [vx, vy] ∧ ShK K H vx x ∧ ShK K H vy y
structure PtsK (K : PySem.W.Frag) (H : Hp) (vs : List V) (ps : List Pt) : Prop where
  len : vs.length = ps.length
  get : ∀ (i : Nat) v p, vs[i]? = some v → ps[i]? = some p → PtK K H v p.1 p.2
section
variable {K : PySem.W.Frag} {H H' : Hp} {v : V} {q x y : Rat} {vs : List V} {ps : List Pt}
theorem ShK.tup (h : ShK K H v q) (t : Tup H H') : ShK K H' v q := by obtain ⟨a, rfl, h⟩ := h; exact ⟨a, rfl, h.tup t⟩
theorem ShK.same (h : ShK K H v q) (t : Same H H') : ShK K H' v q := h.tup t.tup
theorem ShV.k (h : ShV H v q) : ShK K H v q := by obtain ⟨a, rfl, h⟩ := h; exact ⟨a, rfl, .inl h⟩
theorem PtK.tup (h : PtK K H v x y) (t : Tup H H') : PtK K H' v x y := by obtain ⟨a, vx, vy, rfl, h, h1, h2⟩ := h; exact ⟨a, vx, vy, rfl, h.tup t, h1.tup t, h2.tup t⟩
theorem PtK.same (h : PtK K H v x y) (t : Same H H') : PtK K H' v x y := h.tup t.tup
theorem PtV.k (h : PtV H v x y) : PtK K H v x y := by obtain ⟨a, vx, vy, rfl, h, h1, h2⟩ := h; exact ⟨a, vx, vy, rfl, .inl h, h1.k, h2.k⟩
theorem PtsK.tup (h : PtsK K H vs ps) (t : Tup H H') : PtsK K H' vs ps := ⟨h.len, fun i v p e1 e2 => (h.get i v p e1 e2).tup t⟩
theorem PtsK.same (h : PtsK K H vs ps) (t : Same H H') : PtsK K H' vs ps := h.tup t.tup
theorem PtsV.k (h : PtsV H vs ps) : PtsK K H vs ps := ⟨h.len, fun i v p e1 e2 => (h.get i v p e1 e2).k⟩
theorem PtsK.nil (K : PySem.W.Frag) (H : Hp) : PtsK K H [] [] := ⟨rfl, fun i v p e _ => by simp at e⟩
theorem PtsK.at (h : PtsK K H vs ps) {i : Nat} {p : Pt} (hp : ps[i]? = some p) : ∃ v, vs[i]? = some v ∧ PtK K H v p.1 p.2 := by
  have hi : i < ps.length := (List.getElem?_eq_some_iff.mp hp).1
  have e : vs[i]? = some (vs[i]'(by rw [h.len]; exact hi)) := List.getElem?_eq_getElem _
  exact ⟨_, e, h.get i _ p e hp⟩
theorem PtsK.range {n : Nat} {f : Nat → Pt} (hl : vs.length = n) (h : ∀ (i : Nat) v, vs[i]? = some v → PtK K H v (f i).1 (f i).2) : PtsK K H vs ((List.range n).map f) := by
  refine ⟨by rw [hl, List.length_map, List.length_range], fun i v p e1 e2 => ?_⟩
  have hi : i < n := by have := (List.getElem?_eq_some_iff.mp e1).1; omega
  rw [List.getElem?_map, List.getElem?_range hi] at e2
  cases e2
  exact h i v e1
end
/-! ### differences -/
noncomputable def dl (g : Nat → Rat) : Nat → Nat → Rat
  | 0, i => g i
  | k + 1, i => dl g k (i + 1) - dl g k i
/-! sizes -/
theorem Ov.imul {D : Int} {n m : Nat} {x : Rat} {c : Int} (h : Ov D n x) (hc : Sz m c) : Ov D (n + m) ((c : Rat) * x) := by
  obtain ⟨t, e, z⟩ := h
  refine ⟨c * t, ?_, (hc.mul z).mono (by omega)⟩
  rw [Rat.intCast_mul, ← e]; grind
theorem Ov.zero (D : Int) (n : Nat) : Ov D (n + 1) 0 := ⟨0, by simp, ⟨by show 0 < _; exact Nat.two_pow_pos _⟩⟩
/-! ### isinstance, also of the module's tuples -/
section
variable {X : Cx}
end
/-! ### promises -/
theorem ovp_bd4 {D : Int} {n d : Nat} {p : Pt} (hD : 0 < D) (zD : Sz d D) (h : OvP D n p) (k : Nat) (h1 : n ≤ k) (h2 : d ≤ k) : Bd k p.1 ∧ Bd k p.2 :=
  ⟨(h.1.bd (by omega) zD).mono (by omega), (h.2.bd (by omega) zD).mono (by omega)⟩
theorem ov_bd4 {D : Int} {n d : Nat} {x : Rat} (hD : 0 < D) (zD : Sz d D) (h : Ov D n x) (k : Nat) (h1 : n ≤ k) (h2 : d ≤ k) : Bd k x := (h.bd (by omega) zD).mono (by omega)
end Cv

namespace Cv
open PySem PySem.Spec PyProof.Rows L2
/-! ### a list is unpacked -/
section
variable {prog : Program} {w : World} {A : Around} {E : Value → Shared → Prop}
theorem draw_list {it t : Addr} {itz : Array Value} (hne : t ≠ it) : ∀ (n i : Nat) (s : Shared) (Q : List Value → Shared → Prop), s.heap.IsListIter it t i → s.heap.IsList t itz → i + n ≤ itz.size →
    (∀ h', h'.IsListIter it t (i + n) → Heap.SameBut it s.heap h' → Q ((itz.toList.drop i).take n) { s with heap := h' }) → wpAny (model prog w) A (draw (.ref it) n) Q E s
  | 0, i, s, Q, hit, _, _, hQ => by
    show wpAny _ _ (pure []) Q E s
    exact wpAny_pure (by simpa using hQ s.heap hit (Heap.SameBut.refl ..))
  | n + 1, i, s, Q, hit, ht, hle, hQ => by
    have hl9 : i < itz.size := by omega
    show wpAny _ _ (pyNext (.ref it) >>= _) Q E s
    refine wpAny_bind (wpAny_pyNext_list_item hit ht (x := itz[i]) (by simp [hl9]) fun hA hiA hsA => ?_)
    refine wpAny_bind (wpAny_holding (draw_list hne n (i + 1) _ _ hiA (ht.extBut hsA.extBut hne) (by omega) fun hB hiB hsB => wpAny_pure ?_))
    have hd : itz.toList.drop i = itz[i] :: itz.toList.drop (i + 1) := by simp [List.drop_eq_getElem_cons, hl9]
    have := hQ hB (by rw [show i + (n + 1) = i + 1 + n by omega]; exact hiB) (hsA.trans hsB)
    rw [hd, List.take_succ_cons] at this
    exact this
variable {s : Shared}
theorem unpackItems_list {t : Addr} {itz : Array Value} {Q : List Value → Shared → Prop} (hh : A.handled = none) (ht : s.heap.IsList t itz)
    (hQ : ∀ h', Heap.ExtBut s.heap.objs.size s.heap h' → Q itz.toList { s with heap := h' }) : wpAny (model prog w) A (unpackItems (.ref t) itz.size none) Q E s := by
  have hl9 : t ≠ s.heap.objs.size := by obtain ⟨o, ho, _⟩ := ht; exact Nat.ne_of_lt (Heap.lt_size ho)
  unfold unpackItems
  refine wpAny_bind ?_
  · unfold notIterableAtAll
    refine wpAny_bind (wpAny_specialOf ht.typeIs F.slot_list_iter.lookup ?_)
    refine wpAny_pure ?_
    simp only [if_false, Bool.false_eq_true]
    refine wpAny_bind (wpAny_holding (wpAny_pyIter_list ht ?_))
    refine wpAny_bind (wpAny_holding (draw_list hl9 itz.size 0 _ _ ⟨_, Heap.get?_push_size _ rfl, rfl, rfl⟩ (Heap.IsList.push ht _) (by omega) fun hA hiA hsA => ?_))
    have hal0 : List.take itz.size (List.drop 0 itz.toList) = itz.toList := by
      rw [List.drop_zero]; exact List.take_of_length_le (by simp)
    rw [hal0]
    rw [if_neg (by simp)]
    have htA : hA.IsList t itz := (Heap.IsList.push ht _).extBut hsA.extBut hl9
    refine wpAny_bind (wpAny_holding (wpAny_pyNext_list_end hh hiA htA (by simp) fun hB heB => ?_))
    simp only [if_false, Bool.false_eq_true, Option.isSome_none]
    refine wpAny_pure (hQ hB fun b o hb e => heB b o hb (hsA.extBut b o hb (Heap.get?_push_of_some _ e)))
theorem assign_Tuple_list {env : Env} {elts : List Expr} {x1} {pos : Pos} {t : Addr} {itz : Array Value} {Q : Unit → Shared → Prop} (hh : A.handled = none) (ht : s.heap.IsList t itz)
    (hn : (assignEach elts env).length = itz.size) (hstar : (assignEach elts env).findIdx? (·.1) = none)
    (h : ∀ h', Heap.ExtBut s.heap.objs.size s.heap h' → wpAny (model prog w) A (assignInOrder ((assignEach elts env).map (·.2)) itz.toList) Q E { s with heap := h' }) :
    wpAny (model prog w) A (assign (.Tuple elts x1 pos) env (.ref t)) Q E s := by
  rw [arm_assign_Tuple]
  refine wpAny_bind (wpAny_standAt ?_)
  unfold unpack
  rw [hn, hstar]
  exact wpAny_bind (wpAny_holding (unpackItems_list hh ht h))
end
section
variable {X : Cx}
noncomputable def gTupL (K : PySem.W.Frag) (n : Nat) (t : TGs) : TG := fun v σ H Q => ∃ a xs, v = .ref a ∧ SqL K H a xs ∧ xs.length = n ∧ t xs σ H Q
theorem pg_lstK (K : PySem.W.Frag) {es : List Expr} {k : Nat} {t : TGs} {n : Nat} {pos : Pos} (hc : X.calm = true) (h : PGs X es t) (hK : X.K = K := by rfl)
    (hn : (assignEach es X.env).length = n := by rfl) (hst : (assignEach es X.env).findIdx? (·.1) = none := by rfl) : PG X (.Tuple es k pos) (gTupL K n t) := by
  subst hK
  intro pins s σ H v u Q I r hw
  obtain ⟨a, xs, e1, hq, hl, hw⟩ := hw
  subst e1
  cases r
  obtain ⟨its, rv, ht, hz⟩ := I.list hq
  refine assign_Tuple_list (I.ok.hd hc) ht.isList (by simp [hn, ← hl, rv.length]) hst fun h' hx => ?_
  have I1 : Inv X pins σ H { s with heap := h' } := I.kept (t' := s.toks) fun b o e => hx b o (Nat.ne_of_lt (Heap.lt_size e)) e
  exact h pins _ σ H xs _ Q I1 (by simpa using rv) hw
theorem pg_lstKI (K : PySem.W.Frag) {es : List Expr} {k : Nat} {t : TGs} {n : Nat} {pos : Pos} (hc : X.calm = true) (h : PGsi X es t) (hK : X.K = K := by rfl)
    (hn : (assignEach es X.env).length = n := by rfl) (hst : (assignEach es X.env).findIdx? (·.1) = none := by rfl) : PGi X (.Tuple es k pos) (gTupL K n t) := by with_unfolding_all exact pg_lstK (K := K) (hc := hc) (h := h) (hK := hK) (hn := hn) (hst := hst)
end
end Cv

namespace Cv
open PySem PySem.Spec PyProof.Rows L2
/-! ### places: pairs of whole numbers, in lists -/
noncomputable abbrev Pl := Int × Int
structure PlsV (H : Hp) (vs : List V) (pl : List Pl) : Prop where
  len : vs.length = pl.length
  get : ∀ (i : Nat) v p, vs[i]? = some v → pl[i]? = some p → RwV H v p.1 p.2
section
variable {H H' : Hp} {vs : List V} {pl : List Pl}
theorem PlsV.tup (h : PlsV H vs pl) (t : Tup H H') : PlsV H' vs pl := ⟨h.len, fun i v p e1 e2 => (h.get i v p e1 e2).tup t⟩
theorem PlsV.same (h : PlsV H vs pl) (t : Same H H') : PlsV H' vs pl := h.tup t.tup
theorem PlsV.at (h : PlsV H vs pl) {i : Nat} {p : Pl} (hp : pl[i]? = some p) : ∃ a, vs[i]? = some (.ref a) ∧ H a = some (.tup [.int p.1, .int p.2]) := by
  have hi : i < pl.length := (List.getElem?_eq_some_iff.mp hp).1
  have e : vs[i]? = some (vs[i]'(by rw [h.len]; exact hi)) := List.getElem?_eq_getElem _
  obtain ⟨a, e2, h2⟩ := h.get i _ p e hp
  exact ⟨a, by rw [e, e2], h2⟩
end
theorem plain_pls {K : PySem.W.Frag} {a : Addr} {ws : List V} {pl : List Pl} {H1 : Hp} (h : SqL K H1 a ws) (hP : PlsV H1 ws pl) : Plain2 K (Itl K a) H1 pl.length (fun i => .int ((pl[i]?).getD (0, 0)).1) (fun i => .int ((pl[i]?).getD (0, 0)).2) := fun H2 s i => by
  refine ⟨fun hi => ?_, fun e => ⟨ws, s.seq h, by rw [hP.len]; omega⟩⟩
  obtain ⟨b, e1, hb⟩ := hP.at (List.getElem?_eq_getElem hi)
  refine ⟨⟨ws, _, s.seq h, e1⟩, fun x H' y => ?_⟩
  obtain ⟨rfl, y2⟩ := y
  have := y2 ws (s.seq h)
  rw [e1] at this
  refine ⟨L2.Same.refl _, b, (Option.some.inj this).symm, SqT.of ?_⟩
  show H' b = some (.tup [.int ((pl[i]?).getD (0, 0)).1, .int ((pl[i]?).getD (0, 0)).2])
  rw [List.getElem?_eq_getElem hi]
  exact s _ _ hb
structure WayV (H : Hp) (v : V) (B kd : Int) : Prop where
  ex : ∃ (a s b : Addr) (sx sy bx by_ : Int), v = .ref a ∧ H a = some (.tup [.int B, .int kd, .ref s, .ref b]) ∧ H s = some (.tup [.int sx, .int sy]) ∧ H b = some (.tup [.int bx, .int by_]) ∧ 1 ≤ B ∧ B ≤ 1000000007 ∧ sx.natAbs ≤ 20 ∧ sy.natAbs ≤ 20 ∧ bx.natAbs ≤ 3 ∧ by_.natAbs ≤ 3
theorem WayV.same {H H' : Hp} {v : V} {B kd : Int} (h : WayV H v B kd) (t : Same H H') : WayV H' v B kd := by
  obtain ⟨a, s, b, sx, sy, bx, by_, rfl, h1, h2, h3, r⟩ := h
  exact ⟨a, s, b, sx, sy, bx, by_, rfl, t _ _ h1, t _ _ h2, t _ _ h3, r⟩
noncomputable def ptsOf (B : Int) (pl : List Pl) : List Pt := pl.map fun p => (Rat.divInt p.1 B, Rat.divInt p.2 B)
/-! ### least and greatest -/
noncomputable def LeastQ (qs : List Rat) (m : Rat) : Prop := m ∈ qs ∧ ∀ q ∈ qs, m ≤ q
noncomputable def GreatQ (qs : List Rat) (m : Rat) : Prop := m ∈ qs ∧ ∀ q ∈ qs, q ≤ m
theorem LeastQ.one {qs : List Rat} {a b : Rat} (h1 : LeastQ qs a) (h2 : LeastQ qs b) : a = b := Rat.le_antisymm (h1.2 b h2.1) (h2.2 a h1.1)
theorem GreatQ.one {qs : List Rat} {a b : Rat} (h1 : GreatQ qs a) (h2 : GreatQ qs b) : a = b := Rat.le_antisymm (h2.2 a h1.1) (h1.2 b h2.1)
theorem LeastQ.of {qs rs : List Rat} {a : Rat} (h : LeastQ qs a) (e : ∀ q, q ∈ qs ↔ q ∈ rs) : LeastQ rs a := ⟨(e a).mp h.1, fun q hq => h.2 q ((e q).mpr hq)⟩
theorem GreatQ.of {qs rs : List Rat} {a : Rat} (h : GreatQ qs a) (e : ∀ q, q ∈ qs ↔ q ∈ rs) : GreatQ rs a := ⟨(e a).mp h.1, fun q hq => h.2 q ((e q).mpr hq)⟩
structure BoxV (H : Hp) (v : V) (xs ys : List Rat) : Prop where
  ex : ∃ (a : Addr) (v1 v2 v3 v4 : V) (q1 q2 q3 q4 : Rat), v = .ref a ∧ H a = some (.tup [v1, v2, v3, v4]) ∧ ShV H v1 q1 ∧ ShV H v2 q2 ∧ ShV H v3 q3 ∧ ShV H v4 q4 ∧ LeastQ xs q1 ∧ LeastQ ys q2 ∧ GreatQ xs q3 ∧ GreatQ ys q4
theorem BoxV.same {H H' : Hp} {v : V} {xs ys : List Rat} (h : BoxV H v xs ys) (t : Same H H') : BoxV H' v xs ys := by
  obtain ⟨a, v1, v2, v3, v4, q1, q2, q3, q4, rfl, h0, h1, h2, h3, h4, r⟩ := h
  exact ⟨a, v1, v2, v3, v4, q1, q2, q3, q4, rfl, t _ _ h0, h1.same t, h2.same t, h3.same t, h4.same t, r⟩
theorem BoxV.of {H : Hp} {v : V} {xs ys xs' ys' : List Rat} (h : BoxV H v xs ys) (e1 : ∀ q, q ∈ xs ↔ q ∈ xs') (e2 : ∀ q, q ∈ ys ↔ q ∈ ys') : BoxV H v xs' ys' := by
  obtain ⟨a, v1, v2, v3, v4, q1, q2, q3, q4, rfl, h0, h1, h2, h3, h4, r1, r2, r3, r4⟩ := h
  exact ⟨a, v1, v2, v3, v4, q1, q2, q3, q4, rfl, h0, h1, h2, h3, h4, r1.of e1, r2.of e2, r3.of e1, r4.of e2⟩
theorem div_le {x y P : Int} (hP : 0 < P) (h : x ≤ y) : Rat.divInt x P ≤ Rat.divInt y P := by
  have hP' : (0 : Rat) < (P : Rat) := by exact_mod_cast hP
  have hn : (P : Rat) ≠ 0 := cast_ne hP
  have e : ∀ z : Int, Rat.divInt z P * (P : Rat) = (z : Rat) := fun z => by rw [Rat.divInt_eq_div]; grind
  refine Rat.le_of_mul_le_mul_right ?_ hP'
  rw [e, e]
  exact_mod_cast h
/-! ### lists of whole numbers -/
end Cv

/-! Mathematics of a parting: why the walk round the differences ends (k50 to k65). -/
namespace Cv
/-- the turn between two steps -/
noncomputable def cr (p q : Int × Int) : Int := p.1 * q.2 - p.2 * q.1
/-- along a way -/
noncomputable def dt (w d : Int × Int) : Int := w.1 * d.1 + w.2 * d.2
theorem cr_self (p : Int × Int) : cr p p = 0 := by unfold cr; grind
theorem cr_neg (p q : Int × Int) : cr q p = - cr p q := by unfold cr; grind
/-- the way amid two steps -/
noncomputable def amid (r l : Int × Int) : Int × Int := (l.2 - r.2, r.1 - l.1)
theorem amid_dt (r l f : Int × Int) : dt (amid r l) f = cr r f + cr f l := by unfold dt amid cr; grind
theorem cone_eq1 (r l f d : Int × Int) : cr r l * cr d f = cr d l * cr r f + cr r d * cr l f := by unfold cr; grind
theorem cone_eq2 (r l f d : Int × Int) : cr r l * cr f d = cr d l * cr f r + cr r d * cr f l := by unfold cr; grind
theorem pos_of_mul {a b : Int} (ha : 0 < a) (h : 0 ≤ a * b) : 0 ≤ b := by
  rcases Int.lt_or_le b 0 with z | z
  · have := Int.mul_neg_of_pos_of_neg ha z; omega
  · exact z
theorem cone_left {r l f d : Int × Int} (h : 0 < cr r l) (h1 : 0 < cr r f) (h2 : cr f l < 0) (d1 : 0 ≤ cr r d) (d2 : 0 ≤ cr d l) : 0 ≤ cr d f := by
  refine pos_of_mul h ?_
  rw [cone_eq1]
  have a := Int.mul_nonneg d2 (show 0 ≤ cr r f by omega)
  have b := Int.mul_nonneg d1 (show 0 ≤ cr l f by rw [cr_neg]; omega)
  omega
theorem cone_right {r l f d : Int × Int} (h : 0 < cr r l) (h1 : 0 < cr f l) (h2 : cr r f < 0) (d1 : 0 ≤ cr r d) (d2 : 0 ≤ cr d l) : 0 ≤ cr f d := by
  refine pos_of_mul h ?_
  rw [cone_eq2]
  have a := Int.mul_nonneg d2 (show 0 ≤ cr f r by rw [cr_neg]; omega)
  have b := Int.mul_nonneg d1 (show 0 ≤ cr f l by omega)
  omega
noncomputable def cone (r l d : Int × Int) : Bool := decide (0 ≤ cr r d) && decide (0 ≤ cr d l)
theorem count_lt {α : Type} {p q : α → Bool} {L : List α} {f : α} (h : ∀ d ∈ L, p d = true → q d = true) (hf : f ∈ L) (hq : q f = true) (hp : p f = false) : L.countP p < L.countP q := by
  induction L with
  | nil => cases hf
  | cons a L ih =>
    have le : L.countP p ≤ L.countP q := List.countP_mono_left (fun d hd z => h d (List.mem_cons_of_mem _ hd) z)
    rw [List.countP_cons, List.countP_cons]
    rcases List.mem_cons.mp hf with rfl | hf'
    · rw [hp, hq]; simp; omega
    · have := ih (fun d hd => h d (List.mem_cons_of_mem _ hd)) hf'
      have ha := h a List.mem_cons_self
      cases hpa : p a with
      | false => simp; split <;> omega
      | true => rw [ha hpa]; simp; omega
/-- what is left to find: falls at every turn of the walk -/
noncomputable def muP (L : List (Int × Int)) (same : Bool) (r l : Int × Int) : Nat := if same then L.length + 1 else L.length - L.countP (cone r l)
theorem mu_first {L : List (Int × Int)} {r l r' l' : Int × Int} : muP L false r' l' < muP L true r l := by
  unfold muP
  simp
  omega
theorem mu_left {L : List (Int × Int)} {r l f : Int × Int} (hf : f ∈ L) (h : 0 < cr r l) (hw : dt (amid r l) f ≤ 0) (h1 : 0 < cr r f) : muP L false r f < muP L false r l := by
  rw [amid_dt] at hw
  have h2 : cr f l < 0 := by omega
  have lt := count_lt (p := cone r l) (q := cone r f) (L := L) (f := f) (fun d _ z => by
    unfold cone at z ⊢
    simp only [Bool.and_eq_true, decide_eq_true_eq] at z ⊢
    exact ⟨z.1, cone_left h h1 h2 z.1 z.2⟩) hf (by unfold cone; simp [cr_self]; omega) (by unfold cone; simp; intro _; omega)
  have b := List.countP_le_length (p := cone r f) (l := L)
  unfold muP
  simp
  omega
theorem mu_right {L : List (Int × Int)} {r l f : Int × Int} (hf : f ∈ L) (h : 0 < cr r l) (hw : dt (amid r l) f ≤ 0) (h1 : 0 < cr f l) : muP L false f l < muP L false r l := by
  rw [amid_dt] at hw
  have h2 : cr r f < 0 := by omega
  have lt := count_lt (p := cone r l) (q := cone f l) (L := L) (f := f) (fun d _ z => by
    unfold cone at z ⊢
    simp only [Bool.and_eq_true, decide_eq_true_eq] at z ⊢
    exact ⟨cone_right h h1 h2 z.1 z.2, z.2⟩) hf (by unfold cone; simp [cr_self]; omega) (by unfold cone; simp; intro z; omega)
  have b := List.countP_le_length (p := cone f l) (l := L)
  unfold muP
  simp
  omega
end Cv

/-! xs.index(y) of a list of whole numbers -/
namespace Cv
open PySem PySem.Spec PyProof.Rows L2
section
variable {X : Cx}
noncomputable def rIndex : V → List V → Hp → VK → Prop := fun x vs H Q => ∃ (l : Addr) (ms : List Int) (y : Int) (j : Nat), x = .ref l ∧ vs = [.int y] ∧ H l = some (.lst (ms.map V.int)) ∧ ms[j]? = some y ∧ (∀ m, m < j → ms[m]? ≠ some y) ∧ Q (.int (j : Int)) H
noncomputable def isI (y : Int) : Value → Bool
  | .int i _ => i == y
  | _ => false
theorem mt_index : MtM X "list.index" rIndex := by
  intro pins s σ H x vs v us Q I rx rv h
  obtain ⟨l, ms, y, j, rfl, rfl, hH, hj, hno, q⟩ := h
  cases rx
  obtain ⟨u, rfl, ru⟩ := rv.one
  obtain ⟨tk, rfl⟩ := ru
  obtain ⟨z, its, n, r, hl, e⟩ := I.lstM hH
  rw [List.length_map] at hl z
  have hat : ∀ (m : Nat) (i : Int), ms[m]? = some i → ∃ t, its[m]? = some (.int i t) := fun m i hm => by
    obtain ⟨u, e1, e2⟩ := Vals.get r (show (ms.map V.int)[m]? = some (.int i) by rw [List.getElem?_map, hm]; rfl)
    obtain ⟨t, rfl⟩ := e2
    exact ⟨t, e1⟩
  have hjl : j < ms.length := (List.getElem?_eq_some_iff.mp hj).1
  have hss : sizeLine < 2 ^ 62 := by decide
  refine call_meets F.slot_list_index ⟨_, e, rfl⟩ F.entry_list_index (F.args_list_index_2 _ _) (PySem.SeqAt.list_indexAt l its.toArray n none #[] (.int y tk) (isI y) j (by rw [List.size_toArray]; omega) (by omega) ?_ ?_) ⟨e, ?_, ?_⟩
  · obtain ⟨t, et⟩ := hat j y hj
    have : its.toArray[j]'(by rw [List.size_toArray]; omega) = .int y t := by
      rw [List.getElem_toArray]
      exact (List.getElem?_eq_some_iff.mp et).2
    rw [this]
    simp [isI]
  · intro m hm hmj
    rw [List.size_toArray] at hm
    obtain ⟨t, et⟩ := hat m (ms[m]'(by omega)) (List.getElem?_eq_getElem _)
    have : its.toArray[m]'(by rw [List.size_toArray]; omega) = .int (ms[m]'(by omega)) t := by
      rw [List.getElem_toArray]
      exact (List.getElem?_eq_some_iff.mp et).2
    rw [this]
    have hne := hno m hmj
    rw [List.getElem?_eq_getElem (by omega)] at hne
    simp only [isI]
    exact beq_eq_false_iff_ne.mpr (fun z => hne (by rw [z]))
  · intro w hw
    obtain ⟨m, hm, rfl⟩ := List.getElem_of_mem (List.mem_toArray.mp hw)
    obtain ⟨t, et⟩ := hat m (ms[m]'(by omega)) (List.getElem?_eq_getElem _)
    rw [(List.getElem?_eq_some_iff.mp et).2]
    exact (MeetsSeq.EqGives.int _ _ _ _).at _ _
  · exact ⟨.int (j : Int), _, I.tok _, ⟨_, rfl⟩, q⟩
/-- a = b = e -/
noncomputable def tAsg2 (te : TE) (g1 g2 : TG) : TS := fun D σ H => te σ H fun x H1 => g1 x σ H1 fun σ' H' => g2 x σ' H' D.nx
theorem ps_asg2 {t1 t2 e : Expr} {te : TE} {g1 g2 : TG} {pos : Pos} (he : PE X e te) (hg1 : PG X t1 g1) (hg2 : PG X t2 g2) (hs : swapsWithSole [t1, t2] e pos.line X.env = pure false := by rfl) (hw : swappedStores [t1, t2] e X.env = pure none := by rfl)
    (h1 : (assignEach [t1, t2] X.env).map (·.2) = [assign t1 X.env, assign t2 X.env] := by rfl) : PS X (.Assign [t1, t2] e pos) (tAsg2 te g1 g2) := by
  intro pins s σ H D I h
  refine wpAny_Assign_stores (thn (he pins s σ H _ I h) fun v s1 ⟨x, H1, I1, r1, q1⟩ => ?_) hs hw
  rw [h1]
  exact wpAny_bind (wpAny_holding (thn (hg1 pins s1 σ H1 x v _ I1 r1 q1) fun _ s2 ⟨σ2, H2, I2, q2⟩ => thn (hg2 pins s2 σ2 H2 x v _ I2 r1 q2) fun _ s3 q => q))
theorem ps_asg2I {t1 t2 e : Expr} {te : TE} {g1 g2 : TG} {pos : Pos} (he : PEi X e te) (hg1 : PGi X t1 g1) (hg2 : PGi X t2 g2) (hs : swapsWithSole [t1, t2] e pos.line X.env = pure false := by rfl) (hw : swappedStores [t1, t2] e X.env = pure none := by rfl) (h1 : (assignEach [t1, t2] X.env).map (·.2) = [assign t1 X.env, assign t2 X.env] := by rfl) : PSi X (.Assign [t1, t2] e pos) (tAsg2 te g1 g2) := by with_unfolding_all exact ps_asg2 (he := he) (hg1 := hg1) (hg2 := hg2) (hs := hs) (hw := hw) (h1 := h1)
end
/-- the module's tuple of four pairs -/
theorem kPair {K : PySem.W.Frag} {H : Hp} {B : Addr} {d : Option Addr} {s : Array (Option Value)} {n : Nat} {i j : Int} {t1 t2 : Tok} (l : K.lookup B = some ⟨.type "tuple", d, .seq #[.int i t1, .int j t2] n, s⟩) : SqT K H B [.int i, .int j] :=
  .inr ⟨_, _, _, l, rfl, rfl, by show 2 ≤ sizeLine; decide, .cons ⟨_, rfl⟩ (.cons ⟨_, rfl⟩ .nil)⟩
theorem kFour {K : PySem.W.Frag} {H : Hp} {A B1 B2 B3 B4 : Addr} {d : Option Addr} {s : Array (Option Value)} {n : Nat} (l : K.lookup A = some ⟨.type "tuple", d, .seq #[.ref B1, .ref B2, .ref B3, .ref B4] n, s⟩) : SqT K H A [.ref B1, .ref B2, .ref B3, .ref B4] :=
  .inr ⟨_, _, _, l, rfl, rfl, by show 4 ≤ sizeLine; decide, .cons rfl (.cons rfl (.cons rfl (.cons rfl .nil)))⟩
end Cv

namespace Cv
open PySem PySem.Spec PyProof.Rows L2
/-! ### the end of a list while an exception is handled; any of a list of truths there -/
section
variable {prog : Program} {w : World} {A : Around} {E : Value → Shared → Prop} {s : Shared}
end
section
variable {X : Cx}
end
end Cv

namespace Cv
open PySem PySem.Spec PyProof.Rows L2
/-! ### promises of what is refused -/
/-! ### is, is not of two truths -/
section
variable {X : Cx}
end
end Cv
namespace Cv
open PySem PySem.Spec PyProof.Rows L2
/-! ### what goes on is read once -/
end Cv

namespace Cv
open PySem PySem.Spec PyProof.Rows L2
/-- a def's body read in two parts: the second one is hidden while the first one is read -/
theorem if_mergeN {c : Bool} {body : TS} {D : Ends} {σ : L2.St} {H : Hp} (S : L2.St → Hp → Prop) (h : ∀ σ' H', S σ' H' → D.nx σ' H') (h1 : ∀ N : L2.St → Hp → Prop, (∀ σ' H', S σ' H' → N σ' H') → c = true → body { D with nx := N } σ H) (h2 : c = false → S σ H) : if c = true then body D σ H else tNext D σ H := by
  cases c with
  | true => rw [if_pos rfl]; exact h1 D.nx h rfl
  | false => rw [if_neg Bool.false_ne_true]; exact h σ H (h2 rfl)
theorem uln0 {α : Type} {P : List α → Prop} (h : P []) : ∀ us : List α, us.length = 0 → P us
  | [], _ => h
theorem ulnS {α : Type} {n : Nat} {P : List α → Prop} (h : ∀ a, ∀ us : List α, us.length = n → P (a :: us)) : ∀ us : List α, us.length = n + 1 → P us
  | [], e => nomatch e
  | a :: us, e => h a us (Nat.succ.inj e)
@[elab_as_elim] theorem uln1 {α : Type} {P : List α → Prop} (h : ∀ a, P [a]) (us : List α) (hl : us.length = 1) : P us := (ulnS fun a => uln0 (h a)) us hl
@[elab_as_elim] theorem uln2 {α : Type} {P : List α → Prop} (h : ∀ a b, P [a, b]) (us : List α) (hl : us.length = 2) : P us := (ulnS fun a => ulnS fun b => uln0 (h a b)) us hl
@[elab_as_elim] theorem uln3 {α : Type} {P : List α → Prop} (h : ∀ a b c, P [a, b, c]) (us : List α) (hl : us.length = 3) : P us := (ulnS fun a => ulnS fun b => ulnS fun c => uln0 (h a b c)) us hl
@[elab_as_elim] theorem uln4 {α : Type} {P : List α → Prop} (h : ∀ a b c d, P [a, b, c, d]) (us : List α) (hl : us.length = 4) : P us := (ulnS fun a => ulnS fun b => ulnS fun c => ulnS fun d => uln0 (h a b c d)) us hl
end Cv

namespace Cv
open PySem PySem.Spec PyProof.Rows L2
section
variable {X : Cx}
end
section
variable {K : PySem.W.Frag} {J : It} {H1 : Hp} {te : TE} {cs : L2.St} {Q : VK} {n : Nat}
end
end Cv

namespace Cv
open PySem PySem.Spec PyProof.Rows L2
/-! ### a list comprehension of two clauses -/
section
variable {prog : Program} {w : World} {A : Around} {R : Result → Shared → Prop} {s : Shared}
end
section
variable {X : Cx}
end
end Cv

namespace Cv
open PySem PySem.Spec PyProof.Rows L2
/-! ### lists of new lists -/
structure LsV (H1 H2 : Hp) (D : Addr) (ys : List V) (R : Nat → List V → Hp → Prop) : Prop where
  get : ∀ (i : Nat) (v : V), ys[i]? = some v → ∃ (l : Addr) (xs : List V), v = V.ref l ∧ H1 l = none ∧ l ≠ D ∧ H2 l = some (HO.lst xs) ∧ R i xs H2
  one : ∀ (i j : Nat) (v : V), ys[i]? = some v → ys[j]? = some v → i = j
section
variable {K : PySem.W.Frag} {J : It} {H1 : Hp} {te : TE} {cs : L2.St} {Q : VK} {n : Nat}
end
theorem LsV.base {H0 H1 H2 : Hp} {D : Addr} {ys : List V} {R : Nat → List V → Hp → Prop} (h : LsV H1 H2 D ys R) (s : Same H0 H1) : LsV H0 H2 D ys R :=
  ⟨fun i v e => by obtain ⟨l, xs, e1, e2, e3⟩ := h.get i v e; exact ⟨l, xs, e1, s.free e2, e3⟩, h.one⟩
end Cv

namespace Cv
open PySem PySem.Spec PyProof.Rows L2
section
variable {X : Cx}
theorem pi_tupKI (K : PySem.W.Frag) {tg l : Expr} {tl : TE} (hl : PEi X l tl) (hK : X.K = K := by rfl) : PIi X tg l (iTup K tl) := by subst hK; exact pi_tupI hl
theorem pi_listKI (K : PySem.W.Frag) {tg l : Expr} {tl : TE} (hl : PEi X l tl) (hK : X.K = K := by rfl) : PIi X tg l (iList K tl) := by subst hK; exact pi_listI hl
end
end Cv

namespace Cv
open PySem PySem.Spec PyProof.Rows L2
/-! ### a class of the module and its methods -/
section
variable {P : Program} {w : World} {K : PySem.W.Frag} {mg : Str → Option Value} {base : Heap}
end
section
variable {X : Cx} {CX : CXT} {k j : Nat} {ps : List Str} {sp : Sp} {E : XK} {x m : Str} {p pos apos : Pos} {o e : Expr} {es : List Expr} {t : TA} {ta : TE} {C : Addr}
end
/-! ### isinstance of an exception and a tuple of classes -/
section
variable {X : Cx}
end
end Cv

namespace Cv
open PySem PySem.Spec PyProof.Rows L2
/-! ### list(zip(a, b)): a zip whose tuples are kept -/
section
variable {prog : Program} {w : World} {A : Around} {E : Value → Shared → Prop} {s : Shared}
theorem alive_ok {a : Addr} {o : Obj} {Q : Option Obj → Shared → Prop} (ho : s.heap.get? a = some o) (h : Q (some o) s) : wpAny (model prog w) A (loadIfAlive a) Q E s := fun Γ p _ => by
  show Sem.wp _ _ (Sem.loadIfAlive a Sem.pure) _ _ _ _
  rw [Sem.wp_loadIfAlive, ho]
  exact h
noncomputable abbrev ZipK (h : Heap) (z TI TO T : Addr) (b : Bool) : Prop :=
  h.get? z = some { cls := .type "zip", dict := none, data := .fields #[rawInt T, .bool b, .bool false, .ref TI, .ref TO], slots := #[] }
theorem kept_busy {z TI TO T : Addr} {b : Bool} {o : Obj} {Q : Bool → Shared → Prop} (hz : ZipK s.heap z TI TO T b) (hT : s.heap.get? T = some o) (hQ : ∀ h', ZipK h' z TI TO T true → Heap.SameBut z s.heap h' → Q false { s with heap := h' }) :
    wpAny (model prog w) A (Builtin.SmallTypes.ownedTupleIsFree (.ref z)) Q E s := by
  unfold Builtin.SmallTypes.ownedTupleIsFree
  refine wpAny_bind (wpAny_field hz rfl (x := rawInt T) rfl ?_)
  show wpAny _ _ (loadIfAlive ((T : Int)).toNat >>= _) _ _ _
  rw [Int.toNat_natCast]
  refine wpAny_bind (alive_ok hT ?_)
  simp only [Option.isNone_some, Bool.false_eq_true, if_false]
  refine wpAny_bind (wpAny_field hz rfl (x := .bool b) rfl ?_)
  cases b with
  | true =>
    show wpAny _ _ (pure false) _ _ _
    exact wpAny_pure (hQ s.heap hz (Heap.SameBut.refl ..))
  | false =>
    show wpAny _ _ (setField (.ref z) 1 (.bool true) >>= _) _ _ _
    exact wpAny_bind (wpAny_setField_rec hz (by simp) fun h' hz' hs' => wpAny_pure (hQ h' hz' hs'))
theorem kept_item {z TI TO T i1 i2 l1 l2 : Addr} {k1 k2 : Nat} {b : Bool} {o : Obj} {xs ys : Array Value} {x y : Value} {Q : Value → Shared → Prop} (D : ZipApart z TI TO i1 i2 l1 l2)
    (hz : ZipK s.heap z TI TO T b) (hT : s.heap.get? T = some o) (hTI : IsPair s.heap TI (.ref i1) (.ref i2))
    (h1 : s.heap.IsListIter i1 l1 k1) (h2 : s.heap.IsListIter i2 l2 k2) (hl1 : s.heap.IsList l1 xs) (hl2 : s.heap.IsList l2 ys) (hx : xs[k1]? = some x) (hy : ys[k2]? = some y)
    (hQ : ∀ h', ZipK h' z TI TO T true → h'.IsListIter i1 l1 (k1 + 1) → h'.IsListIter i2 l2 (k2 + 1) → IsPair h' s.heap.objs.size x y →
      (∀ c o, c ≠ z → c ≠ i1 → c ≠ i2 → s.heap.get? c = some o → h'.get? c = some o) → Q (.ref s.heap.objs.size) { s with heap := h' }) :
    wpAny (model prog w) A (Builtin.«zip.__next__» ⟨[.ref z], []⟩) (fun fin s' => ∃ v, fin = .done (.ret v) ∧ Q v s') E s := by
  show wpAny _ _ (field (.ref z) 2 >>= _) _ _ _
  refine wpAny_bind (wpAny_field hz rfl (x := .bool false) rfl ?_)
  show wpAny _ _ (field (.ref z) 3 >>= _) _ _ _
  refine wpAny_bind (wpAny_field hz rfl (x := .ref TI) rfl ?_)
  refine wpAny_bind (wpAny_seqItems hTI rfl ?_)
  show wpAny _ _ (Builtin.SmallTypes.ownedTupleIsFree (.ref z) >>= _) _ _ _
  refine wpAny_bind (kept_busy hz hT fun hA zA sA => ?_)
  simp only [Bool.false_eq_true, if_false]
  refine wpAny_bind ?_
  simp only [List.forIn_toArray, List.forIn_cons, List.forIn_nil]
  refine wpAny_bind (wpAny_bind (wpAny_holding ?_))
  show wpAny _ _ (Builtin.SmallTypes.nextOf (.ref i1) >>= _) _ _ _
  refine wpAny_bind (wpAny_nextOf_list_item (h1.extBut sA.extBut D.i1z) (hl1.extBut sA.extBut D.l1z) hx fun hB iB sB => wpAny_pure (wpAny_pure ?_))
  refine wpAny_bind (wpAny_bind (wpAny_holding ?_))
  show wpAny _ _ (Builtin.SmallTypes.nextOf (.ref i2) >>= _) _ _ _
  refine wpAny_bind (wpAny_nextOf_list_item ((h2.extBut sA.extBut D.i2z).extBut sB.extBut D.i12.symm) ((hl2.extBut sA.extBut D.l2z).extBut sB.extBut D.l2i1) hy fun hC iC sC => wpAny_pure (wpAny_pure (wpAny_pure ?_)))
  have hsz : hC.objs.size = s.heap.objs.size := by rw [sC.1, sB.1, sA.1]
  have up : ∀ c o, c ≠ z → c ≠ i1 → c ≠ i2 → s.heap.get? c = some o → hC.get? c = some o := fun c o c1 c3 c4 e => sC.extBut _ _ c4 (sB.extBut _ _ c3 (sA.extBut _ _ c1 e))
  have zC : ZipK hC z TI TO T true := sC.extBut _ _ D.i2z.symm (sB.extBut _ _ D.i1z.symm zA)
  have i1C : hC.IsListIter i1 l1 (k1 + 1) := iB.extBut sC.extBut D.i12
  show wpAny _ _ (newTuple [x, y] >>= _) _ _ _
  refine wpAny_bind (wpAny_newTuple (wpAny_pure ⟨_, rfl, ?_⟩))
  show Q (.ref hC.objs.size) _
  rw [hsz]
  refine hQ _ (Heap.get?_push_of_some _ zC) (i1C.at fun o e => Heap.get?_push_of_some _ e) (iC.at fun o e => Heap.get?_push_of_some _ e) ?_ fun c o c1 c3 c4 e => Heap.get?_push_of_some _ (up c o c1 c3 c4 e)
  rw [← hsz]
  exact Heap.get?_push_size _ rfl
theorem kept_end {z TI TO T i1 i2 l1 l2 : Addr} {k1 k2 : Nat} {b : Bool} {o : Obj} {xs ys : Array Value} {Q : Fin → Shared → Prop} (hh : A.handled = none) (D : ZipApart z TI TO i1 i2 l1 l2)
    (hz : ZipK s.heap z TI TO T b) (hT : s.heap.get? T = some o) (hTI : IsPair s.heap TI (.ref i1) (.ref i2))
    (h1 : s.heap.IsListIter i1 l1 k1) (h2 : s.heap.IsListIter i2 l2 k2) (hl1 : s.heap.IsList l1 xs) (hl2 : s.heap.IsList l2 ys) (hend : xs[k1]? = none ∨ ys[k2]? = none)
    (hE : ∀ h' e, (∀ c o, c ≠ z → c ≠ i1 → c ≠ i2 → s.heap.get? c = some o → h'.get? c = some o) → (∃ o, h'.get? e = some o ∧ o.cls = .type "StopIteration") → E (.ref e) { s with heap := h' }) :
    wpAny (model prog w) A (Builtin.«zip.__next__» ⟨[.ref z], []⟩) Q E s := by
  show wpAny _ _ (field (.ref z) 2 >>= _) _ _ _
  refine wpAny_bind (wpAny_field hz rfl (x := .bool false) rfl ?_)
  show wpAny _ _ (field (.ref z) 3 >>= _) _ _ _
  refine wpAny_bind (wpAny_field hz rfl (x := .ref TI) rfl ?_)
  refine wpAny_bind (wpAny_seqItems hTI rfl ?_)
  show wpAny _ _ (Builtin.SmallTypes.ownedTupleIsFree (.ref z) >>= _) _ _ _
  refine wpAny_bind (kept_busy hz hT fun hA zA sA => ?_)
  simp only [Bool.false_eq_true, if_false]
  refine wpAny_bind ?_
  simp only [List.forIn_toArray, List.forIn_cons, List.forIn_nil]
  refine wpAny_bind (wpAny_bind (wpAny_holding ?_))
  show wpAny _ _ (Builtin.SmallTypes.nextOf (.ref i1) >>= _) _ _ _
  cases hx : xs[k1]? with
  | none =>
    refine wpAny_bind (wpAny_nextOf_list_end hh (h1.extBut sA.extBut D.i1z) (hl1.extBut sA.extBut D.l1z) hx fun hB e sB he => ?_)
    exact hE hB e (fun c o c1 c3 _ q => sB _ _ c3 (sA.extBut _ _ c1 q)) he
  | some x =>
    have hy : ys[k2]? = none := by
      rcases hend with q | q
      · rw [hx] at q; cases q
      · exact q
    refine wpAny_bind (wpAny_nextOf_list_item (h1.extBut sA.extBut D.i1z) (hl1.extBut sA.extBut D.l1z) hx fun hB iB sB => wpAny_pure (wpAny_pure ?_))
    refine wpAny_bind (wpAny_bind (wpAny_holding ?_))
    show wpAny _ _ (Builtin.SmallTypes.nextOf (.ref i2) >>= _) _ _ _
    refine wpAny_bind (wpAny_nextOf_list_end hh ((h2.extBut sA.extBut D.i2z).extBut sB.extBut D.i12.symm) ((hl2.extBut sA.extBut D.l2z).extBut sB.extBut D.l2i1) hy fun hC e sC he => ?_)
    exact hE hC e (fun c o c1 c3 c4 q => sC _ _ c4 (sB.extBut _ _ c3 (sA.extBut _ _ c1 q))) he
/-- a zip that stands at turn i, its first tuple perhaps kept -/
noncomputable def ZSt (z TI TO i1 i2 l1 l2 : Addr) (i : Nat) (h : Heap) : Prop :=
  (IsZip h z TI TO .none ∨ ∃ T b o, ZipK h z TI TO T b ∧ h.get? T = some o ∧ T ≠ z ∧ T ≠ TO ∧ T ≠ i1 ∧ T ≠ i2) ∧ (∃ a b, IsPair h TO a b) ∧ IsPair h TI (.ref i1) (.ref i2) ∧ h.IsListIter i1 l1 i ∧ h.IsListIter i2 l2 i
theorem zst_item {z TI TO i1 i2 l1 l2 : Addr} {i : Nat} {xs ys : Array Value} {x y : Value} {Q : Option Value → Shared → Prop} (D : ZipApart z TI TO i1 i2 l1 l2) (st : ZSt z TI TO i1 i2 l1 l2 i s.heap)
    (hl1 : s.heap.IsList l1 xs) (hl2 : s.heap.IsList l2 ys) (hx : xs[i]? = some x) (hy : ys[i]? = some y)
    (hQ : ∀ h', ZSt z TI TO i1 i2 l1 l2 (i + 1) h' → IsPair h' s.heap.objs.size x y → (∀ c o, c ≠ z → c ≠ TO → c ≠ i1 → c ≠ i2 → s.heap.get? c = some o → h'.get? c = some o) → Q (some (.ref s.heap.objs.size)) { s with heap := h' }) :
    wpAny (model prog w) A (pyNext (.ref z)) Q E s := by
  obtain ⟨hm, ⟨a, b', hTO⟩, hTI, h1, h2⟩ := st
  rcases hm with hz | ⟨T, b, o, hz, hT, t1, t2, t3, t4⟩
  · have neT : ∀ {c o}, s.heap.get? c = some o → s.heap.objs.size ≠ c := fun e => Nat.ne_of_gt (Heap.lt_size e)
    obtain ⟨o1, e1, _⟩ := id h1
    obtain ⟨o2, e2, _⟩ := id h2
    refine wpAny_pyNext_zip_item D hz hTI hTO h1 h2 hl1 hl2 hx hy fun h' a1 a2 a3 a4 a5 a6 a7 => hQ h' ⟨.inr ⟨_, _, _, a1, a5, neT hz, neT hTO, neT e1, neT e2⟩, ⟨_, _, a2⟩, a7 _ _ D.TIz D.TITO D.TIi1 D.TIi2 hTI, a3, a4⟩ a5 a7
  · have hTy : s.TypeIs (.ref z) "zip" := ⟨_, hz, rfl⟩
    unfold pyNext
    refine wpAny_bind (wpAny_attempt (wpAny_callSpecial?_slot (name := Str.ofString "__next__") hTy F.slot_zip_next
      (wpAny_call_entry F.slot_zip_next hTy F.entry_zip_next (kept_item D hz hT hTI h1 h2 hl1 hl2 hx hy fun h' a1 a3 a4 a5 a7 => wpAny_pure (hQ h' ⟨.inr ⟨T, _, o, a1, a7 T o t1 t3 t4 hT, t1, t2, t3, t4⟩, ⟨a, b', a7 _ _ D.TOz D.TOi1 D.TOi2 hTO⟩, a7 _ _ D.TIz D.TIi1 D.TIi2 hTI, a3, a4⟩ a5 fun c o c1 _ c3 c4 e => a7 c o c1 c3 c4 e)) (F.args_zip_next_1 _))))
theorem zst_end {z TI TO i1 i2 l1 l2 : Addr} {i : Nat} {xs ys : Array Value} {Q : Option Value → Shared → Prop} (hh : A.handled = none) (D : ZipApart z TI TO i1 i2 l1 l2) (st : ZSt z TI TO i1 i2 l1 l2 i s.heap)
    (hl1 : s.heap.IsList l1 xs) (hl2 : s.heap.IsList l2 ys) (hend : xs[i]? = none ∨ ys[i]? = none)
    (hQ : ∀ h', (∀ c o, c ≠ z → c ≠ TO → c ≠ i1 → c ≠ i2 → s.heap.get? c = some o → h'.get? c = some o) → Q none { s with heap := h' }) :
    wpAny (model prog w) A (pyNext (.ref z)) Q E s := by
  obtain ⟨hm, ⟨a, b', hTO⟩, hTI, h1, h2⟩ := st
  rcases hm with hz | ⟨T, b, o, hz, hT, t1, t2, t3, t4⟩
  · exact wpAny_pyNext_zip_end hh D hz hTI hTO h1 h2 hl1 hl2 hend hQ
  · have hTy : s.TypeIs (.ref z) "zip" := ⟨_, hz, rfl⟩
    unfold pyNext
    refine wpAny_bind (wpAny_attempt (wpAny_callSpecial?_slot (name := Str.ofString "__next__") hTy F.slot_zip_next
      (wpAny_call_entry F.slot_zip_next hTy F.entry_zip_next (kept_end hh D hz hT hTI h1 h2 hl1 hl2 hend fun h' e hk he => ?_) (F.args_zip_next_1 _))))
    obtain ⟨oe, ho, hc⟩ := he
    refine wpAny_bind (wpAny_isInstance (T := "StopIteration") (b := true) ⟨oe, ho, hc⟩ isSubtype_stop ?_)
    exact wpAny_pure (hQ _ fun c o c1 _ c3 c4 q => hk c o c1 c3 c4 q)
end
theorem SqL.aside {K : PySem.W.Frag} {H : Hp} {a S : Addr} {o : HO} {xs : List V} (h : SqL K H a xs) (ne : a ≠ S) : SqL K (upd H S o) a xs := by
  rcases h with (h | ⟨ob, h⟩) | h
  · exact .inl (.inl (by rw [upd_ne ne]; exact h))
  · exact .inl (.inr ⟨ob, by rw [upd_ne ne]; exact h⟩)
  · exact .inr h
noncomputable def PairsL (H : Hp) (us xs ys : List V) : Prop := ∀ (j : Nat) v, us[j]? = some v → ∃ T, v = .ref T ∧ H T = some (.tup [(xs[j]?).getD .non, (ys[j]?).getD .non])
section
variable {X : Cx} {pins : List (Addr × Obj)} {σ : L2.St} {A : Around}
theorem ext_zip {R : Result → Shared → Prop} {z TI TO i1 i2 l1 l2 S : Addr} {xs ys : List V} (hh : A.handled = none) (D : ZipApart z TI TO i1 i2 l1 l2) (n1 : l1 ≠ S) (n2 : l2 ≠ S) (nf : S ∉ [z, TI, TO, i1, i2]) (hsz : xs.length ≤ 100000) (res : Value) :
    ∀ (k i : Nat) (s : Shared) (H : Hp) (us : List V), min xs.length ys.length - i = k → i ≤ min xs.length ys.length → Inv X pins σ H s → (∀ b ∈ [z, TI, TO, i1, i2], FpOk X pins H b) → ZSt z TI TO i1 i2 l1 l2 i s.heap → SqL X.K H l1 xs → SqL X.K H l2 ys →
    H S = some (.lst us) → us.length = i → PairsL H us xs ys →
    (∀ s' H' us', Inv X pins σ H' s' → (∀ b o, b ≠ S → H b = some o → H' b = some o) → H' S = some (.lst us') → us'.length = min xs.length ys.length → PairsL H' us' xs ys → R (.ok (.ret res)) s') →
    codeAny (model X.prog X.w) A (.builtin "list.extend.loop" ⟨[.ref S, .ref z, res], []⟩) R s := by
  intro k
  induction k with
  | zero =>
    intro i s H us hk hi I hf st q1 q2 hS hul hp hR
    have hin : i = min xs.length ys.length := by omega
    obtain ⟨its1, rv1, p1, _⟩ := I.list q1
    obtain ⟨its2, rv2, p2, _⟩ := I.list q2
    have r1 := rv1.length
    have r2 := rv2.length
    refine codeAny_builtin F.entry_extend_loop ?_
    rw [Around.under_plainId F.plain_extend_loop _]
    show wpAny _ A.in1 (pyNext (.ref z) >>= _) _ _ s
    refine wpAny_bind (zst_end (A := A.in1) hh D st p1.isList p2.isList ?_ fun h' kk => ?_)
    · rcases Nat.le_total its1.length its2.length with q | q
      · exact .inl (by simp; omega)
      · exact .inr (by simp; omega)
    have I1 : Inv X pins σ H { s with heap := h', toks := s.toks } := turnedL I hf fun b o hb e => by
      simp only [List.mem_cons, List.not_mem_nil, or_false, not_or] at hb
      exact kk b o hb.1 hb.2.2.1 hb.2.2.2.1 hb.2.2.2.2 e
    exact wpAny_pure (hR _ H us I1 (fun _ _ _ e => e) hS (by omega) hp)
  | succ k ih =>
    intro i s H us hk hi I hf st q1 q2 hS hul hp hR
    have hlt : i < min xs.length ys.length := by omega
    obtain ⟨its1, rv1, p1, _⟩ := I.list q1
    obtain ⟨its2, rv2, p2, _⟩ := I.list q2
    have ex : xs[i]? = some (xs[i]'(by omega)) := List.getElem?_eq_getElem _
    have ey : ys[i]? = some (ys[i]'(by omega)) := List.getElem?_eq_getElem _
    obtain ⟨u1, hu1, ru1⟩ := rv1.get ex
    obtain ⟨u2, hu2, ru2⟩ := rv2.get ey
    refine codeAny_builtin F.entry_extend_loop ?_
    rw [Around.under_plainId F.plain_extend_loop _]
    show wpAny _ A.in1 (pyNext (.ref z) >>= _) _ _ s
    refine wpAny_bind (zst_item (A := A.in1) D st p1.isList p2.isList (x := u1) (y := u2) (by simpa using hu1) (by simpa using hu2) fun h' st' pr kk => ?_)
    have hT : H s.heap.objs.size = none := I.hok.fresh (Nat.le_refl _)
    have kk' : ∀ b o, b ∉ [z, TI, TO, i1, i2] → s.heap.get? b = some o → h'.get? b = some o := fun b o hb e => by
      simp only [List.mem_cons, List.not_mem_nil, or_false, not_or] at hb
      exact kk b o hb.1 hb.2.2.1 hb.2.2.2.1 hb.2.2.2.2 e
    have I1 := turnedLay (t' := s.toks) (a := s.heap.objs.size) (o := .tup [xs[i]'(by omega), ys[i]'(by omega)]) (h' := h') I hf kk' (Nat.le_refl _) ⟨by show 2 ≤ sizeLine; decide, [u1, u2], .cons ru1 (.cons ru2 .nil), ⟨_, pr, rfl, _, rfl⟩⟩
    have neS : S ≠ s.heap.objs.size := ne_of_none hS hT
    have hS1 : (upd H s.heap.objs.size (.tup [xs[i]'(by omega), ys[i]'(by omega)])) S = some (.lst us) := by rw [upd_ne neS]; exact hS
    obtain ⟨_, its, nn, rv, eS⟩ := (show ObjOk X.prog X.w _ h' S (.lst us) from I1.hok S _ hS1)
    have rl := rv.length
    show wpAny _ A.in1 (updateSeq S (·.push (.ref s.heap.objs.size)) >>= _) _ _ _
    refine wpAny_bind (wpAny_updateSeq eS rfl (wpAny_pure ⟨plainId_quiet F.plain_extend_loop _, ?_⟩) (by simp; rw [← rl, hul]; exact small_line (by omega) |> Nat.le_of_lt) (by simp; rw [← rl, hul]; have := small_line (n := i) (by omega); omega))
    have oth : ∀ b o, b ≠ S → h'.get? b = some o → (h'.update S (Obj.mapSeq (·.push (.ref s.heap.objs.size)))).get? b = some o := fun b o hb e => (Heap.get?_update_other _ _ (Ne.symm hb)).trans e
    have eS2 := Heap.get?_update_self (Obj.mapSeq (·.push (Value.ref s.heap.objs.size))) eS rfl
    obtain ⟨c', eS3⟩ : ∃ c', (h'.update S (Obj.mapSeq (·.push (Value.ref s.heap.objs.size)))).get? S = some { cls := .type "list", data := .seq (its ++ [Value.ref s.heap.objs.size]).toArray c' } := ⟨_, by rw [eS2]; simp [Obj.mapSeq]; rfl⟩
    have I2 : Inv X pins σ (upd (upd H s.heap.objs.size (.tup [xs[i]'(by omega), ys[i]'(by omega)])) S (.lst (us ++ [.ref s.heap.objs.size]))) { s with heap := h'.update S (Obj.mapSeq (·.push (.ref s.heap.objs.size))), toks := s.toks } := by
      refine Inv.write (s := { s with heap := h', toks := s.toks }) (x := S) (e := S) I1 ?_ (.inl rfl) oth ⟨_, eS2⟩ ⟨?_, its ++ [.ref s.heap.objs.size], c', rv.append (.cons (show RelV (.ref s.heap.objs.size) (Value.ref s.heap.objs.size) from rfl) .nil), eS3⟩
      · rw [hS1]; trivial
      · rw [List.length_append]; exact Nat.le_of_lt (small_line (by simp; omega))
    obtain ⟨hm, ⟨oa, ob, hTO⟩, hTI, hi1, hi2⟩ := id st
    have ltz : z < s.heap.objs.size := by
      rcases hm with q | ⟨_, _, _, q, _⟩
      · exact Heap.lt_size q
      · exact Heap.lt_size q
    have lt1 : i1 < s.heap.objs.size := by obtain ⟨_, e, _⟩ := hi1; exact Heap.lt_size e
    have lt2 : i2 < s.heap.objs.size := by obtain ⟨_, e, _⟩ := hi2; exact Heap.lt_size e
    have ltf : ∀ b ∈ [z, TI, TO, i1, i2], b ≠ s.heap.objs.size := fun b hb => by
      simp only [List.mem_cons, List.not_mem_nil, or_false] at hb
      rcases hb with rfl | rfl | rfl | rfl | rfl
      · exact Nat.ne_of_lt ltz
      · exact Nat.ne_of_lt (Heap.lt_size hTI)
      · exact Nat.ne_of_lt (Heap.lt_size hTO)
      · exact Nat.ne_of_lt lt1
      · exact Nat.ne_of_lt lt2
    have ns : ∀ b ∈ [z, TI, TO, i1, i2], b ≠ S := fun b hb e => nf (e ▸ hb)
    have a1 : l1 ≠ s.heap.objs.size := by obtain ⟨_, e, _⟩ := p1.isList; exact Nat.ne_of_lt (Heap.lt_size e)
    have a2 : l2 ≠ s.heap.objs.size := by obtain ⟨_, e, _⟩ := p2.isList; exact Nat.ne_of_lt (Heap.lt_size e)
    refine ih (i + 1) _ _ (us ++ [.ref s.heap.objs.size]) (by omega) hlt I2 (fun b hb => ?_) ?_ (Cv.SqL.aside (Cv.SqL.aside q1 a1) n1) (Cv.SqL.aside (Cv.SqL.aside q2 a2) n2) upd_same (by rw [List.length_append, hul]; rfl) (fun j v e => ?_) fun s' H' us' I' e1 e2 e3 e4 => hR s' H' us' I' (fun b o hb e => e1 b o hb ?_) e2 e3 e4
    · obtain ⟨f0, fr⟩ := hf b hb
      exact ⟨by rw [upd_ne (ns b hb), upd_ne (ltf b hb)]; exact f0, fr⟩
    · obtain ⟨hm', ⟨pa, pb, hTO'⟩, hTI', hi1', hi2'⟩ := st'
      refine ⟨?_, ⟨pa, pb, oth _ _ (ns TO (by simp)) hTO'⟩, oth _ _ (ns TI (by simp)) hTI', hi1'.at fun o e => oth _ o (ns i1 (by simp)) e, hi2'.at fun o e => oth _ o (ns i2 (by simp)) e⟩
      rcases hm' with q | ⟨T, b, o, q, qT, t1, t2, t3, t4⟩
      · exact .inl (oth _ _ (ns z (by simp)) q)
      · by_cases hTS : T = S
        · exact .inr ⟨T, b, _, oth _ _ (ns z (by simp)) q, by rw [hTS]; exact eS2, t1, t2, t3, t4⟩
        · exact .inr ⟨T, b, o, oth _ _ (ns z (by simp)) q, oth _ _ hTS qT, t1, t2, t3, t4⟩
    · by_cases hj : j < us.length
      · rw [List.getElem?_append_left hj] at e
        obtain ⟨T, rfl, hT'⟩ := hp j v e
        refine ⟨T, rfl, ?_⟩
        have c1 : T ≠ S := fun q => by rw [q, hS] at hT'; cases hT'
        rw [upd_ne c1, upd_ne (ne_of_none hT' hT)]; exact hT'
      · rw [List.getElem?_append_right (by omega)] at e
        have hj0 : j - us.length = 0 := by
          cases q : j - us.length with
          | zero => rfl
          | succ k => rw [q] at e; simp at e
        rw [hj0] at e
        have e' : V.ref s.heap.objs.size = v := by simpa using e
        have hji : j = i := by omega
        subst hji
        refine ⟨_, e'.symm, ?_⟩
        rw [upd_ne (Ne.symm neS), upd_same, ex, ey]; rfl
    · rw [upd_ne hb, upd_ne (ne_of_none e hT)]; exact e
theorem zip_no_len : typeLookup (.type "zip") "__len__" = pure none := by rw [typeLookup_type, builtinLookup_eq_fast]; kernel_rfl
theorem zip_no_hint : typeLookup (.type "zip") "__length_hint__" = pure none := by rw [typeLookup_type, builtinLookup_eq_fast]; kernel_rfl
/-- list(zip(a, b)) -/
noncomputable def tZipL (K : PySem.W.Frag) (ta : TA) : TE := fun σ H Q => ta σ H fun vs H1 => ∃ (l1 l2 : Addr) (xs ys : List V), vs = [.ref l1, .ref l2] ∧ SqL K H1 l1 xs ∧ SqL K H1 l2 ys ∧ xs.length ≤ 100000 ∧
  ∀ (l : Addr) (us : List V) (H2 : Hp), H1 l = none → Same H1 H2 → H2 l = some (.lst us) → us.length = min xs.length ys.length → PairsL H2 us xs ys → Q (.ref l) H2
theorem list_zip {s : Shared} {H : Hp} {E : Value → Shared → Prop} {z TI TO i1 i2 l1 l2 : Addr} {xs ys : List V} {Q : Value → Shared → Prop} (hh : A.handled = none) (D : ZipApart z TI TO i1 i2 l1 l2) (I : Inv X pins σ H s) (hf : ∀ b ∈ [z, TI, TO, i1, i2], FpOk X pins H b)
    (st : ZSt z TI TO i1 i2 l1 l2 0 s.heap) (hTy : s.TypeIs (.ref z) "zip") (q1 : SqL X.K H l1 xs) (q2 : SqL X.K H l2 ys) (hsz : xs.length ≤ 100000)
    (hQ : ∀ s' H' us, Inv X pins σ H' s' → H s.heap.objs.size = none → (∀ b o, H b = some o → H' b = some o) → H' s.heap.objs.size = some (.lst us) → us.length = min xs.length ys.length → PairsL H' us xs ys → Q (.ref s.heap.objs.size) s') :
    wpAny (model X.prog X.w) A (call (.type "list") [.ref z]) Q E s := by
  refine callType_codes (Q₁ := fun obj s₁ => obj = .ref s.heap.objs.size ∧ s₁ = { s with heap := s.heap.push { cls := .type "list", data := .seq #[] } }) F.called_list (F.typeCall_list_1 _) F.entry_list_init
    (code_list_new _ ⟨rfl, rfl⟩) fun obj s₁ h₁ => ?_
  obtain ⟨rfl, rfl⟩ := h₁
  have hS : (s.heap.push { cls := .type "list", data := .seq #[] }).get? s.heap.objs.size = some { cls := .type "list", data := .seq #[] } := Heap.get?_push_size _ rfl
  refine ⟨⟨_, hS, rfl⟩, F.args_list_init_2 _ _, ?_⟩
  show wpAny _ _ (do let old ← Builtin.List.listItems (.ref s.heap.objs.size); Builtin.List.listUpdate (.ref s.heap.objs.size) (fun _ => #[]); letGo old.toList.reverse; Builtin.List.listExtendWith (.ref s.heap.objs.size) (.ref z) .none) _ _ _
  refine wpAny_bind ?_
  unfold Builtin.List.listItems
  refine wpAny_bind (wpAny_seqItems hS rfl (wpAny_pure ?_))
  show wpAny _ _ (updateSeq s.heap.objs.size (fun _ => #[]) >>= fun _ => letGo (#[] : Array Value).toList.reverse >>= fun _ => Builtin.List.listExtendWith (.ref s.heap.objs.size) (.ref z) .none) _ _ _
  refine wpAny_bind (wpAny_updateSeq hS rfl ?_)
  have hS2 := Heap.get?_update_self (Obj.mapSeq (fun _ => (#[] : Array Value))) hS rfl
  refine wpAny_bind (wpAny_letGo ?_)
  have old1 : ∀ b o, s.heap.get? b = some o → ((s.heap.push { cls := .type "list", data := .seq #[] }).update s.heap.objs.size (Obj.mapSeq (fun _ => (#[] : Array Value)))).get? b = some o :=
    fun b o e => (Heap.get?_update_other _ _ (Nat.ne_of_gt (Heap.lt_size e))).trans (Heap.get?_push_of_some _ e)
  have hTy2 : Shared.TypeIs { s with heap := (s.heap.push { cls := .type "list", data := .seq #[] }).update s.heap.objs.size (Obj.mapSeq (fun _ => (#[] : Array Value))) } (.ref z) "zip" := by
    obtain ⟨o, ho, hc⟩ := hTy
    exact ⟨o, old1 _ _ ho, hc⟩
  have ltz : z < s.heap.objs.size := by obtain ⟨o, ho, hc⟩ := hTy; exact Heap.lt_size ho
  unfold Builtin.List.listExtendWith
  refine wpAny_bind (wpAny_typeOf hTy2 ?_)
  have h1 : Builtin.List.listSameRef (.ref s.heap.objs.size) (.ref z) = false := by simp [Builtin.List.listSameRef]; exact Nat.ne_of_gt ltz
  have h2 : (Value.type "zip" == Value.type "list") = false := by decide
  have h3 : (Value.type "zip" == Value.type "tuple") = false := by decide
  simp only [h1, h2, h3, Bool.or_false, Bool.false_eq_true, if_false]
  obtain ⟨hm, hTO, hTI, hi1, hi2⟩ := id st
  have hz0 : ∃ f0 f1, s.heap.get? z = some { cls := .type "zip", dict := none, data := .fields #[f0, f1, .bool false, .ref TI, .ref TO], slots := #[] } := by
    rcases hm with q | ⟨_, _, _, q, _⟩
    · exact ⟨_, _, q⟩
    · exact ⟨_, _, q⟩
  refine wpAny_bind (wpAny_pyIter_slot hTy2 F.slot_zip_iter (wpAny_call_entry F.slot_zip_iter hTy2 F.entry_zip_iter ?_ (F.args_zip_iter_1 _)))
  show wpAny _ _ (ret (.ref z)) _ _ _
  refine wpAny_pure ⟨_, rfl, "zip", _, hTy2, F.slot_zip_next.lookup, ?_⟩
  refine wpAny_bind (wpAny_holding ?_)
  unfold Builtin.List.listLengthHint
  refine wpAny_bind (wpAny_specialOf hTy2 zip_no_len ?_)
  show wpAny _ _ (specialOf (Value.ref z) (Str.ofString "__length_hint__") >>= _) _ _ _
  refine wpAny_bind (wpAny_specialOf hTy2 zip_no_hint ?_)
  refine wpAny_pure ?_
  show wpAny _ _ (rule "list.extend.makes-room" >>= fun _ => Builtin.List.listTouch (.ref s.heap.objs.size) >>= fun _ => again (.builtin "list.extend.loop" ⟨[.ref s.heap.objs.size, .ref z, .none], []⟩)) _ _ _
  refine wpAny_bind (wpAny_rule ?_)
  refine wpAny_bind ?_
  show wpAny _ _ (updateSeq s.heap.objs.size (·.push .none) >>= fun _ => updateSeq s.heap.objs.size (·.pop)) _ _ _
  refine wpAny_bind (wpAny_updateSeq hS2 rfl ?_)
  have hS3 := Heap.get?_update_self (Obj.mapSeq (·.push Value.none)) hS2 rfl
  refine wpAny_updateSeq hS3 rfl ?_
  have hS4 := Heap.get?_update_self (Obj.mapSeq (·.pop)) hS3 rfl
  have old : ∀ b o, s.heap.get? b = some o → ((((s.heap.push { cls := .type "list", data := .seq #[] }).update s.heap.objs.size (Obj.mapSeq (fun _ => (#[] : Array Value)))).update s.heap.objs.size (Obj.mapSeq (·.push Value.none))).update s.heap.objs.size (Obj.mapSeq (·.pop))).get? b = some o :=
    fun b o e => (Heap.get?_update_other _ _ (Nat.ne_of_gt (Heap.lt_size e))).trans ((Heap.get?_update_other _ _ (Nat.ne_of_gt (Heap.lt_size e))).trans (old1 b o e))
  have hn : H s.heap.objs.size = none := I.hok.fresh (Nat.le_refl _)
  have I1 := I.laid (t' := s.toks) (o := .lst []) old (Nat.le_refl _) ⟨Nat.zero_le _, [], _, .nil, hS4⟩
  obtain ⟨its1, rv1, p1, _⟩ := I.list q1
  obtain ⟨its2, rv2, p2, _⟩ := I.list q2
  have a1 : l1 ≠ s.heap.objs.size := by obtain ⟨_, e, _⟩ := p1.isList; exact Nat.ne_of_lt (Heap.lt_size e)
  have a2 : l2 ≠ s.heap.objs.size := by obtain ⟨_, e, _⟩ := p2.isList; exact Nat.ne_of_lt (Heap.lt_size e)
  have ltf : ∀ b ∈ [z, TI, TO, i1, i2], b ≠ s.heap.objs.size := fun b hb => by
    simp only [List.mem_cons, List.not_mem_nil, or_false] at hb
    rcases hb with rfl | rfl | rfl | rfl | rfl
    · exact Nat.ne_of_lt ltz
    · exact Nat.ne_of_lt (Heap.lt_size hTI)
    · obtain ⟨_, _, q⟩ := hTO; exact Nat.ne_of_lt (Heap.lt_size q)
    · obtain ⟨_, q, _⟩ := hi1; exact Nat.ne_of_lt (Heap.lt_size q)
    · obtain ⟨_, q, _⟩ := hi2; exact Nat.ne_of_lt (Heap.lt_size q)
  refine wpAny_pure ⟨plainId_quiet F.plain_extend_loop _, ext_zip (A := A.in1) hh D a1 a2 (fun hb => ltf _ hb rfl) hsz .none _ 0 _ _ [] rfl (Nat.zero_le _) I1 (fun b hb => ?_) ?_ (Cv.SqL.aside q1 a1) (Cv.SqL.aside q2 a2) upd_same rfl (fun j v e => by simp at e) fun s' H' us' I' e1 e2 e3 e4 => ?_⟩
  · obtain ⟨f0, fr⟩ := hf b hb
    exact ⟨by rw [upd_ne (ltf b hb)]; exact f0, fr⟩
  · obtain ⟨pa, pb, hTO'⟩ := hTO
    refine ⟨?_, ⟨pa, pb, old _ _ hTO'⟩, old _ _ hTI, hi1.at fun o e => old _ o e, hi2.at fun o e => old _ o e⟩
    rcases hm with q | ⟨T, b, o, q, qT, t⟩
    · exact .inl (old _ _ q)
    · exact .inr ⟨T, b, o, old _ _ q, old _ _ qT, t⟩
  · exact ⟨rfl, hQ s' H' us' I' hn (fun b o e => e1 b o (ne_of_none e hn) (by rw [upd_ne (ne_of_none e hn)]; exact e)) e2 e3 e4⟩
theorem pe_listzip {a b : Expr} {ta : TA} {p p2 pos pos2 : Pos} (hg : Gl X "list") (hm : X.mg "list" = none) (hg2 : Gl X "zip") (hm2 : X.mg "zip" = none) (ha : PA X [a, b] ta) (hc : X.calm = true := by rfl)
    (he : starEach [a, b] X.env = (false, eval a X.env) :: starEach [b] X.env := by rfl) (hpl : (backTo pos2 (starEach [b] X.env)).any (·.1) = false := by rfl)
    (he2 : starEach [.Call (.Name "zip" p2) [a, b] [] pos2] X.env = (false, eval (.Call (.Name "zip" p2) [a, b] [] pos2) X.env) :: starEach [] X.env := by rfl) (hpl2 : (backTo pos (starEach [] X.env)).any (·.1) = false := by rfl) :
    PE X (.Call (.Name "list" p) [.Call (.Name "zip" p2) [a, b] [] pos2] [] pos) (tZipL X.K ta) := by
  intro pins s σ H Q I h
  refine wpAny_Call_Name_kw (ld_blt I hg hm boot_list ?_ (by decide) (by decide))
  refine PyProof.Rows.callWith_type1 ?_ he2 hpl2
  rw [he2]
  refine Calls.spliced_cons ?_
  refine wpAny_Call_Name_kw (ld_blt I hg2 hm2 boot_zip ?_ (by decide) (by decide))
  refine PyProof.Rows.callWith_type1 (thn (ha pos2 pins s σ H _ I h) fun us s1 ⟨vs, H1, I1, r1, w1⟩ => ?_) he hpl
  obtain ⟨l1, l2, xs, ys, rfl, q1, q2, hsz, q⟩ := w1
  obtain ⟨u1, u2, rfl, e1, e2⟩ := vals_two r1
  cases e1; cases e2
  obtain ⟨its1, rv1, p1, hz1⟩ := I1.list q1
  obtain ⟨its2, rv2, p2, hz2⟩ := I1.list q2
  have a1 : l1 < s1.heap.objs.size := by obtain ⟨_, e, _⟩ := p1.isList; exact Heap.lt_size e
  have a2 : l2 < s1.heap.objs.size := by obtain ⟨_, e, _⟩ := p2.isList; exact Heap.lt_size e
  refine call_zip_2 p1.isList p2.isList fun h' hz hTI hTO hi1 hi2 hsz' hk => ?_
  refine Calls.spliced_nil ?_
  have I2 : Inv X pins σ H1 { s1 with heap := h', toks := s1.toks } := I1.kept hk
  have fp : ∀ b ∈ [s1.heap.objs.size + 4, s1.heap.objs.size + 2, s1.heap.objs.size + 3, s1.heap.objs.size, s1.heap.objs.size + 1], FpOk X pins H1 b := fun c hc => by
    have hge : s1.heap.objs.size ≤ c := by
      simp only [List.mem_cons, List.not_mem_nil, or_false] at hc
      rcases hc with rfl | rfl | rfl | rfl | rfl <;> omega
    exact I1.fpOk hge (I1.hok.fresh hge)
  refine list_zip (s := { s1 with heap := h', toks := s1.toks }) (I1.ok.hd hc) (zipApart_new a1 a2) I2 fp ⟨.inl hz, ⟨_, _, hTO⟩, hTI, hi1, hi2⟩ ⟨_, hz, rfl⟩ q1 q2 hsz fun s' H' us I' hn e1 e2 e3 e4 => ?_
  exact ⟨.ref _, H', I', rfl, q _ us H' hn e1 e2 e3 e4⟩
theorem pe_listzipI {a b : Expr} {ta : TA} {p p2 pos pos2 : Pos} (hg : Gl X "list") (hm : X.mg "list" = none) (hg2 : Gl X "zip") (hm2 : X.mg "zip" = none) (ha : PAi X [a, b] ta) (hc : X.calm = true := by rfl)
    (he : starEach [a, b] X.env = (false, eval a X.env) :: starEach [b] X.env := by rfl) (hpl : (backTo pos2 (starEach [b] X.env)).any (·.1) = false := by rfl)
    (he2 : starEach [.Call (.Name "zip" p2) [a, b] [] pos2] X.env = (false, eval (.Call (.Name "zip" p2) [a, b] [] pos2) X.env) :: starEach [] X.env := by rfl) (hpl2 : (backTo pos (starEach [] X.env)).any (·.1) = false := by rfl) :
    PEi X (.Call (.Name "list" p) [.Call (.Name "zip" p2) [a, b] [] pos2] [] pos) (tZipL X.K ta) := by with_unfolding_all exact pe_listzip (hg := hg) (hm := hm) (hg2 := hg2) (hm2 := hm2) (ha := ha) (hc := hc) (he := he) (hpl := hpl) (he2 := he2) (hpl2 := hpl2)
end
end Cv

namespace Cv
open PySem PySem.Spec PyProof.Rows L2
/-! ### powers of an axis: whole numbers -/
noncomputable def gI (l : List Int) (j : Nat) : Int := (l[j]?).getD 0
/-! ### seats of powers: sums -/
/-! ### the point by powers -/
/-! ### sizes -/
/-! ### promises -/
theorem AxV.mono {H : Hp} {v : V} {n m : Nat} {t b : List Int} (h : AxV H v n t b) (hn : n ≤ m) : AxV H v m t b := by
  obtain ⟨a, lt, lb, e, h1, h2, h3, h4, r⟩ := h
  exact ⟨a, lt, lb, e, h1, h2, h3, fun x hx => (h4 x hx).mono hn, r⟩
end Cv

namespace Cv
open PySem PySem.Spec PyProof.Rows L2
/-! ### range that goes down by one -/
section
variable {X : Cx} {tg : Expr}
end
/-! ### raising -/
noncomputable def ptAt (ps : List Pt) (j : Nat) : Pt := (gX ps j, gY ps j)
/-- the k-th raised number -/
noncomputable def rr (N : Nat) (g : Nat → Rat) (k : Nat) : Rat := ((((N : Int) : Rat) - ((k : Int) : Rat)) * g k + ((k : Int) : Rat) * g (k - 1)) / ((N : Int) : Rat)
/-! promises -/
theorem PtsV.append {H : Hp} {vs ws : List V} {ps qs : List Pt} (h1 : PtsV H vs ps) (h2 : PtsV H ws qs) : PtsV H (vs ++ ws) (ps ++ qs) := by
  have l1 := h1.len
  have l2 := h2.len
  refine ⟨by rw [List.length_append, List.length_append]; omega, fun i v p e1 e2 => ?_⟩
  by_cases hi : i < vs.length
  · rw [List.getElem?_append_left hi] at e1
    rw [List.getElem?_append_left (by omega)] at e2
    exact h1.get i v p e1 e2
  · rw [List.getElem?_append_right (by omega)] at e1 e2
    rw [← l1] at e2
    exact h2.get _ v p e1 e2
end Cv

namespace Cv
open PySem PySem.Spec PyProof.Rows L2
/-! ### joins: powers behind the end -/
noncomputable def sg : Nat → Rat
  | 0 => 1
  | k + 1 => -(sg k)
/-! ### speeds by whole numbers -/
/-- how often they are alike -/
structure Cnt (E : Nat → Prop) (most : Nat) (r : Int) : Prop where
  lo : -1 ≤ r
  hi : r ≤ most
  all : ∀ j : Nat, (j : Int) ≤ r → E j
  stop : r = most ∨ ¬ E (r + 1).toNat
theorem Cnt.one {E : Nat → Prop} {most : Nat} {r s : Int} (h1 : Cnt E most r) (h2 : Cnt E most s) : r = s := by
  have key : ∀ {r s : Int}, Cnt E most r → Cnt E most s → ¬ r < s := fun {r s} h1 h2 hlt => by
    have := h1.lo
    have := h2.hi
    rcases h1.stop with q | q
    · omega
    · exact q (h2.all _ (by omega))
  have a := key h1 h2
  have b := key h2 h1
  omega
/-! ### differences of places -/
theorem PlsV.nil (H : Hp) : PlsV H [] [] := ⟨rfl, fun i v p e => by simp at e⟩
/-! ### promises -/
section
variable {X : Cx}
end
theorem PlsV.drop {H : Hp} {vs : List V} {p : List Pl} (h : PlsV H vs p) (n : Nat) : PlsV H (vs.drop n) (p.drop n) := by
  have hl := h.len
  refine ⟨by rw [List.length_drop, List.length_drop, hl], fun i v r e1 e2 => ?_⟩
  rw [List.getElem?_drop] at e1 e2
  exact h.get _ v r e1 e2
theorem cut_dropV (xs : List V) (k : Int) (n : Nat) (e : k = (n : Int)) (h : n ≤ xs.length) : cutV xs (some k) none = xs.drop n := by
  have := cut_fromI (fun v : V => v) xs k n e h
  simpa using this
end Cv

namespace Cv
open PySem PySem.Spec PyProof.Rows L2
/-! ### lists of shares, the module's among them -/
structure ShLK (K : PySem.W.Frag) (H : Hp) (vs : List V) (qs : List Rat) : Prop where
  len : vs.length = qs.length
  get : ∀ (i : Nat) v q, vs[i]? = some v → qs[i]? = some q → ShK K H v q
section
variable {K : PySem.W.Frag} {H H' : Hp} {vs : List V} {qs : List Rat}
theorem ShLK.tup (h : ShLK K H vs qs) (t : Tup H H') : ShLK K H' vs qs := ⟨h.len, fun i v q e1 e2 => (h.get i v q e1 e2).tup t⟩
theorem ShLK.same (h : ShLK K H vs qs) (t : Same H H') : ShLK K H' vs qs := h.tup t.tup
theorem ShL.k (h : ShL H vs qs) : ShLK K H vs qs := ⟨h.len, fun i v q e1 e2 => (h.get i v q e1 e2).k⟩
theorem ShLK.map {ps : List Pt} {f : Pt → Rat} {ys : List V} (hl : ys.length = ps.length) (h : ∀ (i : Nat) v, ys[i]? = some v → ∀ p, ps[i]? = some p → ShK K H v (f p)) : ShLK K H ys (ps.map f) := by
  refine ⟨by rw [hl, List.length_map], fun i v q e1 e2 => ?_⟩
  rw [List.getElem?_map] at e2
  cases e3 : ps[i]? with
  | none => rw [e3] at e2; cases e2
  | some p =>
    rw [e3] at e2
    cases e2
    exact h i v e1 p e3
theorem PtsK.take {ps : List Pt} (h : PtsK K H vs ps) (n : Nat) : PtsK K H (vs.take n) (ps.take n) := by
  refine ⟨by rw [List.length_take, List.length_take, h.len], fun i v p e1 e2 => ?_⟩
  rw [List.getElem?_take] at e1 e2
  by_cases hi : i < n
  · rw [if_pos hi] at e1 e2
    exact h.get i v p e1 e2
  · rw [if_neg hi] at e1; cases e1
end
theorem PlsV.take {H : Hp} {vs : List V} {pl : List Pl} (h : PlsV H vs pl) (n : Nat) : PlsV H (vs.take n) (pl.take n) := by
  refine ⟨by rw [List.length_take, List.length_take, h.len], fun i v p e1 e2 => ?_⟩
  rw [List.getElem?_take] at e1 e2
  by_cases hi : i < n
  · rw [if_pos hi] at e1 e2
    exact h.get i v p e1 e2
  · rw [if_neg hi] at e1; cases e1
/-! ### onward -/
/-! ### promises -/
end Cv

namespace Cv
open PySem PySem.Spec PyProof.Rows L2
/-! ### reversed(range(n)), walked -/
section
variable {prog : Program} {w : World} {A : Around} {E : Value → Shared → Prop} {s : Shared}
end
section
variable {X : Cx} {tg : Expr}
end
/-! ### e[:0:-1], a list -/
section
variable {X : Cx}
end
end Cv

namespace Cv
open PySem PySem.Spec PyProof.Rows L2
/-! ### through points: the steps beside them, by whole numbers -/
noncomputable def myN (n i : Nat) : Int := if i = 0 ∨ i + 1 = n then 2 else 4
noncomputable def wyN (n : Nat) (g : Nat → Int) (i : Nat) : Int := g (min (i + 1) (n - 1)) - g (i - 1)
noncomputable def sN (n : Nat) : Nat → Int
  | 0 => 0
  | 1 => 1
  | i + 2 => myN n i * sN n (i + 1) - sN n i
noncomputable def suN (n : Nat) (g : Nat → Int) : Nat → Int
  | 0 => 0
  | i + 1 => sN n (i + 1) * wyN n g i - suN n g i
/-- the same from the end: the pair of the next two -/
noncomputable def ttN (n : Nat) : Nat → Int × Int
  | 0 => (1, 0)
  | j + 1 => (myN n (n - 1 - j) * (ttN n j).1 - (ttN n j).2, (ttN n j).1)
noncomputable def vvN (n : Nat) (g : Nat → Int) : Nat → Int
  | 0 => 0
  | j + 1 => (ttN n j).1 * wyN n g (n - 1 - j) - vvN n g j
/-- the steps, each as many times as the last size -/
noncomputable def xxN (n : Nat) (g : Nat → Int) (k : Nat) : Int := sN n (k + 1) * vvN n g (n - k) - (ttN n (n - k)).2 * suN n g k
/-- walked over a zip whose lists stay -/
theorem for_zip {K : PySem.W.Frag} {l1 l2 : Addr} {xs ys : List V} {g : TG} {tb : TS} {D : Ends} {σ : L2.St} {H : Hp} (Pv : Nat → L2.St → Hp → Prop) (h0 : Pv 0 σ H) (hl : ∀ i σ H, Pv i σ H → SqL K H l1 xs ∧ SqL K H l2 ys)
    (hs : ∀ i a σ H H', i < min xs.length ys.length → Pv i σ H → Same H H' → SqT K H' a [(xs[i]?).getD .non, (ys[i]?).getD .non] → g (.ref a) σ H' fun σ2 H2 => tb { D with nx := Pv (i + 1), ct := Pv (i + 1), bk := D.nx } σ2 H2) (hd : ∀ σ H, Pv (min xs.length ys.length) σ H → D.nx σ H) :
    ∃ W : Nat → Nat → L2.St → Hp → Prop, (∃ m, W 0 m σ H) ∧ ∀ i m σ H, W i m σ H →
      ((Itz K l1 l2).stop i H ∧ D.nx σ H) ∨ ((Itz K l1 l2).go i H ∧ ∃ N : L2.St → Hp → Prop, (∀ σ' H', N σ' H' → ∃ m', m' < m ∧ W (i + 1) m' σ' H') ∧ ∀ x H', (Itz K l1 l2).yld i H x H' → g x σ H' fun σ2 H2 => tb { D with nx := N, ct := N, bk := D.nx } σ2 H2) := by
  refine ⟨fun i m σ H => m = min xs.length ys.length - i ∧ i ≤ min xs.length ys.length ∧ Pv i σ H, ⟨min xs.length ys.length, by simp, Nat.zero_le _, h0⟩, ?_⟩
  rintro i m σ H ⟨rfl, hi, p⟩
  obtain ⟨q1, q2⟩ := hl i σ H p
  have q := plain_zip q1 q2 H (L2.Same.refl _) i
  by_cases hlt : i < min xs.length ys.length
  · obtain ⟨go, yl⟩ := q.1 hlt
    refine .inr ⟨go, Pv (i + 1), fun σ' H' p' => ⟨min xs.length ys.length - (i + 1), by omega, rfl, hlt, p'⟩, fun x H' y => ?_⟩
    obtain ⟨s', a, rfl, ht⟩ := yl x H' y
    exact hs i a σ H H' hlt p s' ht
  · have e : i = min xs.length ys.length := by omega
    exact .inl ⟨q.2 e, hd σ H (by rw [← e]; exact p)⟩
end Cv
namespace Cv
open PySem PySem.Spec PyProof.Rows L2
/-! ### the lists of steps_beside -/
end Cv
namespace Cv
open PySem PySem.Spec PyProof.Rows L2
end Cv
namespace Cv
open PySem PySem.Spec PyProof.Rows L2
end Cv
namespace Cv
open PySem PySem.Spec PyProof.Rows L2
end Cv

namespace Cv
open PySem PySem.Spec PyProof.Rows L2
/-! ### the curves through points -/
noncomputable def dX (t : List Int) (W : Int) (k : Nat) : Rat := Rat.divInt (xxN t.length (gI t) k) (W * sN t.length (t.length + 1))
end Cv
namespace Cv
open PySem PySem.Spec PyProof.Rows L2
noncomputable def spAxisD (K : PySem.W.Frag) : Sp := fun vs H Q _ => ∃ (a : Addr) (ws : List V) (qs : List Rat) (D : Int) (m : Nat), vs = [.ref a] ∧ SqL K H a ws ∧ ShL H ws qs ∧ 0 < D ∧ Sz 9000 D ∧ (∀ q ∈ qs, (q.den : Int) ∣ D ∧ Bd m q) ∧ m ≤ 9000 ∧ qs.length ≤ 40 ∧
  ∀ v tops bs H', Same H H' → AxV H' v (m + 9000) tops bs → axR tops bs = qs → bs.length ≤ qs.length → prodI bs ∣ D → Q v H'
noncomputable def spAxesD (K : PySem.W.Frag) : Sp := fun vs H Q _ => ∃ (a : Addr) (ws : List V) (ps : List Pt) (D : Int) (m : Nat), vs = [.ref a] ∧ SqL K H a ws ∧ PtsV H ws ps ∧ 0 < D ∧ Sz 9000 D ∧ (∀ p ∈ ps, ((p.1.den : Int) ∣ D ∧ Bd m p.1) ∧ (p.2.den : Int) ∣ D ∧ Bd m p.2) ∧ m ≤ 9000 ∧ ps.length ≤ 40 ∧
  ∀ c x y t1 b1 t2 b2 H', Same H H' → H' c = some (.tup [x, y]) → AxV H' x (m + 9000) t1 b1 → AxV H' y (m + 9000) t2 b2 → axR t1 b1 = ps.map (·.1) → axR t2 b2 = ps.map (·.2) → b1.length ≤ ps.length → b2.length ≤ ps.length → prodI b1 ∣ D → prodI b2 ∣ D → Q (.ref c) H'
noncomputable def cvP (ps : List Pt) (d e : Nat → Rat) (k : Nat) : List Pt := [ptAt ps k, (gX ps k + d k, gY ps k + e k), (gX ps (k + 1) - d (k + 1), gY ps (k + 1) - e (k + 1)), ptAt ps (k + 1)]
end Cv
namespace Cv
open PySem PySem.Spec PyProof.Rows L2
end Cv

namespace Cv
/-! ### stretches by halving whole numbers -/
noncomputable def toP (dx dy : Int) (c : List Pl) : List Pt := c.map fun p => (Rat.divInt p.1 dx, Rat.divInt p.2 dy)
noncomputable def Dvs (k : Nat) (c : List Pl) : Prop := ∀ p ∈ c, (2 : Int) ^ k ∣ p.1 ∧ (2 : Int) ^ k ∣ p.2
noncomputable def SzQ (n : Nat) (c : List Pl) : Prop := ∀ p ∈ c, Sz n p.1 ∧ Sz n p.2
theorem toP_len (dx dy : Int) (c : List Pl) : (toP dx dy c).length = c.length := by unfold toP; rw [List.length_map]
theorem two_dvd {j k : Nat} (h : j ≤ k) : (2 : Int) ^ j ∣ 2 ^ k := ⟨2 ^ (k - j), by rw [← Int.pow_add]; congr 1; omega⟩
theorem Dvs.mono {k j : Nat} {c : List Pl} (h : Dvs k c) (hj : j ≤ k) : Dvs j c := fun p hp =>
  ⟨Int.dvd_trans (two_dvd hj) (h p hp).1, Int.dvd_trans (two_dvd hj) (h p hp).2⟩
noncomputable def hp : Nat → Rat
  | 0 => 1
  | d + 1 => hp d * (1 / 2)
end Cv

namespace Cv
open PySem PySem.Spec PyProof.Rows L2
/-! ### promises of the stretches -/
noncomputable def wcI (R : Int) (t1 t2 : List Int) : List Pl := List.zipWith (fun x y => (x * R, y * R)) t1 t2
/-- a list of lists of places -/
structure CsV (H : Hp) (D : Option Addr) (ys : List V) (css : List (List Pl)) : Prop where
  len : ys.length = css.length
  get : ∀ (i : Nat) (v : V) (c : List Pl), ys[i]? = some v → css[i]? = some c → ∃ (l : Addr) (us : List V), v = .ref l ∧ some l ≠ D ∧ H l = some (.lst us) ∧ PlsV H us c
theorem CsV.same {H H' : Hp} {D : Option Addr} {ys : List V} {css : List (List Pl)} (h : CsV H D ys css) (s : Same H H') : CsV H' D ys css :=
  ⟨h.len, fun i v c e1 e2 => by obtain ⟨l, us, r1, r2, r3, r4⟩ := h.get i v c e1 e2; exact ⟨l, us, r1, r2, s _ _ r3, r4.same s⟩⟩
theorem CsV.at {H : Hp} {D : Option Addr} {ys : List V} {css : List (List Pl)} (h : CsV H D ys css) {i : Nat} {c : List Pl} (hc : css[i]? = some c) : ∃ (l : Addr) (us : List V), ys[i]? = some (.ref l) ∧ H l = some (.lst us) ∧ PlsV H us c := by
  have hi : i < css.length := (List.getElem?_eq_some_iff.mp hc).1
  have e : ys[i]? = some (ys[i]'(by rw [h.len]; exact hi)) := List.getElem?_eq_getElem _
  obtain ⟨l, us, r1, r2, r3, r4⟩ := h.get i _ c e hc
  exact ⟨l, us, by rw [e, r1], r3, r4⟩
/-! ### the halves of each of a list of curves -/
theorem snoc_get {α : Type} {ys : List α} {v w : α} {j : Nat} (e : (ys ++ [v])[j]? = some w) : (j < ys.length ∧ ys[j]? = some w) ∨ (j = ys.length ∧ w = v) := by
  by_cases hj : j < ys.length
  · rw [List.getElem?_append_left hj] at e
    exact .inl ⟨hj, e⟩
  · rw [List.getElem?_append_right (by omega)] at e
    have hj0 : j - ys.length = 0 := by
      cases q : j - ys.length with
      | zero => rfl
      | succ k => rw [q] at e; simp at e
    rw [hj0] at e
    exact .inr ⟨by omega, by simpa using e.symm⟩
theorem CsV.upd {H : Hp} {D : Addr} {ys zs ws : List V} {css : List (List Pl)} (h : CsV H (some D) ys css) (hD : H D = some (.lst zs)) : CsV (upd H D (.lst ws)) (some D) ys css := by
  refine ⟨h.len, fun i v c e1 e2 => ?_⟩
  obtain ⟨l, us, r1, r2, r3, r4⟩ := h.get i v c e1 e2
  have n : l ≠ D := fun z => r2 (by rw [z])
  exact ⟨l, us, r1, r2, by rw [upd_ne n]; exact r3, r4.tup (Tup.lst hD)⟩
end Cv
namespace Cv
open PySem PySem.Spec PyProof.Rows L2
theorem Plain2.congr {K : PySem.W.Frag} {J : It} {H1 : Hp} {n m : Nat} {f g f' g' : Nat → V} (h : Plain2 K J H1 n f g) (hn : n = m) (hf : ∀ i, i < n → f i = f' i) (hg : ∀ i, i < n → g i = g' i) : Plain2 K J H1 m f' g' := fun H2 s i => by
  subst hn
  refine ⟨fun hi => ⟨((h H2 s i).1 hi).1, fun x H' y => ?_⟩, (h H2 s i).2⟩
  have q := ((h H2 s i).1 hi).2 x H' y
  rw [hf i hi, hg i hi] at q
  exact q
end Cv
namespace Cv
open PySem PySem.Spec PyProof.Rows L2
theorem top_szW {x W D : Int} {m : Nat} (hW : 0 < W) (hD : 0 < D) (hWD : W ∣ D) (ho : Ov D m (Rat.divInt x W)) : Sz m x := by
  obtain ⟨c, rfl⟩ := hWD
  have hc : 0 < c := by
    rcases Int.lt_trichotomy c 0 with h | h | h
    · have := Int.mul_neg_of_pos_of_neg hW h; omega
    · rw [h, Int.mul_zero] at hD; omega
    · exact h
  have w0 : (W : Rat) ≠ 0 := fun z => by have := Rat.intCast_inj.mp (z.trans (Rat.intCast_zero).symm); omega
  obtain ⟨a, ea, za⟩ := ho
  rw [divInt_cast, Rat.intCast_mul] at ea
  have e : ((x * c : Int) : Rat) = (a : Rat) := by
    rw [← ea, Rat.intCast_mul]
    grind
  have z : Sz m (x * c) := by rw [Rat.intCast_inj.mp e]; exact za
  exact z.le (by rw [Int.natAbs_mul]; exact Nat.le_mul_of_pos_right _ (by omega))
theorem wc_len {R : Int} {t1 t2 : List Int} (h : t1.length = t2.length) : (wcI R t1 t2).length = t1.length := by unfold wcI; rw [List.length_zipWith]; omega
theorem wc_toP {R : Int} (hR : R ≠ 0) {t1 t2 b1 b2 : List Int} {ps : List Pt} (e1 : axR t1 b1 = ps.map (·.1)) (e2 : axR t2 b2 = ps.map (·.2)) : toP (prodI b1 * R) (prodI b2 * R) (wcI R t1 t2) = ps := by
  have l1 : t1.length = ps.length := by have := congrArg List.length e1; rw [axR_len, List.length_map] at this; exact this
  have l2 : t2.length = ps.length := by have := congrArg List.length e2; rw [axR_len, List.length_map] at this; exact this
  refine List.ext_getElem? fun i => ?_
  by_cases hi : i < ps.length
  · have f1 : t1[i]? = some (t1[i]'(by omega)) := List.getElem?_eq_getElem _
    have f2 : t2[i]? = some (t2[i]'(by omega)) := List.getElem?_eq_getElem _
    have g1 := congrArg (fun l => l[i]?) e1
    have g2 := congrArg (fun l => l[i]?) e2
    simp only [axR, List.getElem?_map, f1, f2, List.getElem?_eq_getElem hi, Option.map_some, Option.some.injEq] at g1 g2
    unfold toP wcI
    rw [List.getElem?_map, List.getElem?_zipWith, f1, f2, List.getElem?_eq_getElem hi]
    show some (Rat.divInt _ _, Rat.divInt _ _) = _
    rw [Rat.divInt_mul_right hR, Rat.divInt_mul_right hR, g1, g2]
  · rw [List.getElem?_eq_none (by rw [toP_len, wc_len (by omega)]; omega), List.getElem?_eq_none (by omega)]
theorem tops_sz {t b : List Int} {qs : List Rat} {D : Int} {m : Nat} (hW : 0 < prodI b) (hD : 0 < D) (hWD : prodI b ∣ D) (e : axR t b = qs) (ho : ∀ q ∈ qs, Ov D m q) : ∀ x ∈ t, Sz m x := fun x hx => by
  refine top_szW hW hD hWD (ho _ ?_)
  rw [← e]
  exact List.mem_map.mpr ⟨x, hx, rfl⟩
end Cv
namespace Cv
open PySem PySem.Spec PyProof.Rows L2
theorem LsV.mono {H1 H2 : Hp} {D : Addr} {ys : List V} {R R' : Nat → List V → Hp → Prop} (h : LsV H1 H2 D ys R) (f : ∀ i xs, i < ys.length → R i xs H2 → R' i xs H2) : LsV H1 H2 D ys R' :=
  ⟨fun i v e => by obtain ⟨l, xs, e1, e2, e3, e4, e5⟩ := h.get i v e; exact ⟨l, xs, e1, e2, e3, e4, f i xs (List.getElem?_eq_some_iff.mp e).1 e5⟩, h.one⟩
end Cv
namespace Cv
open PySem PySem.Spec PyProof.Rows L2
/-! ### the law's two curves -/
structure CvB (H : Hp) (v : V) (l : Addr) (ws : List V) (ps : List Pt) (B : Int) (mo : Nat) : Prop where
  ref : v = .ref l
  lst : H l = some (.lst ws)
  pts : PtsV H ws ps
  l1 : 1 ≤ ps.length
  l2 : ps.length ≤ mo
  ov : ∀ p ∈ ps, OvP B 110 p
theorem CvB.same {H H' : Hp} {v : V} {l : Addr} {ws : List V} {ps : List Pt} {B : Int} {mo : Nat} (h : CvB H v l ws ps B mo) (s : Same H H') : CvB H' v l ws ps B mo := ⟨h.ref, s _ _ h.lst, h.pts.same s, h.l1, h.l2, h.ov⟩
noncomputable def spDTwo (K : PySem.W.Frag) : Sp := fun vs H Q _ => ∃ (a : Addr) (ns : List Int) (mo : Nat), vs = [.ref a, .int (mo : Int)] ∧ SqL K H a (ns.map V.int) ∧ 1 ≤ mo ∧ mo ≤ 12 ∧
  ∀ (lb l0 l1 : Addr) (w0 w1 : List V) (p0 p1 : List Pt) (B : Int) (H' : Hp), Same H H' → H lb = none → H' lb = some (.lst [.ref l0, .ref l1]) → CvB H' (.ref l0) l0 w0 p0 B mo → CvB H' (.ref l1) l1 w1 p1 B mo → 1 ≤ B → B ≤ 3 → Q (.ref lb) H'
theorem seat_sz3 {c s f : Int} (h1 : c.natAbs ≤ 12) (h2 : s.natAbs ≤ 10 ^ 30) (h3 : f.natAbs ≤ 10 ^ 30) : Sz 110 (c * s + f) ∧ Sz 110 (c * s - f) := by
  have e : (c * s).natAbs ≤ 12 * 10 ^ 30 := by rw [Int.natAbs_mul]; exact Nat.mul_le_mul h1 h2
  have p : (13 : Nat) * 10 ^ 30 < 2 ^ 110 := by decide
  exact ⟨⟨by omega⟩, ⟨by omega⟩⟩
theorem PtsV.rev {H : Hp} {us : List V} {ps : List Pt} (h : PtsV H us ps) : PtsV H us.reverse ps.reverse := by
  have hl := h.len
  refine ⟨by rw [List.length_reverse, List.length_reverse, hl], fun i w q e1 e2 => ?_⟩
  have hi : i < us.length := by have := (List.getElem?_eq_some_iff.mp e1).1; rwa [List.length_reverse] at this
  rw [List.getElem?_reverse hi] at e1
  rw [List.getElem?_reverse (by omega)] at e2
  rw [hl] at e1
  exact h.get _ w q e1 e2
end Cv
namespace Cv
open PySem PySem.Spec PyProof.Rows L2
/-! ### lists of curves, compared -/
noncomputable def PssV (H : Hp) (us : List V) (n : Nat) (qs : Nat → List Pt) : Prop := us.length = n ∧ ∀ (i : Nat) (v : V), us[i]? = some v → ∃ (l : Addr) (xs : List V), v = .ref l ∧ H l = some (.lst xs) ∧ PtsV H xs (qs i)
theorem PssV.same {H H' : Hp} {us : List V} {n : Nat} {qs : Nat → List Pt} (h : PssV H us n qs) (s : Same H H') : PssV H' us n qs :=
  ⟨h.1, fun i v e => by obtain ⟨l, xs, e1, e2, e3⟩ := h.2 i v e; exact ⟨l, xs, e1, s _ _ e2, e3.same s⟩⟩
theorem PssV.at {H : Hp} {us : List V} {n : Nat} {qs : Nat → List Pt} (h : PssV H us n qs) {i : Nat} (hi : i < n) : ∃ (l : Addr) (xs : List V), us[i]? = some (.ref l) ∧ H l = some (.lst xs) ∧ PtsV H xs (qs i) := by
  have e : us[i]? = some (us[i]'(by rw [h.1]; exact hi)) := List.getElem?_eq_getElem _
  obtain ⟨l, xs, e1, e2, e3⟩ := h.2 i _ e
  exact ⟨l, xs, by rw [e, e1], e2, e3⟩
theorem PssV.drop {H : Hp} {us : List V} {n k : Nat} {qs : Nat → List Pt} (h : PssV H us n qs) (hk : k ≤ n) : PssV H (us.drop k) (n - k) (fun i => qs (k + i)) :=
  ⟨by rw [List.length_drop, h.1], fun i v e => by rw [List.getElem?_drop] at e; exact h.2 (k + i) v e⟩
end Cv
namespace Cv
open PySem PySem.Spec PyProof.Rows L2
/-- all but the first i of the told lists stays -/
structure But (us : List V) (i : Nat) (H H' : Hp) : Prop where
  keep : ∀ b o, H b = some o → (∀ j, j < i → us[j]? ≠ some (.ref b)) → H' b = some o
theorem But.refl (us : List V) (H : Hp) : But us 0 H H := ⟨fun _ _ e _ => e⟩
theorem But.same {us : List V} {i : Nat} {H H1 H2 : Hp} (h : But us i H H1) (s : Same H1 H2) : But us i H H2 := ⟨fun b o e n => s _ _ (h.keep b o e n)⟩
theorem But.tup {us : List V} {i : Nat} {H H' : Hp} (h : But us i H H') (hl : ∀ (j : Nat) (l : Addr), us[j]? = some (.ref l) → ∃ xs, H l = some (.lst xs)) : Tup H H' := fun b xs e => h.keep b _ e fun j hj z => by
  obtain ⟨ys, hy⟩ := hl j b z
  rw [e] at hy; cases hy
theorem But.first {us : List V} {i : Nat} {H0 H H' : Hp} {f : Addr} {qs : Nat → List Pt} (h : But us i H H') (hL : LsV H0 H f us fun i xs H => PtsV H xs (qs i)) {n : Nat} (hn : us.length = n) (hi : i ≤ n) : PssV H' (us.drop i) (n - i) (fun j => qs (i + j)) := by
  have tp := h.tup fun j l e => by obtain ⟨l', xs, e1, _, _, e4, _⟩ := hL.get j _ e; cases e1; exact ⟨xs, e4⟩
  refine ⟨by rw [List.length_drop, hn], fun j v e => ?_⟩
  rw [List.getElem?_drop] at e
  obtain ⟨l, xs, rfl, e2, e3, e4, e5⟩ := hL.get (i + j) v e
  refine ⟨l, xs, rfl, h.keep l _ e4 fun j' hj' z => ?_, e5.tup tp⟩
  have := hL.one _ _ _ e z
  omega
end Cv

namespace Cv
open PySem PySem.Spec PyProof.Rows L2
/-! ### paths -/
noncomputable def headQ (q : List Pt) : Option Pt := q[0]?
noncomputable def lastQ (q : List Pt) : Option Pt := q[q.length - 1]?
noncomputable def Joined (n : Nat) (qs : Nat → List Pt) : Prop := ∀ i, i + 1 < n → lastQ (qs i) = headQ (qs (i + 1))
noncomputable def partsF (lp : Addr) : List (Str × V) := putF "parts" (.ref lp) []
structure PathAt (C : Addr) (H : Hp) (p lp : Addr) (ks : List V) (n : Nat) (qs : Nat → List Pt) : Prop where
  ob : ∃ dx, H p = some (.ins C dx (partsF lp))
  ls : H lp = some (.lst ks)
  pt : PssV H ks n qs
theorem PathAt.same {C : Addr} {H H' : Hp} {p lp : Addr} {ks : List V} {n : Nat} {qs : Nat → List Pt} (h : PathAt C H p lp ks n qs) (s : Same H H') : PathAt C H' p lp ks n qs := by
  obtain ⟨⟨dx, h1⟩, h2, h3⟩ := h
  exact ⟨⟨dx, s _ _ h1⟩, s _ _ h2, h3.same s⟩
end Cv
namespace Cv
open PySem PySem.Spec PyProof.Rows L2
/-! ### the law's own path -/
structure JoinedI (css : List (List Pl)) : Prop where
  ne : ∀ c ∈ css, 1 ≤ c.length ∧ c.length ≤ 10
  sz : ∀ c ∈ css, SzQ 110 c
  jn : ∀ (i : Nat) (a b : List Pl), css[i]? = some a → css[i + 1]? = some b → a[a.length - 1]? = b[0]?
noncomputable def qsOf (B : Int) (css : List (List Pl)) (i : Nat) : List Pt := ptsOf B ((css[i]?).getD [])
noncomputable def Apart (css : List (List Pl)) : Prop := ∃ (i : Nat) (a b : List Pl), css[i]? = some a ∧ css[i + 1]? = some b ∧ a[a.length - 1]? ≠ b[0]?
theorem ptsOf_len' (B : Int) (pl : List Pl) : (ptsOf B pl).length = pl.length := by unfold ptsOf; rw [List.length_map]
theorem ptsOf_get (B : Int) (pl : List Pl) (i : Nat) : (ptsOf B pl)[i]? = (pl[i]?).map fun p => (Rat.divInt p.1 B, Rat.divInt p.2 B) := by unfold ptsOf; rw [List.getElem?_map]
theorem divInt_inj {x y B : Int} (hB : B ≠ 0) (h : Rat.divInt x B = Rat.divInt y B) : x = y := by
  rw [divInt_cast, divInt_cast] at h
  have b0 : (B : Rat) ≠ 0 := fun z => hB (Rat.intCast_inj.mp (z.trans (Rat.intCast_zero).symm))
  have : (x : Rat) = (y : Rat) := by grind
  exact Rat.intCast_inj.mp this
theorem of_ends {B : Int} (hB : B ≠ 0) {a b : List Pl} (h : lastQ (ptsOf B a) = headQ (ptsOf B b)) : a[a.length - 1]? = b[0]? := by
  unfold lastQ headQ at h
  rw [ptsOf_len', ptsOf_get, ptsOf_get] at h
  cases e1 : a[a.length - 1]? with
  | none =>
    rw [e1] at h
    cases e2 : b[0]? with
    | none => rfl
    | some q => rw [e2] at h; cases h
  | some p =>
    rw [e1] at h
    cases e2 : b[0]? with
    | none => rw [e2] at h; cases h
    | some q =>
      rw [e2] at h
      have h' := Option.some.inj h
      rw [Prod.mk.injEq] at h'
      rw [Prod.ext (divInt_inj hB h'.1) (divInt_inj hB h'.2)]
theorem qsOf_some {B : Int} {css : List (List Pl)} {i : Nat} {c : List Pl} (h : css[i]? = some c) : qsOf B css i = ptsOf B c := by unfold qsOf; rw [h]; rfl
theorem Apart.not {css : List (List Pl)} (h : Apart css) {B : Int} (hB : B ≠ 0) : ¬ Joined css.length (qsOf B css) := fun hj => by
  obtain ⟨i, a, b, e1, e2, n⟩ := h
  have hi : i + 1 < css.length := (List.getElem?_eq_some_iff.mp e2).1
  have := hj i hi
  rw [qsOf_some e1, qsOf_some e2] at this
  exact n (of_ends hB this)
theorem JoinedI.nil : JoinedI [] := ⟨fun _ h => (nomatch h), fun _ h => (nomatch h), fun i a b e => by simp at e⟩
end Cv
namespace Cv
open PySem PySem.Spec PyProof.Rows L2
theorem WayV.tup {H H' : Hp} {v : V} {B kd : Int} (h : WayV H v B kd) (t : Tup H H') : WayV H' v B kd := by
  obtain ⟨a, s, b, sx, sy, bx, by_, rfl, h1, h2, h3, r⟩ := h
  exact ⟨a, s, b, sx, sy, bx, by_, rfl, t _ _ h1, t _ _ h2, t _ _ h3, r⟩
theorem PlsV.cons {H : Hp} {us : List V} {pl : List Pl} {v : V} {x y : Int} (hv : RwV H v x y) (h : PlsV H us pl) : PlsV H (v :: us) ((x, y) :: pl) := by
  refine ⟨by rw [List.length_cons, List.length_cons, h.len], fun i w q e1 e2 => ?_⟩
  cases i with
  | zero => cases e1; cases e2; exact hv
  | succ i => exact h.get i w q (by simpa using e1) (by simpa using e2)
theorem CsV.drop {H : Hp} {D : Option Addr} {ys : List V} {css : List (List Pl)} (h : CsV H D ys css) : CsV H none ys css :=
  ⟨h.len, fun i v c e1 e2 => by obtain ⟨l, us, q1, q2, q3, q4⟩ := h.get i v c e1 e2; exact ⟨l, us, q1, (fun z => by cases z), q3, q4⟩⟩
end Cv
namespace Cv
open PySem PySem.Spec PyProof.Rows L2
theorem CsV.take {H : Hp} {D : Option Addr} {ys : List V} {css : List (List Pl)} (h : CsV H D ys css) (k : Nat) : CsV H D (ys.take k) (css.take k) := by
  refine ⟨by rw [List.length_take, List.length_take, h.len], fun i v c e1 e2 => ?_⟩
  rw [List.getElem?_take] at e1 e2
  split at e1
  · rename_i hi
    rw [if_pos hi] at e2
    exact h.get i v c e1 e2
  · cases e1
end Cv
namespace Cv
open PySem PySem.Spec PyProof.Rows L2
end Cv
namespace Cv
open PySem PySem.Spec PyProof.Rows L2
theorem But.base {us : List V} {i : Nat} {H0 H H' : Hp} (h : But us i H H') (s : Same H0 H) (hn : ∀ (j : Nat) (l : Addr), us[j]? = some (.ref l) → H0 l = none) : Same H0 H' := fun b o e => h.keep b o (s _ _ e) fun j hj z => by
  rw [hn j b z] at e; cases e
theorem LsV.new {H1 H2 : Hp} {D : Addr} {ys : List V} {R : Nat → List V → Hp → Prop} (h : LsV H1 H2 D ys R) (j : Nat) (l : Addr) (e : ys[j]? = some (.ref l)) : H1 l = none := by
  obtain ⟨l', xs, e1, e2, _⟩ := h.get j _ e
  cases e1; exact e2
theorem LsV.there {H1 H2 : Hp} {D : Addr} {ys : List V} {R : Nat → List V → Hp → Prop} (h : LsV H1 H2 D ys R) (j : Nat) (l : Addr) (e : ys[j]? = some (.ref l)) : ∃ xs, H2 l = some (.lst xs) := by
  obtain ⟨l', xs, e1, _, _, e4, _⟩ := h.get j _ e
  cases e1; exact ⟨xs, e4⟩
/-- an instance's fields are told: the lists stay -/
theorem PssV.nil (H : Hp) : PssV H [] 0 (fun _ => []) := ⟨rfl, fun i v e => nomatch (show (none : Option V) = some v from e)⟩
/-- the path stays where lists that are not its own are changed -/
theorem PathAt.upd {C : Addr} {H : Hp} {x lp l : Addr} {ks ls : List V} {n : Nat} {qs : Nat → List Pt} {o : HO} (h : PathAt C H x lp ks n qs) (hl : H l = some (.lst ls)) (h1 : l ≠ lp) (h2 : ∀ j : Nat, ks[j]? ≠ some (.ref l)) : PathAt C (L2.upd H l o) x lp ks n qs := by
  obtain ⟨⟨dx, q1⟩, q2, q3⟩ := h
  refine ⟨⟨dx, by rw [upd_ne (fun z => by rw [z, hl] at q1; cases q1)]; exact q1⟩, by rw [upd_ne (fun z => h1 z.symm)]; exact q2, q3.1, fun j v e => ?_⟩
  obtain ⟨l', xs, rfl, e2, e3⟩ := q3.2 j v e
  exact ⟨l', xs, rfl, by rw [upd_ne (fun z => h2 j (by rw [← z]; exact e))]; exact e2, e3.tup (Tup.lst hl)⟩
end Cv
namespace Cv
open PySem PySem.Spec PyProof.Rows L2
end Cv
namespace Cv
open PySem PySem.Spec PyProof.Rows L2
end Cv

/-! Promises of partings (k50 to k65) -/
namespace Cv
open PySem PySem.Spec PyProof.Rows L2
noncomputable def SzW (n : Nat) (p : Pl) : Prop := Sz n p.1 ∧ Sz n p.2
noncomputable def spAlong (K : PySem.W.Frag) : Sp := fun vs H Q _ => ∃ (a b : Addr) (ws : List V) (pl : List Pl) (w : Pl), vs = [.ref a, .ref b] ∧ H a = some (.lst ws) ∧ PlsV H ws pl ∧ SqT K H b [.int w.1, .int w.2] ∧ SzQ 2000 pl ∧ SzW 2010 w ∧ pl.length ≤ 1000 ∧
  ∀ (l : Addr) (H' : Hp), Same H H' → H l = none → H' l = some (.lst ((pl.map (dt w)).map V.int)) → Q (.ref l) H'
noncomputable def spStepA (K : PySem.W.Frag) : Sp := fun vs H Q _ => ∃ (a b : Addr) (ws us : List V) (pl ql : List Pl) (i j : Nat) (p q : Pl), vs = [.ref a, .ref b, .int (i : Int), .int (j : Int)] ∧ H a = some (.lst ws) ∧ PlsV H ws pl ∧ H b = some (.lst us) ∧ PlsV H us ql ∧ pl[i]? = some p ∧ ql[j]? = some q ∧
  ∀ (c : Addr) (H' : Hp), Same H H' → H' c = some (.tup [.int (q.1 - p.1), .int (q.2 - p.2), .int (i : Int), .int (j : Int)]) → Q (.ref c) H'
noncomputable def spTurnB (K : PySem.W.Frag) : Sp := fun vs H Q _ => ∃ (a b : Addr) (p q : Pl) (i j m n : Int), vs = [.ref a, .ref b] ∧ H a = some (.tup [.int p.1, .int p.2, .int i, .int j]) ∧ H b = some (.tup [.int q.1, .int q.2, .int m, .int n]) ∧ SzW 2010 p ∧ SzW 2010 q ∧ Q (.int (cr p q)) H
noncomputable def spReach (K : PySem.W.Frag) : Sp := fun vs H Q _ => ∃ (a b d : Addr) (ws us : List V) (pl ql : List Pl) (w : Pl), vs = [.ref a, .ref b, .ref d] ∧ H a = some (.lst ws) ∧ PlsV H ws pl ∧ H b = some (.lst us) ∧ PlsV H us ql ∧ SqT K H d [.int w.1, .int w.2] ∧ SzQ 2000 pl ∧ SzQ 2000 ql ∧ SzW 2010 w ∧ 1 ≤ pl.length ∧ 1 ≤ ql.length ∧ pl.length ≤ 1000 ∧ ql.length ≤ 1000 ∧
  ∀ (c f : Addr) (i j : Nat) (p q : Pl) (H' : Hp), Same H H' → H' c = some (.tup [.int (dt w p), .int (dt w q), .ref f]) → H' f = some (.tup [.int (q.1 - p.1), .int (q.2 - p.2), .int (i : Int), .int (j : Int)]) → pl[i]? = some p → ql[j]? = some q → (∀ p' ∈ pl, dt w p' ≤ dt w p) → (∀ q' ∈ ql, dt w q ≤ dt w q') → Q (.ref c) H'
/-- the first place of a number in a list -/
theorem first_at {ms : List Int} {y : Int} (h : y ∈ ms) : ∃ j : Nat, ms[j]? = some y ∧ ∀ m, m < j → ms[m]? ≠ some y := by
  induction ms with
  | nil => cases h
  | cons a ms ih =>
    by_cases e : a = y
    · exact ⟨0, by rw [e]; rfl, fun m hm => by omega⟩
    · rcases List.mem_cons.mp h with z | z
      · exact absurd z.symm e
      · obtain ⟨j, h1, h2⟩ := ih z
        refine ⟨j + 1, by simpa using h1, fun m hm => ?_⟩
        cases m with
        | zero => simpa using e
        | succ m => have := h2 m (by omega); simpa using this
theorem ints_dt {us : List V} {pl : List Pl} {w : Pl} (hl : us.length = pl.length) (h : ∀ (i : Nat) v, us[i]? = some v → v = V.int (dt w ((pl[i]?).getD (0, 0)))) : us = (pl.map (dt w)).map V.int := by
  refine List.ext_getElem? fun i => ?_
  rw [List.getElem?_map, List.getElem?_map]
  by_cases hi : i < us.length
  · have e : us[i]? = some us[i] := List.getElem?_eq_getElem hi
    have e2 : pl[i]? = some (pl[i]'(by omega)) := List.getElem?_eq_getElem _
    have := h i _ e
    rw [e2] at this
    rw [e, this, e2]; rfl
  · rw [List.getElem?_eq_none (by omega), List.getElem?_eq_none (by omega)]; rfl
/-- a step across: its two parts and where it comes from -/
noncomputable abbrev Stp := Pl × Int × Int
noncomputable def StV (H : Hp) (v : V) (s : Stp) : Prop := ∃ a : Addr, v = .ref a ∧ H a = some (.tup [.int s.1.1, .int s.1.2, .int s.2.1, .int s.2.2])
theorem StV.same {H H' : Hp} {v : V} {s : Stp} (h : StV H v s) (e : Same H H') : StV H' v s := by
  obtain ⟨a, rfl, h⟩ := h
  exact ⟨a, rfl, e _ _ h⟩
noncomputable def datSt (s : Stp) : PySem.W.Dat := .tuple [.int s.1.1, .int s.1.2, .int s.2.1, .int s.2.2]
theorem datSt_inj {s t : Stp} : datSt s = datSt t ↔ s = t := by
  obtain ⟨⟨a, b⟩, c, d⟩ := s
  obtain ⟨⟨a', b'⟩, c', d'⟩ := t
  unfold datSt
  simp
  constructor
  · rintro ⟨h1, h2, h3, h4⟩; exact ⟨⟨h1, h2⟩, h3, h4⟩
  · rintro ⟨⟨h1, h2⟩, h3, h4⟩; exact ⟨h1, h2, h3, h4⟩
theorem datSt_ok (s : Stp) (n : Nat) : PySem.W.kqdOk (n + 2) (datSt s) = true := by
  simp [datSt, PySem.W.kqdOk]
theorem dnSt {K : PySem.W.Frag} {H : Hp} {v : V} {s : Stp} (h : StV H v s) : Dn K H (datSt s) v := by
  obtain ⟨a, rfl, h⟩ := h
  unfold datSt
  simp only [Dn, DnAll]
  exact ⟨a, _, rfl, SqT.of h, _, _, rfl, rfl, _, _, rfl, rfl, _, _, rfl, rfl, _, _, rfl, rfl, rfl⟩
noncomputable def wayA (r l : Stp) : Pl := if r = l then r.1 else amid r.1 l.1
noncomputable def spAmid (K : PySem.W.Frag) : Sp := fun vs H Q _ => ∃ (x y : V) (r l : Stp), vs = [x, y] ∧ StV H x r ∧ StV H y l ∧
  ∀ (c : Addr) (H' : Hp), Same H H' → H' c = some (.tup [.int (wayA r l).1, .int (wayA r l).2]) → Q (.ref c) H'
structure StsV (H : Hp) (vs : List V) (ss : List Stp) : Prop where
  len : vs.length = ss.length
  get : ∀ (i : Nat) v s, vs[i]? = some v → ss[i]? = some s → StV H v s
theorem StsV.same {H H' : Hp} {vs : List V} {ss : List Stp} (h : StsV H vs ss) (e : Same H H') : StsV H' vs ss := ⟨h.len, fun i v s e1 e2 => (h.get i v s e1 e2).same e⟩
theorem StsV.at {H : Hp} {vs : List V} {ss : List Stp} (h : StsV H vs ss) {i : Nat} {s : Stp} (e : ss[i]? = some s) : ∃ a, vs[i]? = some (.ref a) ∧ H a = some (.tup [.int s.1.1, .int s.1.2, .int s.2.1, .int s.2.2]) := by
  have hi : i < ss.length := (List.getElem?_eq_some_iff.mp e).1
  have e1 : vs[i]? = some (vs[i]'(by rw [h.len]; exact hi)) := List.getElem?_eq_getElem _
  obtain ⟨a, e2, h2⟩ := h.get i _ s e1 e
  exact ⟨a, by rw [e1, e2], h2⟩
/-- the steps that hold the origin among them -/
noncomputable def Holds0 (ss : List Stp) : Prop := (∃ r, ss = [r] ∧ r.1 = (0, 0)) ∨ (∃ r f, ss = [r, f] ∧ cr r.1 f.1 = 0 ∧ dt r.1 f.1 ≤ 0 ∧ r.1 ≠ (0, 0)) ∨ (∃ r l f, ss = [r, l, f] ∧ 0 < cr r.1 l.1 ∧ cr r.1 f.1 ≤ 0 ∧ cr f.1 l.1 ≤ 0)
/-- each step goes from a place of one to a place of the other -/
noncomputable def Across (pl ql : List Pl) (s : Stp) : Prop := ∃ (i j : Nat) (p q : Pl), pl[i]? = some p ∧ ql[j]? = some q ∧ s = ((q.1 - p.1, q.2 - p.2), (i : Int), (j : Int))
noncomputable def spParted (K : PySem.W.Frag) : Sp := fun vs H Q _ => ∃ (a b : Addr) (ws us : List V) (pl ql : List Pl) (n : Nat), vs = [.ref a, .ref b] ∧ H a = some (.lst ws) ∧ PlsV H ws pl ∧ H b = some (.lst us) ∧ PlsV H us ql ∧ SzQ n pl ∧ SzQ n ql ∧ 1 ≤ n ∧ n ≤ 2000 ∧ 1 ≤ pl.length ∧ 1 ≤ ql.length ∧ pl.length ≤ 1000 ∧ ql.length ≤ 1000 ∧
  (∀ (c d e : Addr) (w p q : Pl) (H' : Hp), Same H H' → H' c = some (.tup [.ref d, .ref e]) → H' d = some (.tup [.int w.1, .int w.2, .int (dt w p + dt w q)]) → H' e = some (.lst []) → SzW (n + 2) w → p ∈ pl → q ∈ ql → dt w p < dt w q → (∀ p' ∈ pl, dt w p' ≤ dt w p) → (∀ q' ∈ ql, dt w q ≤ dt w q') → Q (.ref c) H') ∧
  (∀ (c e : Addr) (vs : List V) (ss : List Stp) (H' : Hp), Same H H' → H' c = some (.tup [.non, .ref e]) → H' e = some (.lst vs) → StsV H' vs ss → (∀ s ∈ ss, Across pl ql s) → Holds0 ss → Q (.ref c) H')
end Cv
namespace Cv
open PySem PySem.Spec PyProof.Rows L2
/-- while, by a word that carries its measure -/
theorem while_gh {c : TT} {tb : TS} {D : Ends} {σ : L2.St} {H : Hp} (Pv : Nat → L2.St → Hp → Prop) {m0 : Nat} (h0 : Pv m0 σ H)
    (hs : ∀ m σ H, Pv m σ H → c σ H fun b H1 => if b = true then tb { D with nx := fun σ' H' => ∃ m', m' < m ∧ Pv m' σ' H', ct := fun σ' H' => ∃ m', m' < m ∧ Pv m' σ' H', bk := D.nx } σ H1 else D.nx σ H1)
    (mono : ∀ σ H Q Q', (∀ b H1, Q b H1 → Q' b H1) → c σ H Q → c σ H Q') : tWhile c tb D σ H := by
  refine ⟨Pv, ⟨_, h0⟩, ?_⟩
  intro m σ H p
  refine mono σ H _ _ (fun b H1 q => ?_) (hs m σ H p)
  cases b with
  | true => exact ⟨_, fun σ' H' z => z, q⟩
  | false => exact q
/-- all steps across -/
noncomputable def allSt (pl ql : List Pl) : List Pl := pl.flatMap fun p => ql.map fun q => (q.1 - p.1, q.2 - p.2)
theorem Across.mem {pl ql : List Pl} {s : Stp} (h : Across pl ql s) : s.1 ∈ allSt pl ql := by
  obtain ⟨i, j, p, q, h1, h2, rfl⟩ := h
  exact List.mem_flatMap.mpr ⟨p, List.mem_of_getElem? h1, List.mem_map.mpr ⟨q, List.mem_of_getElem? h2, rfl⟩⟩
theorem Across.sz {n : Nat} {pl ql : List Pl} {s : Stp} (h : Across pl ql s) (zp : SzQ n pl) (zq : SzQ n ql) : SzW (n + 1) s.1 := by
  obtain ⟨i, j, p, q, h1, h2, rfl⟩ := h
  have a := zp _ (List.mem_of_getElem? h1)
  have b := zq _ (List.mem_of_getElem? h2)
  exact ⟨Sz.mono (Sz.sub b.1 a.1) (by omega), Sz.mono (Sz.sub b.2 a.2) (by omega)⟩
noncomputable def RLok (r l : Stp) : Prop := (r = l ∧ r.1 ≠ (0, 0)) ∨ 0 < cr r.1 l.1
noncomputable def mS (L : List Pl) (r l : Stp) : Nat := muP L (decide (r = l)) r.1 l.1
theorem RLok.ne {r l : Stp} (h : 0 < cr r.1 l.1) : r ≠ l := fun e => by subst e; rw [cr_self] at h; omega
theorem wayA_sz {n : Nat} {r l : Stp} (hr : SzW n r.1) (hl : SzW n l.1) : SzW (n + 1) (wayA r l) := by
  unfold wayA
  split
  · exact ⟨Sz.mono hr.1 (by omega), Sz.mono hr.2 (by omega)⟩
  · exact ⟨Sz.mono (Sz.sub hl.2 hr.2) (by omega), Sz.mono (Sz.sub hr.1 hl.1) (by omega)⟩
theorem dt_sub (w p q : Pl) : dt w (q.1 - p.1, q.2 - p.2) = dt w q - dt w p := by unfold dt; grind
theorem step_left {L : List Pl} {r l f : Stp} (hf : f.1 ∈ L) (h : RLok r l) (hw : dt (wayA r l) f.1 ≤ 0) (h1 : 0 < cr r.1 f.1) : RLok r f ∧ mS L r f < mS L r l := by
  refine ⟨.inr h1, ?_⟩
  have e1 : decide (r = f) = false := decide_eq_false (RLok.ne h1)
  rcases h with ⟨rfl, h0⟩ | h
  · unfold mS
    rw [e1, decide_eq_true rfl]
    exact mu_first
  · have e2 : decide (r = l) = false := decide_eq_false (RLok.ne h)
    have e3 : wayA r l = amid r.1 l.1 := if_neg (RLok.ne h)
    unfold mS
    rw [e1, e2]
    rw [e3] at hw
    exact mu_left hf h hw h1
theorem step_right {L : List Pl} {r l f : Stp} (hf : f.1 ∈ L) (h : RLok r l) (hw : dt (wayA r l) f.1 ≤ 0) (h1 : 0 < cr f.1 l.1) : RLok f l ∧ mS L f l < mS L r l := by
  refine ⟨.inr h1, ?_⟩
  have e1 : decide (f = l) = false := decide_eq_false (RLok.ne h1)
  rcases h with ⟨rfl, h0⟩ | h
  · unfold mS
    rw [e1, decide_eq_true rfl]
    exact mu_first
  · have e2 : decide (r = l) = false := decide_eq_false (RLok.ne h)
    have e3 : wayA r l = amid r.1 l.1 := if_neg (RLok.ne h)
    unfold mS
    rw [e1, e2]
    rw [e3] at hw
    exact mu_right hf h hw h1
theorem end_two {r f : Stp} (h : RLok r r) (hw : dt (wayA r r) f.1 ≤ 0) (h1 : ¬ 0 < cr r.1 f.1) (h2 : ¬ 0 < cr f.1 r.1) : Holds0 [r, f] := by
  rcases h with ⟨_, h0⟩ | h
  · have e3 : wayA r r = r.1 := if_pos rfl
    rw [e3] at hw
    rw [cr_neg] at h2
    exact .inr (.inl ⟨r, f, rfl, by omega, hw, h0⟩)
  · rw [cr_self] at h; omega
theorem end_three {r l f : Stp} (h : RLok r l) (hn : r ≠ l) (h1 : ¬ 0 < cr r.1 f.1) (h2 : ¬ 0 < cr f.1 l.1) : Holds0 [r, l, f] := by
  rcases h with ⟨h0, _⟩ | h
  · exact absurd h0 hn
  · exact .inr (.inr ⟨r, l, f, rfl, h, by omega, by omega⟩)
theorem SzQ.mono {n m : Nat} {c : List Pl} (h : SzQ n c) (e : n ≤ m) : SzQ m c := fun p hp => ⟨(h p hp).1.mono e, (h p hp).2.mono e⟩
theorem datPl2 (x y : Int) (n : Nat) : PySem.W.kqdOk (n + 2) (.tuple [.int x, .int y]) = true := by simp [PySem.W.kqdOk]
theorem dnPl2 {K : PySem.W.Frag} {H : Hp} {a : Addr} {x y : Int} (h : SqT K H a [.int x, .int y]) : Dn K H (.tuple [.int x, .int y]) (.ref a) := by
  simp only [Dn, DnAll]
  exact ⟨a, _, rfl, h, _, _, rfl, rfl, _, _, rfl, rfl, rfl⟩
end Cv

namespace Cv
open PySem PySem.Spec PyProof.Rows L2
end Cv

namespace Cv
open PySem PySem.Spec PyProof.Rows L2
end Cv
namespace Cv
open PySem PySem.Spec PyProof.Rows L2
noncomputable def CvsV (H : Hp) (us : List V) (ps : List Pt) (d e : Nat → Rat) : Prop := ∀ (i : Nat) (v : V), us[i]? = some v → ∃ (l : Addr) (xs : List V), v = V.ref l ∧ H l = some (HO.lst xs) ∧ PtsV H xs (cvP ps d e i)
theorem CvsV.same {H H' : Hp} {us : List V} {ps : List Pt} {d e : Nat → Rat} (h : CvsV H us ps d e) (s : Same H H') : CvsV H' us ps d e := fun i v ev => by
  obtain ⟨l, xs, e1, e2, e3⟩ := h i v ev
  exact ⟨l, xs, e1, s _ _ e2, e3.same s⟩
end Cv
namespace Cv
open PySem PySem.Spec PyProof.Rows L2
end Cv
namespace Cv
open PySem PySem.Spec PyProof.Rows L2
end Cv

namespace Cv
open PySem PySem.Spec PyProof.Rows L2
/-! ### loops whose turns do not see what goes on behind them -/
end Cv
namespace Cv
open PySem PySem.Spec PyProof.Rows L2
end Cv
namespace Cv
open PySem PySem.Spec PyProof.Rows L2
section
variable {X : Cx}
theorem call_list_ofKH (K : PySem.W.Frag) (h : X.K = K := by rfl) : CallR X (.type "list") (fun xs H Q => ∃ p ys, xs = [.ref p] ∧ (SqL K H p ys ∨ SqT K H p ys) ∧ ∀ l, H l = none → Q (.ref l) (upd H l (.lst ys))) := by subst h; exact call_list_of
end
end Cv
namespace Cv
open PySem PySem.Spec PyProof.Rows L2
/-! ### steps of a reading, each by one small word -/
end Cv

/-! Common shares, lines told (k50, k51, k62) -/
namespace Cv
open PySem PySem.Spec PyProof.Rows L2
theorem StV.tup {H H' : Hp} {v : V} {s : Stp} (h : StV H v s) (e : Tup H H') : StV H' v s := by
  obtain ⟨a, rfl, h⟩ := h
  exact ⟨a, rfl, e _ _ h⟩
theorem StsV.tup {H H' : Hp} {vs : List V} {ss : List Stp} (h : StsV H vs ss) (e : Tup H H') : StsV H' vs ss := ⟨h.len, fun i v s e1 e2 => (h.get i v s e1 e2).tup e⟩
/-! ### mathematics of steps that come to nought -/
noncomputable def tnI : List Stp → List Int
  | [_] => [1]
  | [r, f] => [-r.1.1 * f.1.1 - r.1.2 * f.1.2, r.1.1 * r.1.1 + r.1.2 * r.1.2]
  | [r, l, f] => [cr l.1 f.1, cr f.1 r.1, cr r.1 l.1]
  | _ => []
noncomputable def HoldsS (ss : List Stp) : Prop := (∃ r, ss = [r] ∧ r.1 = (0, 0)) ∨ (∃ r f, ss = [r, f] ∧ cr r.1 f.1 = 0 ∧ r.1.1 * f.1.1 ≤ 0 ∧ r.1.2 * f.1.2 ≤ 0 ∧ r.1 ≠ (0, 0)) ∨ (∃ r l f, ss = [r, l, f] ∧ 0 < cr r.1 l.1 ∧ cr r.1 f.1 ≤ 0 ∧ cr f.1 l.1 ≤ 0)
theorem sq_nn (a : Int) : 0 ≤ a * a := by
  rcases Int.le_total 0 a with h | h
  · exact Int.mul_nonneg h h
  · have := Int.mul_nonneg (show 0 ≤ -a by omega) (show 0 ≤ -a by omega); grind
theorem sign_of {a b c d : Int} (h : a * d - b * c = 0) (h2 : a * c + b * d ≤ 0) : a * c ≤ 0 := by
  rcases Int.lt_or_le 0 (a * c) with z | z
  · exfalso
    have e : (b * d) * (a * c) = (b * c) * (b * c) := by
      have : a * d = b * c := by omega
      grind
    have p := sq_nn (b * c)
    rw [← e] at p
    have : b * d < 0 := by omega
    have := Int.mul_neg_of_neg_of_pos this z
    omega
  · exact z
theorem Holds0.s {ss : List Stp} (h : Holds0 ss) : HoldsS ss := by
  rcases h with h | ⟨r, f, e, h1, h2, h3⟩ | h
  · exact .inl h
  · refine .inr (.inl ⟨r, f, e, h1, ?_, ?_, h3⟩)
    · exact sign_of h1 h2
    · refine sign_of (a := r.1.2) (b := r.1.1) (c := f.1.2) (d := f.1.1) ?_ ?_
      · unfold cr at h1; grind
      · unfold dt at h2; omega
  · exact .inr (.inr h)
/-- the same steps by other measures -/
noncomputable def Meas (A B C D : Int) (s s' : Stp) : Prop := s'.1.1 * A = s.1.1 * B ∧ s'.1.2 * C = s.1.2 * D
theorem nn_of_mul {a b : Int} (ha : 0 < a) (h : a * b ≤ 0) : b ≤ 0 := by
  rcases Int.lt_or_le 0 b with z | z
  · have := Int.mul_pos ha z; omega
  · exact z
theorem pos_of_mulp {a b : Int} (ha : 0 < a) (h : 0 < a * b) : 0 < b := by
  rcases Int.lt_or_le 0 b with z | z
  · exact z
  · have := Int.mul_le_mul_of_nonneg_left z (show 0 ≤ a by omega); simp at this; omega
theorem meas_cr {A B C D : Int} {s s' t t' : Stp} (h : Meas A B C D s s') (k : Meas A B C D t t') : (A * C) * cr s'.1 t'.1 = (B * D) * cr s.1 t.1 := by
  obtain ⟨h1, h2⟩ := h
  obtain ⟨k1, k2⟩ := k
  unfold cr
  have e1 : (s'.1.1 * A) * (t'.1.2 * C) = (s.1.1 * B) * (t.1.2 * D) := by rw [h1, k2]
  have e2 : (s'.1.2 * C) * (t'.1.1 * A) = (s.1.2 * D) * (t.1.1 * B) := by rw [h2, k1]
  grind
theorem meas_nz {A B C D : Int} (hA : 0 < A) (hB : 0 < B) (hC : 0 < C) (hD : 0 < D) {s s' : Stp} (h : Meas A B C D s s') : s'.1 = (0, 0) ↔ s.1 = (0, 0) := by
  obtain ⟨h1, h2⟩ := h
  constructor
  · intro e
    have a1 : s'.1.1 = 0 := by rw [e]
    have a2 : s'.1.2 = 0 := by rw [e]
    rw [a1, Int.zero_mul] at h1
    rw [a2, Int.zero_mul] at h2
    have b1 : s.1.1 = 0 := by rcases Int.mul_eq_zero.mp h1.symm with z | z; exact z; omega
    have b2 : s.1.2 = 0 := by rcases Int.mul_eq_zero.mp h2.symm with z | z; exact z; omega
    exact Prod.ext b1 b2
  · intro e
    have a1 : s.1.1 = 0 := by rw [e]
    have a2 : s.1.2 = 0 := by rw [e]
    rw [a1, Int.zero_mul] at h1
    rw [a2, Int.zero_mul] at h2
    have b1 : s'.1.1 = 0 := by rcases Int.mul_eq_zero.mp h1 with z | z; exact z; omega
    have b2 : s'.1.2 = 0 := by rcases Int.mul_eq_zero.mp h2 with z | z; exact z; omega
    exact Prod.ext b1 b2
theorem meas_sg {A B : Int} (hA : 0 < A) (hB : 0 < B) {x x' y y' : Int} (h : x' * A = x * B) (k : y' * A = y * B) (z : x * y ≤ 0) : x' * y' ≤ 0 := by
  have e : (A * A) * (x' * y') = (B * B) * (x * y) := by
    have : (x' * A) * (y' * A) = (x * B) * (y * B) := by rw [h, k]
    grind
  refine nn_of_mul (Int.mul_pos hA hA) ?_
  rw [e]
  have := Int.mul_le_mul_of_nonneg_left z (show 0 ≤ B * B from Int.mul_nonneg (by omega) (by omega))
  simpa using this
theorem HoldsS.meas {A B C D : Int} (hA : 0 < A) (hB : 0 < B) (hC : 0 < C) (hD : 0 < D) {ss ss' : List Stp} (h : HoldsS ss) (hl : ss'.length = ss.length) (hm : ∀ (k : Nat) s s', ss[k]? = some s → ss'[k]? = some s' → Meas A B C D s s') : HoldsS ss' := by
  have hAC := Int.mul_pos hA hC
  have hBD := Int.mul_pos hB hD
  rcases h with ⟨r, rfl, h⟩ | ⟨r, f, rfl, h1, h2, h3, h4⟩ | ⟨r, l, f, rfl, h1, h2, h3⟩
  · match ss', hl with
    | [r'], _ => exact .inl ⟨r', rfl, (meas_nz hA hB hC hD (hm 0 r r' rfl rfl)).mpr h⟩
  · match ss', hl with
    | [r', f'], _ =>
      have mr := hm 0 r r' rfl rfl
      have mf := hm 1 f f' rfl rfl
      refine .inr (.inl ⟨r', f', rfl, ?_, meas_sg hA hB mr.1 mf.1 h2, meas_sg hC hD mr.2 mf.2 h3, fun e => h4 ((meas_nz hA hB hC hD mr).mp e)⟩)
      have e := meas_cr mr mf
      rw [h1, Int.mul_zero] at e
      rcases Int.mul_eq_zero.mp e with z | z
      · omega
      · exact z
  · match ss', hl with
    | [r', l', f'], _ =>
      have mr := hm 0 r r' rfl rfl
      have ml := hm 1 l l' rfl rfl
      have mf := hm 2 f f' rfl rfl
      refine .inr (.inr ⟨r', l', f', rfl, pos_of_mulp hAC ?_, nn_of_mul hAC ?_, nn_of_mul hAC ?_⟩)
      · rw [meas_cr mr ml]; exact Int.mul_pos hBD h1
      · rw [meas_cr mr mf]
        have := Int.mul_le_mul_of_nonneg_left h2 (show 0 ≤ B * D by omega); simpa using this
      · rw [meas_cr mf ml]
        have := Int.mul_le_mul_of_nonneg_left h3 (show 0 ≤ B * D by omega); simpa using this
/-- a weighted sum -/
noncomputable def dotR (ts : List Int) (cs : List Rat) : Rat := (List.zipWith (fun (t : Int) (c : Rat) => (t : Rat) * c) ts cs).sum
theorem dotR_cons (t : Int) (ts : List Int) (c : Rat) (cs : List Rat) : dotR (t :: ts) (c :: cs) = (t : Rat) * c + dotR ts cs := by unfold dotR; simp
theorem dotR_nil (cs : List Rat) : dotR [] cs = 0 := by unfold dotR; simp
theorem dotR_set : ∀ (ts : List Int) (cs : List Rat) (i : Nat) (t m : Int) (c : Rat), ts[i]? = some t → cs[i]? = some c → dotR (ts.set i (t + m)) cs = dotR ts cs + (m : Rat) * c
  | [], _, i, t, m, c, h, _ => by simp at h
  | _ :: _, [], i, t, m, c, _, h => by simp at h
  | a :: ts, b :: cs, 0, t, m, c, h1, h2 => by
    simp at h1 h2; subst h1 h2
    rw [List.set_cons_zero, dotR_cons, dotR_cons, Rat.intCast_add]; grind
  | a :: ts, b :: cs, i + 1, t, m, c, h1, h2 => by
    rw [List.set_cons_succ, dotR_cons, dotR_cons, dotR_set ts cs i t m c (by simpa using h1) (by simpa using h2)]; grind
theorem dotR_zero : ∀ (n : Nat) (cs : List Rat), dotR (List.replicate n 0) cs = 0
  | 0, cs => dotR_nil cs
  | n + 1, [] => by unfold dotR; simp
  | n + 1, c :: cs => by rw [List.replicate_succ, dotR_cons, dotR_zero n cs]; grind
/-- what is gathered of a list by places -/
noncomputable def accS (cs : List Rat) : List Int → List Nat → Rat
  | t :: ts, j :: js => (t : Rat) * cs.getD j 0 + accS cs ts js
  | _, _ => 0
theorem accS_take (cs : List Rat) : ∀ (ts : List Int) (js : List Nat) (i : Nat) (t : Int) (j : Nat), ts[i]? = some t → js[i]? = some j → accS cs (ts.take (i + 1)) (js.take (i + 1)) = accS cs (ts.take i) (js.take i) + (t : Rat) * cs.getD j 0
  | [], _, i, t, j, h, _ => by simp at h
  | _ :: _, [], i, t, j, _, h => by simp at h
  | a :: ts, b :: js, 0, t, j, h1, h2 => by
    simp at h1 h2; subst h1 h2
    simp [accS, Rat.add_zero, Rat.zero_add]
  | a :: ts, b :: js, i + 1, t, j, h1, h2 => by
    have := accS_take cs ts js i t j (by simpa using h1) (by simpa using h2)
    simp only [List.take_succ_cons, accS]
    rw [this]; grind
theorem tn_len {ss : List Stp} (h : HoldsS ss) : (tnI ss).length = ss.length := by
  rcases h with ⟨r, rfl, _⟩ | ⟨r, f, rfl, _⟩ | ⟨r, l, f, rfl, _⟩ <;> rfl
theorem tn_nn {ss : List Stp} (h : HoldsS ss) : ∀ t ∈ tnI ss, 0 ≤ t := by
  rcases h with ⟨r, rfl, h⟩ | ⟨r, f, rfl, h1, h2, h3, h4⟩ | ⟨r, l, f, rfl, h1, h2, h3⟩
  · intro t ht; simp [tnI] at ht; omega
  · intro t ht
    simp only [tnI, List.mem_cons, List.not_mem_nil, or_false] at ht
    rcases ht with rfl | rfl
    · have : -r.1.1 * f.1.1 = -(r.1.1 * f.1.1) := by grind
      omega
    · have := sq_nn r.1.1; have := sq_nn r.1.2; omega
  · intro t ht
    simp only [tnI, List.mem_cons, List.not_mem_nil, or_false] at ht
    rcases ht with rfl | rfl | rfl
    · rw [cr_neg]; omega
    · rw [cr_neg]; omega
    · omega
theorem sq_pos {a : Int} (h : a ≠ 0) : 0 < a * a := by
  have := sq_nn a
  rcases Int.lt_or_le 0 (a * a) with z | z
  · exact z
  · have e : a * a = 0 := by omega
    rcases Int.mul_eq_zero.mp e with z | z <;> exact absurd z h
theorem tn_pos {ss : List Stp} (h : HoldsS ss) : 0 < (tnI ss).sum := by
  have nn := tn_nn h
  rcases h with ⟨r, rfl, h⟩ | ⟨r, f, rfl, h1, h2, h3, h4⟩ | ⟨r, l, f, rfl, h1, h2, h3⟩
  · show (0 : Int) < [(1 : Int)].sum; decide
  · have a := nn (-r.1.1 * f.1.1 - r.1.2 * f.1.2) (by simp [tnI])
    have b1 := sq_nn r.1.1
    have b2 := sq_nn r.1.2
    have : 0 < r.1.1 * r.1.1 + r.1.2 * r.1.2 := by
      by_cases e : r.1.1 = 0
      · have : r.1.2 ≠ 0 := fun z => h4 (Prod.ext e z)
        have := sq_pos this; omega
      · have := sq_pos e; omega
    simp only [tnI, List.sum_cons, List.sum_nil]; omega
  · have a := nn (cr l.1 f.1) (by simp [tnI])
    have b := nn (cr f.1 r.1) (by simp [tnI])
    simp only [tnI, List.sum_cons, List.sum_nil]; omega
theorem tn_zero {ss : List Stp} (h : HoldsS ss) : (List.zipWith (fun (t : Int) (s : Stp) => t * s.1.1) (tnI ss) ss).sum = 0 ∧ (List.zipWith (fun (t : Int) (s : Stp) => t * s.1.2) (tnI ss) ss).sum = 0 := by
  rcases h with ⟨r, rfl, h⟩ | ⟨r, f, rfl, h1, h2, h3, h4⟩ | ⟨r, l, f, rfl, h1, h2, h3⟩
  · have a1 : r.1.1 = 0 := by rw [h]
    have a2 : r.1.2 = 0 := by rw [h]
    simp [tnI, a1, a2]
  · unfold cr at h1
    simp only [tnI, List.zipWith_cons_cons, List.zipWith_nil_left, List.sum_cons, List.sum_nil]
    constructor
    · have : (-r.1.1 * f.1.1 - r.1.2 * f.1.2) * r.1.1 + ((r.1.1 * r.1.1 + r.1.2 * r.1.2) * f.1.1 + 0) = - (r.1.2 * (r.1.1 * f.1.2 - r.1.2 * f.1.1)) := by grind
      rw [this, h1]; simp
    · have : (-r.1.1 * f.1.1 - r.1.2 * f.1.2) * r.1.2 + ((r.1.1 * r.1.1 + r.1.2 * r.1.2) * f.1.2 + 0) = r.1.1 * (r.1.1 * f.1.2 - r.1.2 * f.1.1) := by grind
      rw [this, h1]; simp
  · simp only [tnI, List.zipWith_cons_cons, List.zipWith_nil_left, List.sum_cons, List.sum_nil]
    unfold cr
    constructor <;> grind
end Cv
namespace Cv
open PySem PySem.Spec PyProof.Rows L2
/-! ### o[i] += e of a list -/
section
variable {X : Cx}
noncomputable def rGetL (K : PySem.W.Frag) : V → V → Hp → VK → Prop := fun o i H Q => ∃ (p : Addr) (xs : List V) (k : Nat) (v : V), o = .ref p ∧ i = .int (k : Int) ∧ SqL K H p xs ∧ xs[k]? = some v ∧ Q v H
theorem get_listK (K : PySem.W.Frag) (hK : X.K = K := by rfl) : PGet X (rGetL K) := by
  subst hK
  intro pins s σ H o i ov iv Q I r1 r2 h
  obtain ⟨p, xs, k, v, rfl, rfl, hq, he, q⟩ := h
  cases r1
  obtain ⟨t, rfl⟩ := r2
  obtain ⟨its, r, pl, hz⟩ := I.list hq
  obtain ⟨w, ew, rw'⟩ := r.get he
  have hl := r.length
  have hn := line63
  have hk : k < xs.length := (List.getElem?_eq_some_iff.mp he).1
  exact wpAny_getItem_list pl.isList (by omega) (by omega) (by rw [Int.toNat_natCast]; simpa using ew) ⟨v, H, I, rw', q⟩
theorem ps_augSI {o i e : Expr} {to ti te : TE} {tget : V → V → Hp → VK → Prop} {tip : TIp} {tset : TSet} {op : Operator} {tpos pos : Pos} (ho : PEi X o to) (hi : PEi X i ti) (hg : PGet X tget) (he : PEi X e te) (hp : PIp X op tip) (hs : PSet X tset)
    (ha : ∀ ov iv new, augStore i ov iv new = (do holding [new, ov, iv] (setItem ov iv new); release [new, ov, iv] []; pure .next) := by intros; rfl) : PSi X (.AugAssign (.Subscript o i tpos) op e pos) (tAugS to ti te tget tip tset) := by with_unfolding_all exact ps_augS (ho := ho) (hi := hi) (hg := hg) (he := he) (hp := hp) (hs := hs) (ha := ha)
end
section
variable {K : PySem.W.Frag} {J : It} {H1 : Hp} {te : TE} {cs : L2.St} {Q : VK} {n : Nat}
/-- a comprehension over tuples of four, each unpacked into four names -/
theorem comp4 {fa : Nat → Addr} {x y u v : Nat → V} (hJ : Plain1 J H1 n (fun i => .ref (fa i))) (hf : ∀ i, i < n → SqT K H1 (fa i) [x i, y i, u i, v i]) (hn : n ≤ 100000) (R : Nat → V → Hp → Prop) (hR : ∀ i v H H', Tup H H' → R i v H → R i v H')
    (he : ∀ i H2 (k : VK), i < n → Same H1 H2 → (∀ v H3, Same H2 H3 → R i v H3 → k v H3) → te (some (x i) :: some (y i) :: some (u i) :: some (v i) :: cs) H2 k)
    (hq : ∀ D ys H2, H1 D = none → Same H1 H2 → H2 D = some (.lst ys) → ys.length = n → (∀ i v, ys[i]? = some v → R i v H2) → Q (.ref D) H2) :
    CompGoal 4 J H1 (gTup K 4 (gCons (gName 0) (gCons (gName 1) (gCons (gName 2) (gCons (gName 3) gNil))))) te cs Q := by
  intro D hD
  refine ⟨fun i m ys H2 => m = n - i ∧ i ≤ n ∧ ys.length = i ∧ Same H1 H2 ∧ H2 D = some (.lst ys) ∧ ∀ j v, ys[j]? = some v → R j v H2, ⟨n, by simp, Nat.zero_le _, rfl, Same.new hD, upd_same, fun j v e => by simp at e⟩, ?_⟩
  rintro i m ys H2 ⟨rfl, hi, hl, s2, d2, r2⟩
  by_cases hlt : i < n
  · refine .inr ⟨((hJ H2 s2 i).1 hlt).1, fun x' H' y' own ho => ?_⟩
    obtain ⟨rfl, rfl⟩ := ((hJ H2 s2 i).1 hlt).2 x' H' y'
    obtain ⟨o1, o2, o3, o4, rfl⟩ : ∃ o1 o2 o3 o4, own = [o1, o2, o3, o4] := by
      match own, ho with
      | [o1, o2, o3, o4], _ => exact ⟨o1, o2, o3, o4, rfl⟩
    refine ⟨fa i, _, rfl, SqT.same s2 (hf i hlt), rfl, _, _, rfl, _, _, rfl, _, _, rfl, _, _, rfl, rfl, ⟨[some (x i), some (y i), some (u i), some (v i)], rfl, rfl⟩, he i _ _ hlt s2 fun v H3 s3 r3 => ⟨s3 _ _ d2, small_line (by omega), n - (i + 1), by omega, rfl, hlt, by rw [List.length_append, hl]; rfl, fun b o e => ?_, upd_same, fun j w e => ?_⟩⟩
    · rw [upd_ne (ne_of_none e hD)]; exact s3 _ _ (s2 _ _ e)
    · have t3 : Tup H3 (upd H3 D (.lst (ys ++ [v]))) := Tup.lst (s3 _ _ d2)
      by_cases hj : j < ys.length
      · rw [List.getElem?_append_left hj] at e
        exact hR _ _ _ _ (s3.tup.trans t3) (r2 j w e)
      · rw [List.getElem?_append_right (by omega)] at e
        have hj0 : j - ys.length = 0 := by
          cases q : j - ys.length with
          | zero => rfl
          | succ k => rw [q] at e; simp at e
        rw [hj0] at e
        have e' : v = w := by simpa using e
        have hji : j = i := by omega
        rw [← e', hji]
        exact hR _ _ _ _ t3 r3
  · have e : i = n := by omega
    subst e
    exact .inl ⟨(hJ H2 s2 i).2 rfl, hq D ys H2 hD s2 d2 hl r2⟩
end
/-! ### promises -/
noncomputable def spTTN (K : PySem.W.Frag) : Sp := fun vs H Q _ => ∃ (a : Addr) (ws : List V) (ss : List Stp), vs = [.ref a] ∧ H a = some (.lst ws) ∧ StsV H ws ss ∧ (∀ s ∈ ss, SzW 2010 s.1) ∧ 1 ≤ ss.length ∧ ss.length ≤ 3 ∧
  ∀ (l : Addr) (H' : Hp), Same H H' → H l = none → H' l = some (.lst ((tnI ss).map V.int)) → Q (.ref l) H'
noncomputable def spToldLine : Sp := fun vs H Q _ => ∃ (d : Addr) (w : Pl) (c bx bY rm : Int), vs = [.ref d, .int bx, .int bY, .int rm] ∧ H d = some (.tup [.int w.1, .int w.2, .int c]) ∧ SzW 9000 w ∧ Sz 9000 bx ∧ Sz 9000 bY ∧ Sz 8000 rm ∧ 0 < rm ∧
  ∀ (t : Addr) (v1 v2 v3 : V) (H' : Hp), Same H H' → H' t = some (.tup [v1, v2, v3]) → ShV H' v1 ((w.1 * bx : Int) : Rat) → ShV H' v2 ((w.2 * bY : Int) : Rat) → ShV H' v3 (Rat.divInt c (2 * rm)) → Q (.ref t) H'
/-- points over places: what they are over -/
structure Over (ps : List Pt) (pl : List Pl) (X Y : Int) : Prop where
  x0 : 0 < X
  y0 : 0 < Y
  eq : toP X Y pl = ps
noncomputable def spWholeP (K : PySem.W.Frag) : Sp := fun vs H Q _ => ∃ (a : Addr) (ws : List V) (ps : List Pt) (D : Int) (n z : Nat), vs = [.ref a] ∧ H a = some (.lst ws) ∧ PtsV H ws ps ∧ 0 < D ∧ Sz z D ∧ z ≤ 9000 ∧ n ≤ 9000 ∧ (∀ p ∈ ps, OvP D n p) ∧ ps.length ≤ 40 ∧
  ∀ (l : Addr) (us : List V) (pl : List Pl) (X Y : Int) (H' : Hp), Same H H' → H l = none → H' l = some (.lst us) → PlsV H' us pl → SzQ n pl → Over ps pl X Y → X ∣ D → Y ∣ D → Q (.ref l) H'
noncomputable def dotQ (qs cs : List Rat) : Rat := (List.zipWith (fun (t c : Rat) => t * c) qs cs).sum
/-- the same point told by parts of both lists -/
structure MeanQ (ps qs : List Pt) (r1 r2 : List Rat) : Prop where
  l1 : r1.length = ps.length
  l2 : r2.length = qs.length
  n1 : ∀ r ∈ r1, 0 ≤ r
  n2 : ∀ r ∈ r2, 0 ≤ r
  o1 : r1.sum = 1
  o2 : r2.sum = 1
  ex : dotQ r1 (ps.map (·.1)) = dotQ r2 (qs.map (·.1))
  ey : dotQ r1 (ps.map (·.2)) = dotQ r2 (qs.map (·.2))
noncomputable def spComSh (K : PySem.W.Frag) : Sp := fun vs H Q _ => ∃ (a b e : Addr) (ws us zs : List V) (ps qs : List Pt) (ss : List Stp) (D X Y : Int) (n z : Nat), vs = [.ref a, .ref b, .ref e] ∧ H a = some (.lst ws) ∧ PtsV H ws ps ∧ H b = some (.lst us) ∧ PtsV H us qs ∧ H e = some (.lst zs) ∧ StsV H zs ss ∧
  0 < D ∧ Sz z D ∧ z ≤ 9000 ∧ n ≤ 2000 ∧ (∀ p ∈ ps, OvP D n p) ∧ (∀ p ∈ qs, OvP D n p) ∧ 1 ≤ ps.length ∧ ps.length ≤ 20 ∧ 1 ≤ qs.length ∧ qs.length ≤ 20 ∧ 0 < X ∧ 0 < Y ∧
  (∀ s ∈ ss, ∃ (i j : Nat) (p q : Pt), ps[i]? = some p ∧ qs[j]? = some q ∧ s.2 = ((i : Int), (j : Int)) ∧ (s.1.1 : Rat) = (q.1 - p.1) * X ∧ (s.1.2 : Rat) = (q.2 - p.2) * Y) ∧ HoldsS ss ∧
  ∀ (c l1 l2 : Addr) (v1 v2 : List V) (r1 r2 : List Rat) (H' : Hp), Same H H' → H' c = some (.tup [.ref l1, .ref l2]) → H l1 = none → H l2 = none → l1 ≠ l2 → H' l1 = some (.lst v1) → H' l2 = some (.lst v2) → ShL H' v1 r1 → ShL H' v2 r2 → (∀ r ∈ r1, Bd (2 * n + 10) r) → (∀ r ∈ r2, Bd (2 * n + 10) r) → MeanQ ps qs r1 r2 → Q (.ref c) H'
noncomputable def spParting (K : PySem.W.Frag) : Sp := fun vs H Q _ => ∃ (a b : Addr) (ws us : List V) (ps qs : List Pt) (D : Int) (n z : Nat), vs = [.ref a, .ref b] ∧ H a = some (.lst ws) ∧ PtsV H ws ps ∧ H b = some (.lst us) ∧ PtsV H us qs ∧
  0 < D ∧ Sz z D ∧ z ≤ 3000 ∧ 1 ≤ n ∧ n ≤ 2000 ∧ (∀ p ∈ ps, OvP D n p) ∧ (∀ p ∈ qs, OvP D n p) ∧ 1 ≤ ps.length ∧ ps.length ≤ 20 ∧ 1 ≤ qs.length ∧ qs.length ≤ 20 ∧
  (∀ (c : Addr) (v1 v2 v3 : V) (q1 q2 q3 : Rat) (H' : Hp), Same H H' → H' c = some (.tup [.str "line", v1, v2, v3]) → ShV H' v1 q1 → ShV H' v2 q2 → ShV H' v3 q3 → Bd (n + z + 10) q1 → Bd (n + z + 10) q2 → Bd (2 * n + 10) q3 → (∀ p ∈ ps, q1 * p.1 + q2 * p.2 < q3) → (∀ p ∈ qs, q3 < q1 * p.1 + q2 * p.2) → Q (.ref c) H') ∧
  (∀ (c l1 l2 : Addr) (v1 v2 : List V) (r1 r2 : List Rat) (H' : Hp), Same H H' → H' c = some (.tup [.str "common", .ref l1, .ref l2]) → H l1 = none → H l2 = none → l1 ≠ l2 → H' l1 = some (.lst v1) → H' l2 = some (.lst v2) → ShL H' v1 r1 → ShL H' v2 r2 → (∀ r ∈ r1, Bd (2 * n + 10) r) → (∀ r ∈ r2, Bd (2 * n + 10) r) → MeanQ ps qs r1 r2 → Q (.ref c) H')
theorem zip_sz {n : Nat} {t1 t2 : List Int} (h1 : ∀ x ∈ t1, Sz n x) (h2 : ∀ x ∈ t2, Sz n x) : SzQ n (t1.zip t2) := fun p hp => ⟨h1 _ (List.of_mem_zip hp).1, h2 _ (List.of_mem_zip hp).2⟩
theorem zip_toP {t1 t2 b1 b2 : List Int} {ps : List Pt} (e1 : axR t1 b1 = ps.map (·.1)) (e2 : axR t2 b2 = ps.map (·.2)) : toP (prodI b1) (prodI b2) (t1.zip t2) = ps := by
  have h := wc_toP (R := 1) (by decide) e1 e2
  rw [Int.mul_one, Int.mul_one] at h
  have e : wcI 1 t1 t2 = t1.zip t2 := by
    unfold wcI
    rw [List.zip]
    congr 1
    funext x y
    rw [Int.mul_one, Int.mul_one]
  rw [e] at h
  exact h
theorem pls_zip {H : Hp} {us : List V} {t1 t2 : List Int} (hl : us.length = min (t1.map V.int).length (t2.map V.int).length) (h : PairsL H us (t1.map V.int) (t2.map V.int)) : PlsV H us (t1.zip t2) := by
  rw [List.length_map, List.length_map] at hl
  refine ⟨by rw [hl, List.length_zip], fun i v p e1 e2 => ?_⟩
  obtain ⟨T, rfl, hT⟩ := h i v e1
  have hi : i < us.length := (List.getElem?_eq_some_iff.mp e1).1
  rw [List.getElem?_zip_eq_some] at e2
  rw [List.getElem?_map, List.getElem?_map, e2.1, e2.2] at hT
  exact ⟨T, rfl, hT⟩
theorem len3 {α : Type} {l : List α} (h : l.length = 3) : ∃ x y z, l = [x, y, z] := by
  match l, h with
  | [x, y, z], _ => exact ⟨x, y, z, rfl⟩
/-! ### what common_shares gathers -/
structure SelT (ps qs : List Pt) (X Y : Int) (s : Stp) (t : (Nat × Nat) × Pt × Pt) : Prop where
  i : ps[t.1.1]? = some t.2.1
  j : qs[t.1.2]? = some t.2.2
  ij : s.2 = ((t.1.1 : Int), (t.1.2 : Int))
  x : (s.1.1 : Rat) = (t.2.2.1 - t.2.1.1) * X
  y : (s.1.2 : Rat) = (t.2.2.2 - t.2.1.2) * Y
theorem sel_list {ps qs : List Pt} {X Y : Int} : ∀ {ss : List Stp}, (∀ s ∈ ss, ∃ (i j : Nat) (p q : Pt), ps[i]? = some p ∧ qs[j]? = some q ∧ s.2 = ((i : Int), (j : Int)) ∧ (s.1.1 : Rat) = (q.1 - p.1) * X ∧ (s.1.2 : Rat) = (q.2 - p.2) * Y) →
    ∃ ts : List ((Nat × Nat) × Pt × Pt), ts.length = ss.length ∧ ∀ (k : Nat) s t, ss[k]? = some s → ts[k]? = some t → SelT ps qs X Y s t
  | [], _ => ⟨[], rfl, fun k s t e => by simp at e⟩
  | s :: ss, h => by
    obtain ⟨i, j, p, q, h1, h2, h3, h4, h5⟩ := h s List.mem_cons_self
    obtain ⟨ts, hl, ht⟩ := sel_list (ss := ss) fun s' hs => h s' (List.mem_cons_of_mem _ hs)
    refine ⟨((i, j), p, q) :: ts, by rw [List.length_cons, List.length_cons, hl], fun k s' t e1 e2 => ?_⟩
    cases k with
    | zero => cases e1; cases e2; exact ⟨h1, h2, h3, h4, h5⟩
    | succ k => exact ht k s' t (by simpa using e1) (by simpa using e2)
/-- the steps reckoned anew -/
noncomputable def newSt (fl gl : List Pl) (m : Nat) : List Stp := (List.range m).map fun (k : Nat) => ((((gl[k]?).getD (0, 0)).1 - ((fl[k]?).getD (0, 0)).1, ((gl[k]?).getD (0, 0)).2 - ((fl[k]?).getD (0, 0)).2), ((k : Int), (k : Int)))
theorem newSt_len (fl gl : List Pl) (m : Nat) : (newSt fl gl m).length = m := by unfold newSt; simp
theorem newSt_at {fl gl : List Pl} {m k : Nat} {f g : Pl} (hk : k < m) (hf : fl[k]? = some f) (hg : gl[k]? = some g) : (newSt fl gl m)[k]? = some ((g.1 - f.1, g.2 - f.2), ((k : Int), (k : Int))) := by
  unfold newSt
  rw [List.getElem?_map, List.getElem?_range hk]
  simp [hf, hg]
theorem toP_at {X Y : Int} {pl : List Pl} {k : Nat} {p : Pt} (h : (toP X Y pl)[k]? = some p) : ∃ q, pl[k]? = some q ∧ p = (Rat.divInt q.1 X, Rat.divInt q.2 Y) := by
  unfold toP at h
  rw [List.getElem?_map] at h
  obtain ⟨q, h1, h2⟩ := Option.map_eq_some_iff.mp h
  exact ⟨q, h1, h2.symm⟩
theorem dv_mul {x : Int} {X : Int} (h : 0 < X) : Rat.divInt x X * (X : Rat) = (x : Rat) := by
  have hn : (X : Rat) ≠ 0 := cast_ne h
  rw [Rat.divInt_eq_div]; grind
theorem new_meas {ps qs : List Pt} {X Y X' Y' : Int} (hX : 0 < X) (hY : 0 < Y) (hX' : 0 < X') (hY' : 0 < Y') {s : Stp} {t : (Nat × Nat) × Pt × Pt} (h : SelT ps qs X Y s t) {f g : Pl} {k : Nat} (hf : t.2.1 = (Rat.divInt f.1 X', Rat.divInt f.2 Y')) (hg : t.2.2 = (Rat.divInt g.1 X', Rat.divInt g.2 Y')) :
    Meas X X' Y Y' s ((g.1 - f.1, g.2 - f.2), ((k : Int), (k : Int))) := by
  have hx := h.x
  have hy := h.y
  rw [hf, hg] at hx hy
  have a1 := dv_mul (x := f.1) hX'
  have a2 := dv_mul (x := g.1) hX'
  have b1 := dv_mul (x := f.2) hY'
  have b2 := dv_mul (x := g.2) hY'
  constructor
  · have e : (((g.1 - f.1) * X : Int) : Rat) = ((s.1.1 * X' : Int) : Rat) := by
      rw [Rat.intCast_mul, Rat.intCast_mul, Rat.intCast_sub, ← a1, ← a2, hx]; grind
    exact_mod_cast e
  · have e : (((g.2 - f.2) * Y : Int) : Rat) = ((s.1.2 * Y' : Int) : Rat) := by
      rw [Rat.intCast_mul, Rat.intCast_mul, Rat.intCast_sub, ← b1, ← b2, hy]; grind
    exact_mod_cast e
theorem plain_sts {K : PySem.W.Frag} {a : Addr} {zs : List V} {ss : List Stp} {H : Hp} (h : SqL K H a zs) (hZ : StsV H zs ss) : ∃ fa : Nat → Addr, Plain1 (Itl K a) H ss.length (fun i => .ref (fa i)) ∧
    ∀ i, i < ss.length → SqT K H (fa i) [.int ((ss[i]?).getD ((0, 0), (0, 0))).1.1, .int ((ss[i]?).getD ((0, 0), (0, 0))).1.2, .int ((ss[i]?).getD ((0, 0), (0, 0))).2.1, .int ((ss[i]?).getD ((0, 0), (0, 0))).2.2] := by
  have hz := hZ.len
  have ex : ∀ i : Nat, ∃ a : Addr, ∀ s, ss[i]? = some s → zs[i]? = some (.ref a) ∧ H a = some (.tup [.int s.1.1, .int s.1.2, .int s.2.1, .int s.2.2]) := fun i => by
    cases e : ss[i]? with
    | none => exact ⟨0, fun s z => by cases z⟩
    | some s =>
      obtain ⟨a, h1, h2⟩ := hZ.at e
      exact ⟨a, fun s' z => by cases z; exact ⟨h1, h2⟩⟩
  obtain ⟨fa, hfa⟩ := Classical.axiomOfChoice ex
  refine ⟨fa, fun H2 s i => ?_, fun i hi => ?_⟩
  · have q := plain_list h H2 s i
    rw [hz] at q
    refine ⟨fun hi => ⟨(q.1 hi).1, fun x H' y => ?_⟩, q.2⟩
    obtain ⟨h1, h2⟩ := (q.1 hi).2 x H' y
    refine ⟨h1, ?_⟩
    rw [h2]
    show (zs[i]?).getD V.non = _
    rw [(hfa i _ (List.getElem?_eq_getElem hi)).1]; rfl
  · rw [List.getElem?_eq_getElem hi]
    exact SqT.of (hfa i _ (List.getElem?_eq_getElem hi)).2
theorem pts_of_sel {H : Hp} {ys : List V} {α : Type} {ts : List α} {f : α → Pt} (hl : ys.length = ts.length) (h : ∀ (i : Nat) v, ys[i]? = some v → ∀ t, ts[i]? = some t → PtV H v (f t).1 (f t).2) : PtsV H ys (ts.map f) := by
  refine ⟨by rw [List.length_map]; exact hl, fun i v p e1 e2 => ?_⟩
  rw [List.getElem?_map] at e2
  obtain ⟨t, h1, rfl⟩ := Option.map_eq_some_iff.mp e2
  exact h i v e1 t h1
theorem tn_sz {n : Nat} {ss : List Stp} (h : ∀ s ∈ ss, SzW n s.1) : ∀ t ∈ tnI ss, Sz (2 * n + 1) t := by
  intro t ht
  match ss, ht, h with
  | [r], ht, h => simp only [tnI, List.mem_singleton] at ht; subst ht; exact Sz.one.mono (by omega)
  | [r, f], ht, h =>
    have a := h r (by simp)
    have b := h f (by simp)
    simp only [tnI, List.mem_cons, List.not_mem_nil, or_false] at ht
    rcases ht with rfl | rfl
    · exact (Sz.sub (Sz.mul a.1.neg b.1) (Sz.mul a.2 b.2)).mono (by omega)
    · exact (Sz.add (Sz.mul a.1 a.1) (Sz.mul a.2 a.2)).mono (by omega)
  | [r, l, f], ht, h =>
    have a := h r (by simp)
    have b := h l (by simp)
    have c := h f (by simp)
    simp only [tnI, List.mem_cons, List.not_mem_nil, or_false] at ht
    rcases ht with rfl | rfl | rfl
    · exact (Sz.sub (Sz.mul b.1 c.2) (Sz.mul b.2 c.1)).mono (by omega)
    · exact (Sz.sub (Sz.mul c.1 a.2) (Sz.mul c.2 a.1)).mono (by omega)
    · exact (Sz.sub (Sz.mul a.1 b.2) (Sz.mul a.2 b.1)).mono (by omega)
  | [], ht, h => simp [tnI] at ht
  | _ :: _ :: _ :: _ :: _, ht, h => simp [tnI] at ht
theorem sum3_sz {n : Nat} {ts : List Int} (h : ∀ t ∈ ts, Sz n t) (hl : ts.length ≤ 3) : Sz (n + 3) ts.sum := by
  match ts, h, hl with
  | [], h, _ => exact Sz.zero.mono (by omega)
  | [a], h, _ => simp only [List.sum_cons, List.sum_nil]; exact (Sz.add (h a (by simp)) Sz.zero).mono (by omega)
  | [a, b], h, _ => simp only [List.sum_cons, List.sum_nil]; exact (Sz.add (h a (by simp)) (Sz.add (h b (by simp)) Sz.zero)).mono (by omega)
  | [a, b, c], h, _ => simp only [List.sum_cons, List.sum_nil]; exact (Sz.add (h a (by simp)) (Sz.add (h b (by simp)) (Sz.add (h c (by simp)) Sz.zero))).mono (by omega)
theorem new_pl {ps qs : List Pt} {X Y X' Y' : Int} {ss : List Stp} {ts : List ((Nat × Nat) × Pt × Pt)} {plc : List Pl} (hl : ts.length = ss.length) (hts : ∀ (k : Nat) s t, ss[k]? = some s → ts[k]? = some t → SelT ps qs X Y s t) (hO : Over (ts.map (·.2.1) ++ ts.map (·.2.2)) plc X' Y') {k : Nat} {t : (Nat × Nat) × Pt × Pt} (e : ts[k]? = some t) :
    ∃ f g, (plc.take ss.length)[k]? = some f ∧ (plc.drop ss.length)[k]? = some g ∧ t.2.1 = (Rat.divInt f.1 X', Rat.divInt f.2 Y') ∧ t.2.2 = (Rat.divInt g.1 X', Rat.divInt g.2 Y') := by
  have hk : k < ts.length := (List.getElem?_eq_some_iff.mp e).1
  have e1 : (toP X' Y' plc)[k]? = some t.2.1 := by
    rw [hO.eq, List.getElem?_append_left (by rw [List.length_map]; exact hk), List.getElem?_map, e]; rfl
  have e2 : (toP X' Y' plc)[ss.length + k]? = some t.2.2 := by
    rw [hO.eq, List.getElem?_append_right (by rw [List.length_map]; omega), List.length_map, List.getElem?_map, show ss.length + k - ts.length = k by omega, e]; rfl
  obtain ⟨f, f1, f2⟩ := toP_at e1
  obtain ⟨g, g1, g2⟩ := toP_at e2
  exact ⟨f, g, by rw [List.getElem?_take_of_lt (by omega)]; exact f1, by rw [List.getElem?_drop]; exact g1, f2, g2⟩
theorem new_holds {ps qs : List Pt} {X Y X' Y' : Int} {ss : List Stp} {ts : List ((Nat × Nat) × Pt × Pt)} {plc : List Pl} (hX : 0 < X) (hY : 0 < Y) (hl : ts.length = ss.length) (hts : ∀ (k : Nat) s t, ss[k]? = some s → ts[k]? = some t → SelT ps qs X Y s t) (hO : Over (ts.map (·.2.1) ++ ts.map (·.2.2)) plc X' Y') (h : HoldsS ss) :
    HoldsS (newSt (plc.take ss.length) (plc.drop ss.length) ss.length) := by
  refine h.meas hX hO.x0 hY hO.y0 (newSt_len _ _ _) fun k s s' e1 e2 => ?_
  have hk : k < ss.length := (List.getElem?_eq_some_iff.mp e1).1
  have et : ts[k]? = some (ts[k]'(by omega)) := List.getElem?_eq_getElem _
  obtain ⟨f, g, f1, g1, f2, g2⟩ := new_pl hl hts hO et
  rw [newSt_at hk f1 g1] at e2
  cases e2
  exact new_meas hX hY hO.x0 hO.y0 (hts k s _ e1 et) f2 g2
theorem new_sz {n m : Nat} {plc : List Pl} (z : SzQ n plc) : ∀ s ∈ newSt (plc.take m) (plc.drop m) m, SzW (n + 1) s.1 := by
  intro s hs
  have hz : ∀ (l : List Pl) (k : Nat), (∀ p ∈ l, p ∈ plc) → Sz n ((l[k]?).getD (0, 0)).1 ∧ Sz n ((l[k]?).getD (0, 0)).2 := fun l k h => by
    cases e : l[k]? with
    | none => exact ⟨Sz.zero.mono (Nat.zero_le _), Sz.zero.mono (Nat.zero_le _)⟩
    | some p => exact z p (h p (List.mem_of_getElem? e))
  unfold newSt at hs
  obtain ⟨k, _, rfl⟩ := List.mem_map.mp hs
  have a := hz (plc.take m) k fun p hp => List.mem_of_mem_take hp
  have b := hz (plc.drop m) k fun p hp => List.mem_of_mem_drop hp
  exact ⟨(Sz.sub b.1 a.1).mono (by omega), (Sz.sub b.2 a.2).mono (by omega)⟩
theorem acc_diff {cs ds : List Rat} {Xr : Rat} {f : Stp → Int} : ∀ (tn : List Int) (ts : List ((Nat × Nat) × Pt × Pt)) (ss : List Stp), ts.length = ss.length → (∀ (k : Nat) t s, ts[k]? = some t → ss[k]? = some s → (ds.getD t.1.2 0 - cs.getD t.1.1 0) * Xr = (f s : Rat)) →
    (accS ds tn (ts.map (·.1.2)) - accS cs tn (ts.map (·.1.1))) * Xr = (((List.zipWith (fun (t : Int) s => t * f s) tn ss).sum : Int) : Rat)
  | [], ts, ss, _, _ => by simp [accS]; grind
  | t :: tn, [], [], _, _ => by simp [accS]; grind
  | t :: tn, [], _ :: _, h, _ => by simp at h
  | t :: tn, _ :: _, [], h, _ => by simp at h
  | t :: tn, a :: ts, s :: ss, hl, h => by
    have ih := acc_diff tn ts ss (by simpa using hl) fun k t s e1 e2 => h (k + 1) t s (by simpa using e1) (by simpa using e2)
    have h0 := h 0 a s rfl rfl
    simp only [List.map_cons, accS, List.zipWith_cons_cons, List.sum_cons, Rat.intCast_add, Rat.intCast_mul]
    rw [← ih, ← h0]; grind
theorem acc_one {cs : List Rat} : ∀ (tn : List Int) (js : List Nat), tn.length = js.length → (∀ j ∈ js, cs.getD j 0 = 1) → accS cs tn js = ((tn.sum : Int) : Rat)
  | [], [], _, _ => by simp [accS]
  | [], _ :: _, h, _ => by simp at h
  | _ :: _, [], h, _ => by simp at h
  | t :: tn, j :: js, hl, h => by
    have ih := acc_one (cs := cs) tn js (by simpa using hl) fun j hj => h j (List.mem_cons_of_mem _ hj)
    have h0 := h j List.mem_cons_self
    simp only [accS, List.sum_cons, Rat.intCast_add]
    rw [ih, h0]; grind
theorem dotQ_div {W : Int} (hW : 0 < W) : ∀ (ms : List Int) (cs : List Rat), dotQ (ms.map fun m => Rat.divInt m W) cs * (W : Rat) = dotR ms cs
  | [], cs => by unfold dotQ dotR; simp
  | _ :: _, [] => by unfold dotQ dotR; simp
  | m :: ms, c :: cs => by
    have ih := dotQ_div hW ms cs
    have e := dv_mul (x := m) hW
    unfold dotQ dotR at ih ⊢
    simp only [List.map_cons, List.zipWith_cons_cons, List.sum_cons]
    rw [← ih, ← e]; grind
theorem sum_div {W : Int} (hW : 0 < W) : ∀ (ms : List Int), (ms.map fun m => Rat.divInt m W).sum * (W : Rat) = dotR ms (List.replicate ms.length 1)
  | [] => by unfold dotR; simp
  | m :: ms => by
    have ih := sum_div hW ms
    have e := dv_mul (x := m) hW
    rw [List.length_cons, List.replicate_succ, dotR_cons, ← ih, ← e]
    simp only [List.map_cons, List.sum_cons]
    grind
theorem rat_cancel {a b W : Rat} (hW : W ≠ 0) (h : a * W = b * W) : a = b := by
  have : (a - b) * W = 0 := by grind
  rcases Rat.mul_eq_zero.mp this with z | z
  · grind
  · exact absurd z hW
theorem getD_map_at {α : Type} {l : List α} {f : α → Rat} {i : Nat} {a : α} (h : l[i]? = some a) : (l.map f).getD i 0 = f a := by
  rw [List.getD_eq_getElem?_getD, List.getElem?_map, h]; rfl
theorem mean_fin {ps qs : List Pt} {X Y X' Y' : Int} {ss : List Stp} {ts : List ((Nat × Nat) × Pt × Pt)} {plc : List Pl} {ms1 ms2 : List Int} (hX : 0 < X) (hY : 0 < Y) (hl : ts.length = ss.length) (hts : ∀ (k : Nat) s t, ss[k]? = some s → ts[k]? = some t → SelT ps qs X Y s t) (hO : Over (ts.map (·.2.1) ++ ts.map (·.2.2)) plc X' Y') (h : HoldsS ss)
    (l1 : ms1.length = ps.length) (l2 : ms2.length = qs.length) (n1 : ∀ m ∈ ms1, 0 ≤ m) (n2 : ∀ m ∈ ms2, 0 ≤ m)
    (A1 : ∀ cs : List Rat, cs.length = ps.length → dotR ms1 cs = accS cs (tnI (newSt (plc.take ss.length) (plc.drop ss.length) ss.length)) (ts.map (·.1.1)))
    (A2 : ∀ cs : List Rat, cs.length = qs.length → dotR ms2 cs = accS cs (tnI (newSt (plc.take ss.length) (plc.drop ss.length) ss.length)) (ts.map (·.1.2))) :
    MeanQ ps qs (ms1.map fun m => Rat.divInt m (tnI (newSt (plc.take ss.length) (plc.drop ss.length) ss.length)).sum) (ms2.map fun m => Rat.divInt m (tnI (newSt (plc.take ss.length) (plc.drop ss.length) ss.length)).sum) := by
  have hN := new_holds hX hY hl hts hO h
  have hW := tn_pos hN
  have hZ := tn_zero hN
  have hTl := tn_len hN
  rw [newSt_len] at hTl
  have hNl : (newSt (plc.take ss.length) (plc.drop ss.length) ss.length).length = ss.length := newSt_len _ _ _
  have hAt : ∀ (k : Nat) t s, ts[k]? = some t → (newSt (plc.take ss.length) (plc.drop ss.length) ss.length)[k]? = some s → (t.2.2.1 - t.2.1.1) * (X' : Rat) = (s.1.1 : Rat) ∧ (t.2.2.2 - t.2.1.2) * (Y' : Rat) = (s.1.2 : Rat) := fun k t s e1 e2 => by
    have hk : k < ts.length := (List.getElem?_eq_some_iff.mp e1).1
    obtain ⟨f, g, f1, g1, f2, g2⟩ := new_pl hl hts hO e1
    rw [newSt_at (by omega) f1 g1] at e2
    cases e2
    rw [f2, g2]
    have a1 := dv_mul (x := f.1) hO.x0
    have a2 := dv_mul (x := g.1) hO.x0
    have b1 := dv_mul (x := f.2) hO.y0
    have b2 := dv_mul (x := g.2) hO.y0
    constructor
    · show _ = ((g.1 - f.1 : Int) : Rat)
      rw [Rat.intCast_sub, ← a1, ← a2]; grind
    · show _ = ((g.2 - f.2 : Int) : Rat)
      rw [Rat.intCast_sub, ← b1, ← b2]; grind
  have hSel : ∀ (k : Nat) t, ts[k]? = some t → ps[t.1.1]? = some t.2.1 ∧ qs[t.1.2]? = some t.2.2 := fun k t e => by
    have hk : k < ts.length := (List.getElem?_eq_some_iff.mp e).1
    have := hts k _ t (List.getElem?_eq_getElem (show k < ss.length by omega)) e
    exact ⟨this.i, this.j⟩
  generalize newSt (plc.take ss.length) (plc.drop ss.length) ss.length = S at *
  have nX : (X' : Rat) ≠ 0 := cast_ne hO.x0
  have nY : (Y' : Rat) ≠ 0 := cast_ne hO.y0
  have nW : ((tnI S).sum : Rat) ≠ 0 := cast_ne hW
  have exq : accS (qs.map (·.1)) (tnI S) (ts.map (·.1.2)) = accS (ps.map (·.1)) (tnI S) (ts.map (·.1.1)) := by
    have d := acc_diff (cs := ps.map (·.1)) (ds := qs.map (·.1)) (Xr := X') (f := fun s => s.1.1) (tnI S) ts S (by omega) fun k t s e1 e2 => by
      rw [getD_map_at (hSel k t e1).1, getD_map_at (hSel k t e1).2]
      exact (hAt k t s e1 e2).1
    rw [hZ.1] at d
    have : (accS (qs.map (·.1)) (tnI S) (ts.map (·.1.2)) - accS (ps.map (·.1)) (tnI S) (ts.map (·.1.1))) * (X' : Rat) = 0 * (X' : Rat) := by rw [d]; grind
    have := rat_cancel nX this
    grind
  have eyq : accS (qs.map (·.2)) (tnI S) (ts.map (·.1.2)) = accS (ps.map (·.2)) (tnI S) (ts.map (·.1.1)) := by
    have d := acc_diff (cs := ps.map (·.2)) (ds := qs.map (·.2)) (Xr := Y') (f := fun s => s.1.2) (tnI S) ts S (by omega) fun k t s e1 e2 => by
      rw [getD_map_at (hSel k t e1).1, getD_map_at (hSel k t e1).2]
      exact (hAt k t s e1 e2).2
    rw [hZ.2] at d
    have : (accS (qs.map (·.2)) (tnI S) (ts.map (·.1.2)) - accS (ps.map (·.2)) (tnI S) (ts.map (·.1.1))) * (Y' : Rat) = 0 * (Y' : Rat) := by rw [d]; grind
    have := rat_cancel nY this
    grind
  have nn : ∀ ms : List Int, (∀ m ∈ ms, 0 ≤ m) → ∀ r ∈ ms.map (fun m => Rat.divInt m (tnI S).sum), 0 ≤ r := fun ms hm r hr => by
    obtain ⟨m, h1, rfl⟩ := List.mem_map.mp hr
    have := div_le hW (hm m h1)
    rw [Rat.zero_divInt] at this
    exact this
  refine ⟨by rw [List.length_map, l1], by rw [List.length_map, l2], nn _ n1, nn _ n2, rat_cancel nW ?_, rat_cancel nW ?_, rat_cancel nW ?_, rat_cancel nW ?_⟩
  · rw [sum_div hW, l1, A1 _ (by simp), acc_one _ _ (by rw [List.length_map]; omega) fun j hj => ?_]
    · grind
    · obtain ⟨t, ht, rfl⟩ := List.mem_map.mp hj
      obtain ⟨k, ek⟩ := List.mem_iff_getElem?.mp ht
      have := (List.getElem?_eq_some_iff.mp (hSel k t ek).1).1
      simp [List.getD_eq_getElem?_getD, this]
  · rw [sum_div hW, l2, A2 _ (by simp), acc_one _ _ (by rw [List.length_map]; omega) fun j hj => ?_]
    · grind
    · obtain ⟨t, ht, rfl⟩ := List.mem_map.mp hj
      obtain ⟨k, ek⟩ := List.mem_iff_getElem?.mp ht
      have := (List.getElem?_eq_some_iff.mp (hSel k t ek).2).1
      simp [List.getD_eq_getElem?_getD, this]
  · rw [dotQ_div hW, dotQ_div hW, A1 _ (by simp), A2 _ (by simp), exq]
  · rw [dotQ_div hW, dotQ_div hW, A1 _ (by simp), A2 _ (by simp), eyq]
theorem zeros_flat (n : Nat) : (List.replicate ((n : Int)).toNat [V.int 0]).flatten = (List.replicate n (0 : Int)).map V.int := by rw [flat_rep, Int.toNat_natCast, List.map_replicate]
theorem zeros_ok {ts : List Int} (n : Nat) : ∀ m ∈ List.replicate n (0 : Int), 0 ≤ m ∧ m ≤ (ts.take 0).sum := fun m hm => by
  rw [List.eq_of_mem_replicate hm]; simp
theorem int_at' {ms : List Int} {i : Nat} {m : Int} (h : ms[i]? = some m) : (ms.map V.int)[i]? = some (.int m) := by rw [List.getElem?_map, h]; rfl
theorem sum_take {ts : List Int} {i : Nat} {t : Int} (h : ts[i]? = some t) : (ts.take (i + 1)).sum = (ts.take i).sum + t := by
  rw [List.take_add_one, h]; simp
theorem set_ok {ms ts : List Int} {i j : Nat} {a t : Int} (h1 : ms[j]? = some a) (h2 : ts[i]? = some t) (t0 : 0 ≤ t) (h : ∀ m ∈ ms, 0 ≤ m ∧ m ≤ (ts.take i).sum) : ∀ m ∈ ms.set j (a + t), 0 ≤ m ∧ m ≤ (ts.take (i + 1)).sum := fun m hm => by
  rw [sum_take h2]
  rcases List.mem_or_eq_of_mem_set hm with z | z
  · have := h m z; omega
  · have := h a (List.mem_of_getElem? h1); omega
theorem shl_ints {H : Hp} {ys : List V} {ms : List Int} {f : Int → Rat} (hl : ys.length = ms.length) (h : ∀ (i : Nat) v, ys[i]? = some v → ∀ m, ms[i]? = some m → ShV H v (f m)) : ShL H ys (ms.map f) := by
  refine ⟨by rw [List.length_map]; exact hl, fun i v q e1 e2 => ?_⟩
  rw [List.getElem?_map] at e2
  obtain ⟨m, h1, rfl⟩ := Option.map_eq_some_iff.mp e2
  exact h i v e1 m h1
theorem toP_take (X Y : Int) (c : List Pl) (n : Nat) : toP X Y (c.take n) = (toP X Y c).take n := by unfold toP; rw [List.map_take]
theorem toP_drop (X Y : Int) (c : List Pl) (n : Nat) : toP X Y (c.drop n) = (toP X Y c).drop n := by unfold toP; rw [List.map_drop]
theorem Over.fst {ps qs : List Pt} {c : List Pl} {X Y : Int} (h : Over (ps ++ qs) c X Y) : Over ps (c.take ps.length) X Y := ⟨h.x0, h.y0, by rw [toP_take, h.eq, List.take_left']; rfl⟩
theorem Over.snd {ps qs : List Pt} {c : List Pl} {X Y : Int} (h : Over (ps ++ qs) c X Y) : Over qs (c.drop ps.length) X Y := ⟨h.x0, h.y0, by rw [toP_drop, h.eq, List.drop_left']; rfl⟩
theorem Over.len {ps : List Pt} {c : List Pl} {X Y : Int} (h : Over ps c X Y) : c.length = ps.length := by rw [← h.eq, toP_len]
theorem Over.at {ps : List Pt} {c : List Pl} {X Y : Int} (h : Over ps c X Y) {i : Nat} {p : Pl} (e : c[i]? = some p) : ps[i]? = some (Rat.divInt p.1 X, Rat.divInt p.2 Y) := by
  rw [← h.eq]; unfold toP; rw [List.getElem?_map, e]; rfl
theorem Over.line {ps : List Pt} {c : List Pl} {X Y : Int} (h : Over ps c X Y) (w : Pl) {p : Pt} (hp : p ∈ ps) : ∃ P ∈ c, ((w.1 * X : Int) : Rat) * p.1 + ((w.2 * Y : Int) : Rat) * p.2 = ((dt w P : Int) : Rat) := by
  rw [← h.eq] at hp
  unfold toP at hp
  obtain ⟨P, hP, rfl⟩ := List.mem_map.mp hp
  refine ⟨P, hP, ?_⟩
  have a := dv_mul (x := P.1) h.x0
  have b := dv_mul (x := P.2) h.y0
  unfold dt
  rw [Rat.intCast_add, Rat.intCast_mul, Rat.intCast_mul, Rat.intCast_mul, Rat.intCast_mul]
  show (w.1 : Rat) * X * Rat.divInt P.1 X + (w.2 : Rat) * Y * Rat.divInt P.2 Y = _
  rw [← a, ← b]; grind
theorem half_lo {m l d : Int} (h : m < l) (hd : d ≤ m) : ((d : Int) : Rat) < Rat.divInt (m + l) (2 * 1) := by
  have e := dv_mul (x := m + l) (X := 2 * 1) (by decide)
  have h2 : (2 * d : Int) < m + l := by omega
  have h3 : ((2 * d : Int) : Rat) < ((m + l : Int) : Rat) := by exact_mod_cast h2
  rw [← e, Rat.intCast_mul] at h3
  have e2 : ((2 * 1 : Int) : Rat) = 2 := by decide
  have e3 : ((2 : Int) : Rat) = 2 := by decide
  rw [e2, e3] at h3
  grind
theorem half_hi {m l d : Int} (h : m < l) (hd : l ≤ d) : Rat.divInt (m + l) (2 * 1) < ((d : Int) : Rat) := by
  have e := dv_mul (x := m + l) (X := 2 * 1) (by decide)
  have h2 : m + l < (2 * d : Int) := by omega
  have h3 : ((m + l : Int) : Rat) < ((2 * d : Int) : Rat) := by exact_mod_cast h2
  rw [← e, Rat.intCast_mul 2 d] at h3
  have e2 : ((2 * 1 : Int) : Rat) = 2 := by decide
  have e3 : ((2 : Int) : Rat) = 2 := by decide
  rw [e2, e3] at h3
  grind
theorem dvd_sz {X D : Int} {z : Nat} (h0 : 0 < X) (hD : 0 < D) (h : X ∣ D) (zD : Sz z D) : Sz z X := zD.le (by have := Int.le_of_dvd hD h; omega)
theorem dt_sz {n m : Nat} {w p : Pl} (hw : SzW n w) (h1 : Sz m p.1) (h2 : Sz m p.2) : Sz (n + m + 1) (dt w p) := (Sz.add (Sz.mul hw.1 h1) (Sz.mul hw.2 h2)).mono (by omega)
theorem bd_int {n : Nat} {x : Int} (h : Sz n x) (hn : 1 ≤ n) : Bd n (x : Rat) := ⟨by rw [Rat.num_intCast]; exact h, by rw [Rat.den_intCast]; exact Sz.one.mono hn⟩
end Cv

namespace Cv
open PySem PySem.Spec PyProof.Rows L2
/-! ### polar points: one share changed -/
noncomputable def datShs (ts : List Rat) : PySem.W.Dat := .list (ts.map datSh)
theorem datShs_ok (ts : List Rat) (n : Nat) : PySem.W.kqdOk (n + 2) (datShs ts) = true := by
  have h : ∀ p : Rat, PySem.W.kqdOk (n + 1) (datSh p) = true := fun p => datSh_ok p n
  simp [datShs, PySem.W.kqdOk, h]
theorem ShL.dnAll {K : PySem.W.Frag} {H : Hp} : ∀ {vs : List V} {ts : List Rat}, ShL H vs ts → DnAll K H (ts.map datSh) vs
  | [], [], _ => by simp [DnAll]
  | [], _ :: _, h => by have := h.len; simp at this
  | _ :: _, [], h => by have := h.len; simp at this
  | v :: vs, q :: ts, h => by
    have h1 := ShV.dn (K := K) (h.get 0 v q rfl rfl)
    have h2 : ShL H vs ts := ⟨by have := h.len; simpa using this, fun i x y e1 e2 => h.get (i + 1) x y e1 e2⟩
    have h3 := ShL.dnAll (K := K) h2
    simp only [List.map_cons, DnAll]
    exact ⟨_, _, rfl, h1, h3⟩
theorem ShL.dn {K : PySem.W.Frag} {H : Hp} {a : Addr} {vs : List V} {ts : List Rat} (h : ShL H vs ts) (ha : SqL K H a vs) : Dn K H (datShs ts) (.ref a) := by
  unfold datShs
  simp only [Dn]
  exact ⟨a, vs, rfl, ha, h.dnAll⟩
noncomputable def co (p : Pt) (i : Nat) : Rat := if i = 0 then p.1 else p.2
end Cv

namespace L2
open PySem PySem.Spec PyProof.Rows
section
variable {X : Cx} {pos : Pos}
/-- three names at once -/
noncomputable def tPar3 (i j k : Nat) (ta : TA) : TS := fun D σ H => ta σ H fun vs H1 => ∃ v w z, vs = [v, w, z] ∧ D.nx (((σ.set i (some v)).set j (some w)).set k (some z)) H1
theorem ps_par3 {i j k : Nat} {x y z : Str} {a b c : Expr} {ta : TA} {px py pz pt : Pos} {kt k2 pt2} (hc : X.calm = true) (hN : X.N.Nodup) (hi : X.N[i]? = some x) (hj : X.N[j]? = some y) (hk : X.N[k]? = some z) (hij : i ≠ j) (hik : i ≠ k) (hjk : j ≠ k)
    (hx : X.env.scope.names.lookup x = some .local) (hy : X.env.scope.names.lookup y = some .local) (hz : X.env.scope.names.lookup z = some .local) (ha : PA X [a, b, c] ta)
    (hw : swappedStores [.Tuple [.Name x px, .Name y py, .Name z pz] kt pt] (.Tuple [a, b, c] k2 pt2) X.env = pure (some [x, y, z]))
    (hs : swapsWithSole [.Tuple [.Name x px, .Name y py, .Name z pz] kt pt] (.Tuple [a, b, c] k2 pt2) pos.line X.env = pure false := by rfl) :
    PS X (.Assign [.Tuple [.Name x px, .Name y py, .Name z pz] kt pt] (.Tuple [a, b, c] k2 pt2) pos) (tPar3 i j k ta) := by
  intro pins s σ H D I h
  rw [exec_Assign_arm]
  refine wpAny_bind (wpAny_standAt ?_)
  rw [hs]
  refine wpAny_bind (wpAny_pure ?_)
  rw [if_neg (by decide)]
  refine wpAny_bind (Tuple_ (thn (ha _ pins s σ H _ I h) fun us s1 ⟨vs, H1, I1, r1, q1⟩ => ?_))
  obtain ⟨v, w, q, e1, q1⟩ := q1
  subst e1
  obtain ⟨u1, u2, u3, rfl, rv, rw', rq⟩ : ∃ u1 u2 u3, us = [u1, u2, u3] ∧ RelV v u1 ∧ RelV w u2 ∧ RelV q u3 := by
    cases r1 with
    | cons p q =>
      cases q with
      | cons p' q' =>
        cases q' with
        | cons p'' q'' =>
          cases q''
          exact ⟨_, _, _, rfl, p, p', p''⟩
  refine wpAny_newObj_type ?_ (by show 3 ≤ sizeLine; decide)
  have I2 : Inv X pins σ H1 { s1 with heap := s1.heap.push { cls := .type "tuple", data := .seq [u1, u2, u3].toArray } } := I1.kept (t' := s1.toks) fun b o e => Heap.get?_push_of_some _ e
  rw [hw]
  refine wpAny_bind (wpAny_pure ?_)
  show wpAny (model X.prog X.w) X.A (do rule "assign.swapped-stores"; let items ← unpackItems (.ref s1.heap.objs.size) 3 none; assignInOrder [fun v => bindName X.env z v, fun v => bindName X.env y v, fun v => bindName X.env x v] items.reverse; pure Flow.next) _ _ _
  refine wpAny_bind (wpAny_rule (wpAny_bind (unpackItems_tuple (items := #[u1, u2, u3]) (I.ok.hd hc) (IsTup.new s1.heap _) fun h' hx' => ?_)))
  have I3 := I2.kept (h' := h') (t' := s1.toks) fun b o e => hx' b o (Nat.ne_of_lt (Heap.lt_size e)) e
  show wpAny _ _ (assignInOrder [fun v => bindName X.env z v, fun v => bindName X.env y v, fun v => bindName X.env x v] [u3, u2, u1] >>= fun _ => pure Flow.next) _ _ _
  refine wpAny_bind (assignInOrder_cons (wpAny_bindName (store_ok I3 hN hk (.inl hz) rq (fun s2 I4 => ?_) (.inr hz))))
  refine assignInOrder_cons (wpAny_bindName (store_ok I4 hN hj (.inl hy) rw' (fun s3 I5 => ?_) (.inr hy)))
  refine assignInOrder_cons (wpAny_bindName (store_ok I5 hN hi (.inl hx) rv (fun s4 I6 => assignInOrder_nil (wpAny_pure ?_)) (.inr hx)))
  rw [List.set_comm _ _ (Ne.symm hij), List.set_comm _ _ (Ne.symm hik), List.set_comm _ _ (Ne.symm hjk)] at I6
  exact ⟨_, H1, I6, q1⟩
end
end L2
namespace Cv
open PySem PySem.Spec PyProof.Rows L2
theorem ps_par3I {X : Cx} {pos : Pos} {i j k : Nat} {x y z : Str} {a b c : Expr} {ta : TA} {px py pz pt : Pos} {kt k2 pt2} (hc : X.calm = true) (hN : X.N.Nodup) (hi : X.N[i]? = some x) (hj : X.N[j]? = some y) (hk : X.N[k]? = some z) (hij : i ≠ j) (hik : i ≠ k) (hjk : j ≠ k)
    (hx : X.env.scope.names.lookup x = some .local) (hy : X.env.scope.names.lookup y = some .local) (hz : X.env.scope.names.lookup z = some .local) (ha : PAi X [a, b, c] ta)
    (hw : swappedStores [.Tuple [.Name x px, .Name y py, .Name z pz] kt pt] (.Tuple [a, b, c] k2 pt2) X.env = pure (some [x, y, z]))
    (hs : swapsWithSole [.Tuple [.Name x px, .Name y py, .Name z pz] kt pt] (.Tuple [a, b, c] k2 pt2) pos.line X.env = pure false := by rfl) :
    PSi X (.Assign [.Tuple [.Name x px, .Name y py, .Name z pz] kt pt] (.Tuple [a, b, c] k2 pt2) pos) (tPar3 i j k ta) := by with_unfolding_all exact ps_par3 (hc := hc) (hN := hN) (hi := hi) (hj := hj) (hk := hk) (hij := hij) (hik := hik) (hjk := hjk) (hx := hx) (hy := hy) (hz := hz) (ha := ha) (hw := hw) (hs := hs)
end Cv
/-! What the laws k50, k51 look at -/
namespace Cv
open PySem PySem.Spec PyProof.Rows L2
structure LineQ (ps qs : List Pt) (q1 q2 q3 : Rat) : Prop where
  lo : ∀ p ∈ ps, q1 * p.1 + q2 * p.2 < q3
  hi : ∀ p ∈ qs, q3 < q1 * p.1 + q2 * p.2
structure LineV (H : Hp) (c : Addr) (ps qs : List Pt) (s : Nat) : Prop where
  ex : ∃ (v1 v2 v3 : V) (q1 q2 q3 : Rat), H c = some (.tup [.str "line", v1, v2, v3]) ∧ ShV H v1 q1 ∧ ShV H v2 q2 ∧ ShV H v3 q3 ∧ Bd s q1 ∧ Bd s q2 ∧ Bd s q3 ∧ LineQ ps qs q1 q2 q3
structure ComV (H : Hp) (c l1 l2 : Addr) (ps qs : List Pt) (s : Nat) : Prop where
  ex : ∃ (v1 v2 : List V) (r1 r2 : List Rat), H c = some (.tup [.str "common", .ref l1, .ref l2]) ∧ H l1 = some (.lst v1) ∧ H l2 = some (.lst v2) ∧ ShL H v1 r1 ∧ ShL H v2 r2 ∧ (∀ r ∈ r1, Bd s r) ∧ (∀ r ∈ r2, Bd s r) ∧ MeanQ ps qs r1 r2
theorem LineV.same {H H' : Hp} {c : Addr} {ps qs : List Pt} {s : Nat} (h : LineV H c ps qs s) (e : Same H H') : LineV H' c ps qs s := by
  obtain ⟨v1, v2, v3, q1, q2, q3, h0, h1, h2, h3, r⟩ := h
  exact ⟨v1, v2, v3, q1, q2, q3, e _ _ h0, h1.same e, h2.same e, h3.same e, r⟩
theorem ComV.same {H H' : Hp} {c l1 l2 : Addr} {ps qs : List Pt} {s : Nat} (h : ComV H c l1 l2 ps qs s) (e : Same H H') : ComV H' c l1 l2 ps qs s := by
  obtain ⟨v1, v2, r1, r2, h0, h1, h2, h3, h4, r⟩ := h
  exact ⟨v1, v2, r1, r2, e _ _ h0, e _ _ h1, e _ _ h2, h3.same e, h4.same e, r⟩
/-! ### a line and a common point can't both be -/
theorem dot_lin (a b : Rat) : ∀ (rs : List Rat) (ps : List Pt), rs.length = ps.length → a * dotQ rs (ps.map (·.1)) + b * dotQ rs (ps.map (·.2)) = dotQ rs (ps.map fun p => a * p.1 + b * p.2)
  | [], [], _ => by unfold dotQ; simp; grind
  | [], _ :: _, h => by simp at h
  | _ :: _, [], h => by simp at h
  | r :: rs, p :: ps, h => by
    have ih := dot_lin a b rs ps (by simpa using h)
    unfold dotQ at ih ⊢
    simp only [List.map_cons, List.zipWith_cons_cons, List.sum_cons]
    rw [← ih]; grind
theorem dot_le {c : Rat} : ∀ (rs cs : List Rat), rs.length = cs.length → (∀ r ∈ rs, 0 ≤ r) → (∀ x ∈ cs, x ≤ c) → dotQ rs cs ≤ rs.sum * c
  | [], [], _, _, _ => by unfold dotQ; simp
  | [], _ :: _, h, _, _ => by simp at h
  | _ :: _, [], h, _, _ => by simp at h
  | r :: rs, x :: cs, h, hr, hc => by
    have ih := dot_le rs cs (by simpa using h) (fun r' h' => hr r' (List.mem_cons_of_mem _ h')) (fun x' h' => hc x' (List.mem_cons_of_mem _ h'))
    have h0 := hr r List.mem_cons_self
    have h1 := hc x List.mem_cons_self
    have := Rat.mul_le_mul_of_nonneg_left h1 h0
    unfold dotQ at ih ⊢
    simp only [List.zipWith_cons_cons, List.sum_cons]
    grind
theorem max_ex : ∀ (cs : List Rat), cs ≠ [] → ∃ m ∈ cs, ∀ x ∈ cs, x ≤ m
  | [], h => absurd rfl h
  | [a], _ => ⟨a, List.mem_cons_self, fun x hx => by rw [List.mem_singleton.mp hx]; exact Rat.le_refl⟩
  | a :: b :: l, _ => by
    obtain ⟨m, hm, hx⟩ := max_ex (b :: l) (by simp)
    by_cases e : a ≤ m
    · exact ⟨m, List.mem_cons_of_mem _ hm, fun x h => by rcases List.mem_cons.mp h with rfl | h; exact e; exact hx x h⟩
    · refine ⟨a, List.mem_cons_self, fun x h => ?_⟩
      rcases List.mem_cons.mp h with rfl | h
      · exact Rat.le_refl
      · have := hx x h
        have e' := (Rat.le_total (a := a) (b := m)).resolve_left e
        exact Rat.le_trans this e'
theorem dot_lt {c : Rat} {rs cs : List Rat} (hl : rs.length = cs.length) (hr : ∀ r ∈ rs, 0 ≤ r) (ho : rs.sum = 1) (hc : ∀ x ∈ cs, x < c) : dotQ rs cs < c := by
  have hne : cs ≠ [] := fun e => by
    subst e
    have : rs = [] := List.length_eq_zero_iff.mp hl
    subst this
    simp at ho
  obtain ⟨m, hm, hx⟩ := max_ex cs hne
  have := dot_le rs cs hl hr hx
  rw [ho] at this
  have h1 := hc m hm
  grind
theorem dot_neg : ∀ (rs cs : List Rat), dotQ rs (cs.map fun c => -c) = - dotQ rs cs
  | [], cs => by unfold dotQ; simp
  | _ :: _, [] => by unfold dotQ; simp
  | r :: rs, c :: cs => by
    have ih := dot_neg rs cs
    unfold dotQ at ih ⊢
    simp only [List.map_cons, List.zipWith_cons_cons, List.sum_cons]
    rw [ih]; grind
theorem dot_gt {c : Rat} {rs cs : List Rat} (hl : rs.length = cs.length) (hr : ∀ r ∈ rs, 0 ≤ r) (ho : rs.sum = 1) (hc : ∀ x ∈ cs, c < x) : c < dotQ rs cs := by
  have := dot_lt (c := -c) (rs := rs) (cs := cs.map fun c => -c) (by simpa using hl) hr ho fun x hx => by
    obtain ⟨y, hy, rfl⟩ := List.mem_map.mp hx
    have := hc y hy
    grind
  rw [dot_neg] at this
  grind
theorem no_both {ps qs : List Pt} {q1 q2 q3 : Rat} {r1 r2 : List Rat} (h : LineQ ps qs q1 q2 q3) (m : MeanQ ps qs r1 r2) : False := by
  have e1 := dot_lin q1 q2 r1 ps m.l1
  have e2 := dot_lin q1 q2 r2 qs m.l2
  have a := dot_lt (c := q3) (rs := r1) (cs := ps.map fun p => q1 * p.1 + q2 * p.2) (by simpa using m.l1) m.n1 m.o1 fun x hx => by
    obtain ⟨p, hp, rfl⟩ := List.mem_map.mp hx
    exact h.lo p hp
  have b := dot_gt (c := q3) (rs := r2) (cs := qs.map fun p => q1 * p.1 + q2 * p.2) (by simpa using m.l2) m.n2 m.o2 fun x hx => by
    obtain ⟨p, hp, rfl⟩ := List.mem_map.mp hx
    exact h.hi p hp
  rw [← e1, m.ex, m.ey, e2] at a
  grind
/-- the law's test of a line, by tops and bottoms -/
theorem line_num {a b c x y : Rat} (h : a * x + b * y < c) : (a.num * x.num * (b.den : Int) * (y.den : Int) + b.num * y.num * (a.den : Int) * (x.den : Int)) * (c.den : Int) < c.num * ((a.den : Int) * (x.den : Int) * (b.den : Int) * (y.den : Int)) := by
  have na := num_cast a
  have nb := num_cast b
  have nc := num_cast c
  have nx := num_cast x
  have ny := num_cast y
  have da : (0 : Rat) < ((a.den : Int) : Rat) := by exact_mod_cast a.den_pos
  have db : (0 : Rat) < ((b.den : Int) : Rat) := by exact_mod_cast b.den_pos
  have dc : (0 : Rat) < ((c.den : Int) : Rat) := by exact_mod_cast c.den_pos
  have dx : (0 : Rat) < ((x.den : Int) : Rat) := by exact_mod_cast x.den_pos
  have dy : (0 : Rat) < ((y.den : Int) : Rat) := by exact_mod_cast y.den_pos
  have P : (0 : Rat) < ((a.den : Int) : Rat) * ((x.den : Int) : Rat) * (((b.den : Int) : Rat) * ((y.den : Int) : Rat)) * ((c.den : Int) : Rat) := Rat.mul_pos (Rat.mul_pos (Rat.mul_pos da dx) (Rat.mul_pos db dy)) dc
  have := Rat.mul_lt_mul_of_pos_right h P
  have goal : (((a.num * x.num * (b.den : Int) * (y.den : Int) + b.num * y.num * (a.den : Int) * (x.den : Int)) * (c.den : Int) : Int) : Rat) < ((c.num * ((a.den : Int) * (x.den : Int) * (b.den : Int) * (y.den : Int)) : Int) : Rat) := by
    simp only [Rat.intCast_mul, Rat.intCast_add]
    have e1 : ((a.num : Rat) * x.num * ((b.den : Int) : Rat) * ((y.den : Int) : Rat) + b.num * y.num * ((a.den : Int) : Rat) * ((x.den : Int) : Rat)) * ((c.den : Int) : Rat) = (a * x + b * y) * (((a.den : Int) : Rat) * ((x.den : Int) : Rat) * (((b.den : Int) : Rat) * ((y.den : Int) : Rat)) * ((c.den : Int) : Rat)) := by
      rw [na, nb, nx, ny]; grind
    have e2 : (c.num : Rat) * (((a.den : Int) : Rat) * ((x.den : Int) : Rat) * ((b.den : Int) : Rat) * ((y.den : Int) : Rat)) = c * (((a.den : Int) : Rat) * ((x.den : Int) : Rat) * (((b.den : Int) : Rat) * ((y.den : Int) : Rat)) * ((c.den : Int) : Rat)) := by
      rw [nc]; grind
    rw [e1, e2]
    exact this
  exact_mod_cast goal
theorem line_num' {a b c x y : Rat} (h : c < a * x + b * y) : c.num * ((a.den : Int) * (x.den : Int) * (b.den : Int) * (y.den : Int)) < (a.num * x.num * (b.den : Int) * (y.den : Int) + b.num * y.num * (a.den : Int) * (x.den : Int)) * (c.den : Int) := by
  have := line_num (a := -a) (b := -b) (c := -c) (x := x) (y := y) (by grind)
  simp only [Rat.neg_num, Rat.neg_den] at this
  have e : (-a.num * x.num * (b.den : Int) * (y.den : Int) + -b.num * y.num * (a.den : Int) * (x.den : Int)) * (c.den : Int) = -((a.num * x.num * (b.den : Int) * (y.den : Int) + b.num * y.num * (a.den : Int) * (x.den : Int)) * (c.den : Int)) := by grind
  have e2 : -c.num * ((a.den : Int) * (x.den : Int) * (b.den : Int) * (y.den : Int)) = -(c.num * ((a.den : Int) * (x.den : Int) * (b.den : Int) * (y.den : Int))) := by grind
  rw [e, e2] at this
  omega
noncomputable def SideQ (s : Int) (a b c : Rat) (ps : List Pt) : Prop := ∀ p ∈ ps, s * (a.num * p.1.num * (b.den : Int) * (p.2.den : Int) + b.num * p.2.num * (a.den : Int) * (p.1.den : Int)) * (c.den : Int) < s * c.num * ((a.den : Int) * (p.1.den : Int) * (b.den : Int) * (p.2.den : Int))
theorem LineQ.side {ps qs : List Pt} {a b c : Rat} (h : LineQ ps qs a b c) : SideQ 1 a b c ps ∧ SideQ (-1) a b c qs := by
  refine ⟨fun p hp => ?_, fun p hp => ?_⟩
  · rw [Int.one_mul, Int.one_mul]; exact line_num (h.lo p hp)
  · have := line_num' (h.hi p hp)
    have e : ∀ x y : Int, -1 * x * y = -(x * y) := fun x y => by grind
    rw [e, e]; omega
/-! ### promises -/
noncomputable def spIsLine (K : PySem.W.Frag) : Sp := fun vs H Q _ => ∃ (c l0 l1 : Addr) (w0 w1 : List V) (ps qs : List Pt), vs = [.ref c, .ref l0, .ref l1] ∧ LineV H c ps qs 2000 ∧ H l0 = some (.lst w0) ∧ PtsV H w0 ps ∧ H l1 = some (.lst w1) ∧ PtsV H w1 qs ∧ (∀ p ∈ ps, Bd 2000 p.1 ∧ Bd 2000 p.2) ∧ (∀ p ∈ qs, Bd 2000 p.1 ∧ Bd 2000 p.2) ∧ ∀ H', Same H H' → Q (.bl true) H'
noncomputable def spLMean (K : PySem.W.Frag) : Sp := fun vs H Q _ => ∃ (l m : Addr) (vl ws : List V) (rs : List Rat) (ps : List Pt) (s1 s2 : Nat), vs = [.ref l, .ref m] ∧ H l = some (.lst vl) ∧ ShL H vl rs ∧ H m = some (.lst ws) ∧ PtsV H ws ps ∧ rs.length = ps.length ∧ (∀ r ∈ rs, 0 ≤ r ∧ Bd s1 r) ∧ (∀ p ∈ ps, Bd s2 p.1 ∧ Bd s2 p.2) ∧ 1 ≤ s2 ∧ rs.length * (s1 + s2 + 1) ≤ 8900 ∧ s1 ≤ 3000 ∧ s2 ≤ 3000 ∧
  ∀ (d : Addr) (u1 u2 u3 : V) (H' : Hp), Same H H' → H d = none → H' d = some (.lst [u1, u2, u3]) → ShV H' u1 (dotQ rs (ps.map (·.1))) → ShV H' u2 (dotQ rs (ps.map (·.2))) → ShV H' u3 rs.sum → Q (.ref d) H'
noncomputable def spKind (K : PySem.W.Frag) : Sp := fun vs H Q _ => ∃ (c l0 l1 : Addr) (w0 w1 : List V) (ps qs : List Pt), vs = [.ref c, .ref l0, .ref l1] ∧ H l0 = some (.lst w0) ∧ PtsV H w0 ps ∧ H l1 = some (.lst w1) ∧ PtsV H w1 qs ∧
  ((LineV H c ps qs 2000 ∧ (∀ p ∈ ps, Bd 2000 p.1 ∧ Bd 2000 p.2) ∧ (∀ p ∈ qs, Bd 2000 p.1 ∧ Bd 2000 p.2) ∧ ∀ H', Same H H' → Q (.str "line") H') ∨
   (∃ (s1 s2 : Nat) (d1 d2 : Addr), ComV H c d1 d2 ps qs s1 ∧ (∀ p ∈ ps, Bd s2 p.1 ∧ Bd s2 p.2) ∧ (∀ p ∈ qs, Bd s2 p.1 ∧ Bd s2 p.2) ∧ 1 ≤ s2 ∧ ps.length * (s1 + s2 + 1) ≤ 8900 ∧ qs.length * (s1 + s2 + 1) ≤ 8900 ∧ s1 ≤ 3000 ∧ s2 ≤ 3000 ∧ ∀ H', Same H H' → Q (.str "common") H'))
theorem dotQ_take {rs cs : List Rat} {i : Nat} {r c : Rat} (h1 : rs[i]? = some r) (h2 : cs[i]? = some c) : dotQ (rs.take (i + 1)) (cs.take (i + 1)) = dotQ (rs.take i) (cs.take i) + r * c := by
  induction rs generalizing cs i with
  | nil => simp at h1
  | cons a rs ih =>
    cases cs with
    | nil => simp at h2
    | cons b cs =>
      cases i with
      | zero => simp at h1 h2; subst h1 h2; unfold dotQ; simp [Rat.add_zero, Rat.zero_add]
      | succ i =>
        have := ih (cs := cs) (i := i) (by simpa using h1) (by simpa using h2)
        unfold dotQ at this ⊢
        simp only [List.take_succ_cons, List.zipWith_cons_cons, List.sum_cons]
        rw [this]; grind
theorem dotQ_ones : ∀ (rs : List Rat), dotQ rs (List.replicate rs.length 1) = rs.sum
  | [] => by unfold dotQ; simp
  | r :: rs => by
    have ih := dotQ_ones rs
    unfold dotQ at ih ⊢
    simp only [List.length_cons, List.replicate_succ, List.zipWith_cons_cons, List.sum_cons]
    rw [ih]; grind
/-- the coordinates by their axis: x, y, 1 -/
noncomputable def axC (ps : List Pt) : Nat → List Rat
  | 0 => ps.map (·.1)
  | 1 => ps.map (·.2)
  | _ => List.replicate ps.length 1
theorem axC_len (ps : List Pt) (i : Nat) : (axC ps i).length = ps.length := by
  match i with
  | 0 => simp [axC]
  | 1 => simp [axC]
  | i + 2 => simp [axC]
theorem mean_step {top bot low : Int} {r c d : Rat} (h : (top : Rat) = d * bot) (e : low = (r.den : Int) * (c.den : Int)) : ((top * low + r.num * c.num * bot : Int) : Rat) = (d + r * c) * ((bot * low : Int) : Rat) := by
  subst e
  have nr := num_cast r
  have nc := num_cast c
  simp only [Rat.intCast_mul, Rat.intCast_add]
  rw [h, nr, nc]; grind
theorem shl3 {H : Hp} {u v w : V} {a b c : Rat} (h1 : ShV H u a) (h2 : ShV H v b) (h3 : ShV H w c) : ShL H [u, v, w] [a, b, c] := (((ShL.nil H).snoc h1).snoc h2).snoc h3
/-- what was told, by its kind: a line (true) or a common point -/
noncomputable def KdV (H : Hp) (c : Addr) (ps qs : List Pt) (s : Nat) (b : Bool) (l1 l2 : Addr) : Prop := if b = true then LineV H c ps qs s else ComV H c l1 l2 ps qs s
noncomputable def wd (b : Bool) : V := if b = true then .str "line" else .str "common"
theorem KdV.same {H H' : Hp} {c l1 l2 : Addr} {ps qs : List Pt} {s : Nat} {b : Bool} (h : KdV H c ps qs s b l1 l2) (e : Same H H') : KdV H' c ps qs s b l1 l2 := by
  cases b with
  | true => exact LineV.same (show LineV H c ps qs s from h) e
  | false => exact ComV.same (show ComV H c l1 l2 ps qs s from h) e
theorem part_one {K : PySem.W.Frag} {H : Hp} {Q : VK} {E : XK} {a b : Addr} {ws us : List V} {ps qs : List Pt} {D : Int} {n z : Nat} (ha : H a = some (.lst ws)) (hP : PtsV H ws ps) (hb : H b = some (.lst us)) (hQ : PtsV H us qs) (hD : 0 < D) (zD : Sz z D) (hz : z ≤ n) (h1 : 1 ≤ n) (hn : n ≤ 900)
    (o1 : ∀ p ∈ ps, OvP D n p) (o2 : ∀ p ∈ qs, OvP D n p) (p1 : 1 ≤ ps.length) (p2 : ps.length ≤ 20) (q1 : 1 ≤ qs.length) (q2 : qs.length ≤ 20)
    (k : ∀ (c l1 l2 : Addr) (bo : Bool) (H' : Hp), Same H H' → (bo = false → H l1 = none ∧ H l2 = none ∧ l1 ≠ l2) → KdV H' c ps qs (2 * n + 10) bo l1 l2 → Q (.ref c) H') : spParting K [.ref a, .ref b] H Q E := by
  refine ⟨a, b, ws, us, ps, qs, D, n, z, rfl, ha, hP, hb, hQ, hD, zD, by omega, h1, by omega, o1, o2, p1, p2, q1, q2, ?_, ?_⟩
  · intro c v1 v2 v3 r1 r2 r3 H' s hc g1 g2 g3 b1 b2 b3 lo hi
    exact k c 0 0 true H' s (fun z => nomatch z) ⟨v1, v2, v3, r1, r2, r3, hc, g1, g2, g3, b1.mono (by omega), b2.mono (by omega), b3, lo, hi⟩
  · intro c l1 l2 v1 v2 r1 r2 H' s hc f1 f2 f12 g1 g2 S1 S2 b1 b2 mq
    exact k c l1 l2 false H' s (fun _ => ⟨f1, f2, f12⟩) ⟨v1, v2, r1, r2, hc, g1, g2, S1, S2, b1, b2, mq⟩
theorem kind_one {K : PySem.W.Frag} {H : Hp} {Q : VK} {E : XK} {c l0 l1 : Addr} {w0 w1 : List V} {ps qs : List Pt} {D : Int} {n z : Nat} {bo : Bool} {d1 d2 : Addr} (h0 : H l0 = some (.lst w0)) (hP : PtsV H w0 ps) (h1 : H l1 = some (.lst w1)) (hQ : PtsV H w1 qs) (hK : KdV H c ps qs (2 * n + 10) bo d1 d2)
    (hD : 0 < D) (zD : Sz z D) (hz : z ≤ n) (hn1 : 1 ≤ n) (hn : n ≤ 900) (o1 : ∀ p ∈ ps, OvP D n p) (o2 : ∀ p ∈ qs, OvP D n p) (y1 : ps.length * (3 * n + 11) ≤ 8900) (y2 : qs.length * (3 * n + 11) ≤ 8900)
    (k : ∀ H', Same H H' → Q (wd bo) H') : spKind K [.ref c, .ref l0, .ref l1] H Q E := by
  have bd : ∀ qs : List Pt, (∀ p ∈ qs, OvP D n p) → ∀ p ∈ qs, Bd n p.1 ∧ Bd n p.2 := fun qs o p hp => ovp_bd4 hD zD (o p hp) n (Nat.le_refl _) hz
  refine ⟨c, l0, l1, w0, w1, ps, qs, rfl, h0, hP, h1, hQ, ?_⟩
  cases bo with
  | true =>
    obtain ⟨v1, v2, v3, q1, q2, q3, hc, g1, g2, g3, b1, b2, b3, hl⟩ := (show LineV H c ps qs (2 * n + 10) from hK)
    refine .inl ⟨⟨v1, v2, v3, q1, q2, q3, hc, g1, g2, g3, b1.mono (by omega), b2.mono (by omega), b3.mono (by omega), hl⟩, fun p hp => ?_, fun p hp => ?_, k⟩
    · exact ⟨((bd ps o1 p hp).1).mono (by omega), ((bd ps o1 p hp).2).mono (by omega)⟩
    · exact ⟨((bd qs o2 p hp).1).mono (by omega), ((bd qs o2 p hp).2).mono (by omega)⟩
  | false =>
    refine .inr ⟨2 * n + 10, n, d1, d2, hK, bd ps o1, bd qs o2, hn1, ?_, ?_, by omega, by omega, k⟩
    · rw [show 2 * n + 10 + n + 1 = 3 * n + 11 by omega]; exact y1
    · rw [show 2 * n + 10 + n + 1 = 3 * n + 11 by omega]; exact y2
end Cv

/-! What the law k51 makes: lists that meet, lists that are parted -/
namespace Cv
open PySem PySem.Spec PyProof.Rows L2
noncomputable def mvP (x y : Rat) (ps : List Pt) : List Pt := ps.map fun p => (p.1 + x, p.2 + y)
noncomputable def spMoved (K : PySem.W.Frag) : Sp := fun vs H Q _ => ∃ (l : Addr) (vx vy : V) (ws : List V) (ps : List Pt) (x y : Rat), vs = [.ref l, vx, vy] ∧ H l = some (.lst ws) ∧ PtsV H ws ps ∧ ShV H vx x ∧ ShV H vy y ∧ Bd 2000 x ∧ Bd 2000 y ∧ (∀ p ∈ ps, Bd 2000 p.1 ∧ Bd 2000 p.2) ∧ ps.length ≤ 1000 ∧
  ∀ (d : Addr) (us : List V) (H' : Hp), Same H H' → H d = none → H' d = some (.lst us) → PtsV H' us (mvP x y ps) → Q (.ref d) H'
noncomputable def spLLess : Sp := fun vs H Q _ => ∃ u v p q, vs = [u, v] ∧ ShV H u p ∧ ShV H v q ∧ Bd 2000 p ∧ Bd 2000 q ∧ ∀ w H', Same H H' → ShV H' w (p - q) → Q w H'
noncomputable def byW (a b : Int) (p : Pt) : Rat := (a : Rat) * p.1 + (b : Rat) * p.2
noncomputable def spByWay : Sp := fun vs H Q _ => ∃ (t : Addr) (v : V) (a b : Int) (x y : Rat), vs = [.ref t, v] ∧ H t = some (.tup [.int a, .int b]) ∧ PtV H v x y ∧ Sz 10 a ∧ Sz 10 b ∧ Bd 2000 x ∧ Bd 2000 y ∧ ∀ w H', Same H H' → ShV H' w (byW a b (x, y)) → Q w H'
theorem by_way_eq (a b : Int) (x y : Rat) : Rat.divInt (a * x.num * (y.den : Int) + b * y.num * (x.den : Int)) ((x.den : Int) * (y.den : Int)) = byW a b (x, y) := by
  have hp : (0 : Int) < (x.den : Int) * (y.den : Int) := Int.mul_pos (by exact_mod_cast x.den_pos) (by exact_mod_cast y.den_pos)
  refine (eq_divInt (by omega) ?_).symm
  have nx := num_cast x
  have ny := num_cast y
  unfold byW
  simp only [Rat.intCast_mul, Rat.intCast_add]
  rw [nx, ny]; grind
/-- what both makings need -/
structure TwoL (H : Hp) (l0 l1 ls : Addr) (w0 w1 : List V) (p0 p1 : List Pt) (B : Int) (xs : List Int) : Prop where
  a : H l0 = some (.lst w0)
  P : PtsV H w0 p0
  b : H l1 = some (.lst w1)
  Q : PtsV H w1 p1
  s : H ls = some (.lst (xs.map V.int))
  oP : ∀ p ∈ p0, OvP B 110 p
  oQ : ∀ p ∈ p1, OvP B 110 p
  B1 : 1 ≤ B
  B3 : B ≤ 3
  a1 : 1 ≤ p0.length
  p8 : p0.length ≤ 8
  q1 : 1 ≤ p1.length
  q8 : p1.length ≤ 8
  xl : xs.length = 24
  xn : ∀ x ∈ xs, 0 ≤ x
theorem TwoL.same {H H' : Hp} {l0 l1 ls : Addr} {w0 w1 : List V} {p0 p1 : List Pt} {B : Int} {xs : List Int} (h : TwoL H l0 l1 ls w0 w1 p0 p1 B xs) (e : Same H H') : TwoL H' l0 l1 ls w0 w1 p0 p1 B xs :=
  ⟨e _ _ h.a, h.P.same e, e _ _ h.b, h.Q.same e, e _ _ h.s, h.oP, h.oQ, h.B1, h.B3, h.a1, h.p8, h.q1, h.q8, h.xl, h.xn⟩
structure Both (p0 q1 : List Pt) (D : Int) (z : Nat) : Prop where
  d0 : 0 < D
  dz : Sz z D
  o0 : ∀ p ∈ p0, OvP D 200 p
  o1 : ∀ p ∈ q1, OvP D 200 p
noncomputable def spMeeting (K : PySem.W.Frag) : Sp := fun vs H Q _ => ∃ (l0 l1 ls : Addr) (w0 w1 : List V) (p0 p1 : List Pt) (B : Int) (xs : List Int), vs = [.ref l0, .ref l1, .ref ls] ∧ TwoL H l0 l1 ls w0 w1 p0 p1 B xs ∧
  ∀ (d : Addr) (us : List V) (H' : Hp) (x y : Rat) (D : Int) (r1 r2 : List Rat), Same H H' → H d = none → H' d = some (.lst us) → PtsV H' us (mvP x y p1) → Both p0 (mvP x y p1) D 30 → MeanQ p0 (mvP x y p1) r1 r2 → Q (.ref d) H'
noncomputable def spLPart (K : PySem.W.Frag) : Sp := fun vs H Q _ => ∃ (l0 l1 ls : Addr) (w0 w1 : List V) (p0 p1 : List Pt) (B : Int) (xs : List Int), vs = [.ref l0, .ref l1, .ref ls] ∧ TwoL H l0 l1 ls w0 w1 p0 p1 B xs ∧
  ∀ (d : Addr) (us : List V) (H' : Hp) (x y : Rat) (D : Int) (q1 q2 q3 : Rat), Same H H' → H d = none → H' d = some (.lst us) → PtsV H' us (mvP x y p1) → Both p0 (mvP x y p1) D 30 → LineQ p0 (mvP x y p1) q1 q2 q3 → Q (.ref d) H'
theorem ovNeg {D : Int} {n : Nat} {x : Rat} (h : Ov D n x) : Ov D n (-x) := by
  obtain ⟨m, h1, h2⟩ := h
  exact ⟨-m, by rw [Rat.intCast_neg, ← h1]; grind, h2.neg⟩
theorem ovAdd {D : Int} {n : Nat} {x y : Rat} (h : Ov D n x) (k : Ov D n y) : Ov D (n + 1) (x + y) := by
  obtain ⟨m, h1, h2⟩ := h
  obtain ⟨m', k1, k2⟩ := k
  exact ⟨m + m', by rw [Rat.intCast_add, ← h1, ← k1]; grind, (Sz.add h2 k2).mono (by omega)⟩
/-! ### mathematics of the meeting -/
noncomputable def unitR (n k : Nat) : List Rat := (List.replicate n (0 : Rat)).set k 1
theorem dotQ_zeros : ∀ (n : Nat) (cs : List Rat), dotQ (List.replicate n 0) cs = 0
  | 0, cs => by unfold dotQ; simp
  | n + 1, [] => by unfold dotQ; simp
  | n + 1, c :: cs => by
    have ih := dotQ_zeros n cs
    unfold dotQ at ih ⊢
    simp only [List.replicate_succ, List.zipWith_cons_cons, List.sum_cons]
    rw [ih]; grind
theorem dotQ_unit : ∀ (n k : Nat) (cs : List Rat), k < n → cs.length = n → dotQ (unitR n k) cs = cs.getD k 0
  | 0, k, cs, h, _ => by omega
  | n + 1, k, [], _, h => by simp at h
  | n + 1, 0, c :: cs, _, _ => by
    have z := dotQ_zeros n cs
    unfold dotQ unitR at *
    simp only [List.replicate_succ, List.set_cons_zero, List.zipWith_cons_cons, List.sum_cons]
    rw [z]; simp [Rat.add_zero, Rat.one_mul]
  | n + 1, k + 1, c :: cs, h, hl => by
    have ih := dotQ_unit n k cs (by omega) (by simpa using hl)
    unfold dotQ unitR at *
    simp only [List.replicate_succ, List.set_cons_succ, List.zipWith_cons_cons, List.sum_cons]
    rw [ih]; simp [Rat.zero_add, Rat.zero_mul]
theorem unit_sum : ∀ (n k : Nat), k < n → (unitR n k).sum = 1 := fun n k h => by
  have := dotQ_unit n k (List.replicate n 1) h (by simp)
  have hl : (unitR n k).length = n := by unfold unitR; simp
  have e := dotQ_ones (unitR n k)
  rw [hl] at e
  rw [← e, this]
  simp [List.getD_eq_getElem?_getD, h]
theorem unit_nn (n k : Nat) : ∀ r ∈ unitR n k, 0 ≤ r := fun r hr => by
  unfold unitR at hr
  rcases List.mem_or_eq_of_mem_set hr with z | z
  · rw [List.eq_of_mem_replicate z]; exact Rat.le_refl
  · rw [z]; decide
theorem dotR_ov {B : Int} : ∀ (ms : List Int) (cs : List Rat), ms.length = cs.length → (∀ m ∈ ms, Sz 3 m) → (∀ c ∈ cs, Ov B 110 c) → Ov B (113 + ms.length) (dotR ms cs)
  | [], cs, _, _, _ => by rw [dotR_nil]; exact (Ov.zero B 112).mono (by simp)
  | _ :: _, [], h, _, _ => by simp at h
  | m :: ms, c :: cs, h, hm, hc => by
    have ih := dotR_ov ms cs (by simpa using h) (fun m' h' => hm m' (List.mem_cons_of_mem _ h')) (fun c' h' => hc c' (List.mem_cons_of_mem _ h'))
    rw [dotR_cons]
    have a := (Ov.imul (hc c List.mem_cons_self) (hm m List.mem_cons_self)).mono (show 110 + 3 ≤ 113 + ms.length by omega)
    exact (ovAdd a ih).mono (by rw [List.length_cons]; omega)
theorem Ov.over {B S : Int} {n : Nat} {q : Rat} (h : Ov B n (q * (S : Rat))) : Ov (B * S) n q := by
  obtain ⟨m, h1, h2⟩ := h
  exact ⟨m, by rw [← h1, Rat.intCast_mul]; grind, h2⟩
theorem sum_bnd : ∀ (ms : List Int), (∀ m ∈ ms, 0 ≤ m ∧ m ≤ 5) → 0 ≤ ms.sum ∧ ms.sum ≤ 5 * (ms.length : Int)
  | [], _ => by simp
  | m :: ms, h => by
    have ih := sum_bnd ms fun m' h' => h m' (List.mem_cons_of_mem _ h')
    have := h m List.mem_cons_self
    rw [List.sum_cons, List.length_cons]; omega
theorem ints_ex {P : Int → Prop} : ∀ {ys : List V}, (∀ (i : Nat) v, ys[i]? = some v → ∃ m : Int, v = .int m ∧ P m) → ∃ ms : List Int, ys = ms.map V.int ∧ ∀ m ∈ ms, P m
  | [], _ => ⟨[], rfl, fun _ h => nomatch h⟩
  | y :: ys, h => by
    obtain ⟨m, rfl, hm⟩ := h 0 y rfl
    obtain ⟨ms, rfl, hs⟩ := ints_ex (ys := ys) fun i v e => h (i + 1) v (by simpa using e)
    exact ⟨m :: ms, rfl, fun z hz => by rcases List.mem_cons.mp hz with rfl | hz; exact hm; exact hs z hz⟩
/-- a part put at a place where all were nought -/
theorem set_pos : ∀ (ms : List Int) (i : Nat), i < ms.length → (∀ m ∈ ms, 0 ≤ m ∧ m ≤ 5) → (∀ m ∈ ms.set i 3, 0 ≤ m ∧ m ≤ 5) ∧ 0 < (ms.set i 3).sum
  | [], i, h, _ => by simp at h
  | m :: ms, 0, _, hm => by
    have := sum_bnd ms fun m' h' => hm m' (List.mem_cons_of_mem _ h')
    refine ⟨fun z hz => ?_, by rw [List.set_cons_zero, List.sum_cons]; omega⟩
    rw [List.set_cons_zero] at hz
    rcases List.mem_cons.mp hz with rfl | hz
    · omega
    · exact hm z (List.mem_cons_of_mem _ hz)
  | m :: ms, i + 1, h, hm => by
    obtain ⟨h1, h2⟩ := set_pos ms i (by simpa using h) fun m' h' => hm m' (List.mem_cons_of_mem _ h')
    have h0 := hm m List.mem_cons_self
    refine ⟨fun z hz => ?_, by rw [List.set_cons_succ, List.sum_cons]; omega⟩
    rw [List.set_cons_succ] at hz
    rcases List.mem_cons.mp hz with rfl | hz
    · exact h0
    · exact h1 z hz
theorem meet_both {p0 p1 : List Pt} {B : Int} {ms : List Int} (hB : 1 ≤ B) (hB3 : B ≤ 3) (o0 : ∀ p ∈ p0, OvP B 110 p) (o1 : ∀ p ∈ p1, OvP B 110 p) (hl : ms.length = p0.length) (h8 : p0.length ≤ 8) (hm : ∀ m ∈ ms, 0 ≤ m ∧ m ≤ 5) (hS : 0 < ms.sum) {k : Nat} {q : Pt} (hk : p1[k]? = some q) :
    Both p0 (mvP (dotQ (ms.map fun m => Rat.divInt m ms.sum) (p0.map (·.1)) - q.1) (dotQ (ms.map fun m => Rat.divInt m ms.sum) (p0.map (·.2)) - q.2) p1) (B * ms.sum) 30 ∧
    MeanQ p0 (mvP (dotQ (ms.map fun m => Rat.divInt m ms.sum) (p0.map (·.1)) - q.1) (dotQ (ms.map fun m => Rat.divInt m ms.sum) (p0.map (·.2)) - q.2) p1) (ms.map fun m => Rat.divInt m ms.sum) (unitR p1.length k) := by
  have sb := sum_bnd ms hm
  have zS : Sz 6 ms.sum := ⟨by show ms.sum.natAbs < 64; omega⟩
  have zB : Sz 2 B := ⟨by show B.natAbs < 4; omega⟩
  have hk1 : k < p1.length := (List.getElem?_eq_some_iff.mp hk).1
  have hq := o1 q (List.mem_of_getElem? hk)
  have sz3 : ∀ m ∈ ms, Sz 3 m := fun m h => ⟨by have := hm m h; show m.natAbs < 8; omega⟩
  have ox : ∀ (f : Pt → Rat), (∀ p ∈ p0, Ov B 110 (f p)) → Ov (B * ms.sum) 122 (dotQ (ms.map fun m => Rat.divInt m ms.sum) (p0.map f)) := fun f hf => by
    refine Ov.over ?_
    rw [dotQ_div hS]
    exact (dotR_ov ms (p0.map f) (by rw [List.length_map]; exact hl) sz3 fun c hc => by obtain ⟨p, hp, rfl⟩ := List.mem_map.mp hc; exact hf p hp).mono (by omega)
  have mx := ox (·.1) fun p hp => (o0 p hp).1
  have my := ox (·.2) fun p hp => (o0 p hp).2
  have up : ∀ c, Ov B 110 c → Ov (B * ms.sum) 122 c := fun c hc => (hc.scale zS).mono (by omega)
  refine ⟨⟨Int.mul_pos (by omega) hS, (Sz.mul zB zS).mono (by omega), fun p hp => ⟨((up _ (o0 p hp).1)).mono (by omega), ((up _ (o0 p hp).2)).mono (by omega)⟩, fun p hp => ?_⟩, ?_⟩
  · obtain ⟨p', hp', rfl⟩ := List.mem_map.mp hp
    have a := o1 p' hp'
    have d1 := ovAdd mx (ovNeg (up _ hq.1))
    have d2 := ovAdd my (ovNeg (up _ hq.2))
    rw [← Rat.sub_eq_add_neg] at d1 d2
    exact ⟨(ovAdd ((up _ a.1).mono (by omega)) d1).mono (by omega), (ovAdd ((up _ a.2).mono (by omega)) d2).mono (by omega)⟩
  · have ul : (unitR p1.length k).length = p1.length := by unfold unitR; simp
    have nn : ∀ r ∈ ms.map (fun m => Rat.divInt m ms.sum), 0 ≤ r := fun r hr => by
      obtain ⟨m, h1, rfl⟩ := List.mem_map.mp hr
      have := div_le hS (hm m h1).1
      rw [Rat.zero_divInt] at this
      exact this
    have nS : ((ms.sum : Int) : Rat) ≠ 0 := cast_ne hS
    have one : ∀ ms : List Int, dotR ms (List.replicate ms.length 1) = ((ms.sum : Int) : Rat) := fun ms => by
      induction ms with
      | nil => simp [dotR]
      | cons m ms ih => rw [List.length_cons, List.replicate_succ, dotR_cons, ih, List.sum_cons, Rat.intCast_add]; grind
    refine ⟨by rw [List.length_map, hl], by rw [ul]; unfold mvP; rw [List.length_map], nn, unit_nn _ _, rat_cancel nS ?_, unit_sum _ _ hk1, ?_, ?_⟩
    · rw [sum_div hS, one]; grind
    · rw [dotQ_unit _ _ _ hk1 (by unfold mvP; simp)]
      unfold mvP
      rw [List.map_map, getD_map_at hk]
      show _ = q.1 + (_ - q.1)
      grind
    · rw [dotQ_unit _ _ _ hk1 (by unfold mvP; simp)]
      unfold mvP
      rw [List.map_map, getD_map_at hk]
      show _ = q.2 + (_ - q.2)
      grind
/-! ### mathematics of the parting -/
theorem byW_mv (a b : Int) (x y : Rat) (p : Pt) : byW a b (p.1 + x, p.2 + y) = byW a b p + byW a b (x, y) := by unfold byW; grind
theorem byW_ov {B a b : Int} {p : Pt} (ha : Sz 3 a) (hb : Sz 3 b) (h : OvP B 110 p) : Ov B 114 (byW a b p) := by
  unfold byW
  exact ovAdd (Ov.imul h.1 ha) (Ov.imul h.2 hb)
/-- the step by which the others are moved across a way -/
noncomputable def stepW (a b : Int) (g : Rat) (c : Int) : Rat := g * (c : Rat) / ((a * a + b * b : Int) : Rat)
theorem byW_step {a b : Int} (hW : 0 < a * a + b * b) (g : Rat) : byW a b (stepW a b g a, stepW a b g b) = g := by
  have nW : ((a * a + b * b : Int) : Rat) ≠ 0 := cast_ne hW
  unfold byW stepW
  rw [Rat.intCast_add, Rat.intCast_mul, Rat.intCast_mul] at nW
  rw [Rat.intCast_add, Rat.intCast_mul, Rat.intCast_mul]
  grind
theorem step_ov {a b c B m t : Int} {g : Rat} (hW : 0 < a * a + b * b) (hm : 0 < m) (hg : Ov B 116 g) (zB : Sz 2 B) (zm : Sz 20 m) (zt : Sz 2 t) (zc : Sz 3 c) : Ov (B * (m * (a * a + b * b))) 145 (stepW a b (g + Rat.divInt t m) c) := by
  obtain ⟨k, h1, h2⟩ := hg
  have nW : ((a * a + b * b : Int) : Rat) ≠ 0 := cast_ne hW
  have e := dv_mul (x := t) hm
  refine ⟨c * (k * m + t * B), ?_, ?_⟩
  · unfold stepW
    rw [Rat.intCast_mul c, Rat.intCast_add (k * m), Rat.intCast_mul k, Rat.intCast_mul t, ← h1, ← e, Rat.intCast_mul B, Rat.intCast_mul m]
    have : (g + Rat.divInt t m) * (c : Rat) / ((a * a + b * b : Int) : Rat) * ((a * a + b * b : Int) : Rat) = (g + Rat.divInt t m) * (c : Rat) := by grind
    calc (g + Rat.divInt t m) * (c : Rat) / ((a * a + b * b : Int) : Rat) * ((B : Rat) * ((m : Rat) * ((a * a + b * b : Int) : Rat)))
        = ((g + Rat.divInt t m) * (c : Rat) / ((a * a + b * b : Int) : Rat) * ((a * a + b * b : Int) : Rat)) * ((B : Rat) * (m : Rat)) := by grind
      _ = (g + Rat.divInt t m) * (c : Rat) * ((B : Rat) * (m : Rat)) := by rw [this]
      _ = _ := by grind
  · exact (Sz.mul zc (Sz.add (Sz.mul h2 zm) (Sz.mul zt zB))).mono (by omega)
theorem dv_pos {t m : Int} (hm : 0 < m) (ht : 0 < t) : 0 < Rat.divInt t m := by
  have e := dv_mul (x := t) hm
  have h0 : 0 ≤ Rat.divInt t m := (Rat.divInt_nonneg_iff_of_pos_right hm).mpr (by omega)
  have ht' : (0 : Rat) < (t : Rat) := by exact_mod_cast ht
  by_cases h : 0 < Rat.divInt t m
  · exact h
  · have h1 := Rat.le_antisymm (Rat.not_lt.mp h) h0
    rw [h1] at e
    rw [← e] at ht'
    simp at ht'
theorem part_both {p0 p1 : List Pt} {B a b m t : Int} {ni fa : Rat} (hB : 1 ≤ B) (hB3 : B ≤ 3) (o0 : ∀ p ∈ p0, OvP B 110 p) (o1 : ∀ p ∈ p1, OvP B 110 p) (hW : 0 < a * a + b * b) (za : Sz 3 a) (zb : Sz 3 b) (hm : 0 < m) (zm : Sz 20 m) (ht : 0 < t) (zt : Sz 2 t)
    (oni : Ov B 114 ni) (ofa : Ov B 114 fa) (hni : ∀ p ∈ p0, byW a b p ≤ ni) (hfa : ∀ p ∈ p1, fa ≤ byW a b p) :
    Both p0 (mvP (stepW a b (ni - fa + Rat.divInt t m) a) (stepW a b (ni - fa + Rat.divInt t m) b) p1) (B * (m * (a * a + b * b))) 30 ∧
    ∃ q3, LineQ p0 (mvP (stepW a b (ni - fa + Rat.divInt t m) a) (stepW a b (ni - fa + Rat.divInt t m) b) p1) a b q3 := by
  have zB : Sz 2 B := ⟨by show B.natAbs < 4; omega⟩
  have zW : Sz 7 (a * a + b * b) := (Sz.add (Sz.mul za za) (Sz.mul zb zb)).mono (by omega)
  have og : Ov B 116 (ni - fa) := by
    have := ovAdd oni (ovNeg ofa)
    rw [← Rat.sub_eq_add_neg] at this
    exact this.mono (by omega)
  have sx := step_ov (c := a) (b := b) hW hm og zB zm zt za
  have sy := step_ov (c := b) (b := b) hW hm og zB zm zt zb
  have up : ∀ c, Ov B 110 c → Ov (B * (m * (a * a + b * b))) 145 c := fun c hc => (hc.scale (Sz.mul zm zW)).mono (by omega)
  refine ⟨⟨Int.mul_pos (by omega) (Int.mul_pos hm hW), (Sz.mul zB (Sz.mul zm zW)).mono (by omega), fun p hp => ⟨(up _ (o0 p hp).1).mono (by omega), (up _ (o0 p hp).2).mono (by omega)⟩, fun p hp => ?_⟩, ni + Rat.divInt t m / 2, ⟨fun p hp => ?_, fun p hp => ?_⟩⟩
  · obtain ⟨p', hp', rfl⟩ := List.mem_map.mp hp
    have a := o1 p' hp'
    exact ⟨(ovAdd (up _ a.1) sx).mono (by omega), (ovAdd (up _ a.2) sy).mono (by omega)⟩
  · have h1 := hni p hp
    have h2 : (0 : Rat) < Rat.divInt t m := dv_pos hm ht
    unfold byW at h1
    grind
  · obtain ⟨p', hp', rfl⟩ := List.mem_map.mp hp
    have h1 := hfa p' hp'
    have h2 : (0 : Rat) < Rat.divInt t m := dv_pos hm ht
    have e := byW_mv a b (stepW a b (ni - fa + Rat.divInt t m) a) (stepW a b (ni - fa + Rat.divInt t m) b) p'
    rw [byW_step hW] at e
    show ni + Rat.divInt t m / 2 < (a : Rat) * (p'.1 + _) + (b : Rat) * (p'.2 + _)
    have e' : (a : Rat) * (p'.1 + stepW a b (ni - fa + Rat.divInt t m) a) + (b : Rat) * (p'.2 + stepW a b (ni - fa + Rat.divInt t m) b) = byW a b p' + (ni - fa + Rat.divInt t m) := e
    rw [e']
    grind
theorem KdV.mean {H : Hp} {c l1 l2 : Addr} {ps qs : List Pt} {s : Nat} {b : Bool} {r1 r2 : List Rat} (h : KdV H c ps qs s b l1 l2) (m : MeanQ ps qs r1 r2) : b = false := by
  cases b with
  | false => rfl
  | true =>
    obtain ⟨_, _, _, _, _, _, _, _, _, _, _, _, _, hl⟩ := (show LineV H c ps qs s from h)
    exact (no_both hl m).elim
theorem KdV.line {H : Hp} {c l1 l2 : Addr} {ps qs : List Pt} {s : Nat} {b : Bool} {q1 q2 q3 : Rat} (h : KdV H c ps qs s b l1 l2) (m : LineQ ps qs q1 q2 q3) : b = true := by
  cases b with
  | true => rfl
  | false =>
    obtain ⟨_, _, _, _, _, _, _, _, _, _, _, hm⟩ := (show ComV H c l1 l2 ps qs s from h)
    exact (no_both m hm).elim
/-- raw: a quotient that is not in lowest terms -/
theorem raw_step {a b g0 g1 t m w : Int} {g : Rat} (h1 : 0 < g1) (hm : 0 < m) (hW : 0 < a * a + b * b) (e : Rat.divInt g0 g1 = g) : Rat.divInt ((g0 * m + t * g1) * w) (g1 * m * (a * a + b * b)) = stepW a b (g + Rat.divInt t m) w := by
  have P : 0 < g1 * m * (a * a + b * b) := Int.mul_pos (Int.mul_pos h1 hm) hW
  refine (eq_divInt (by omega) ?_).symm
  have e1 := dv_mul (x := g0) h1
  have e2 := dv_mul (x := t) hm
  have nW : ((a * a + b * b : Int) : Rat) ≠ 0 := cast_ne hW
  rw [e] at e1
  unfold stepW
  rw [Rat.intCast_mul (g0 * m + t * g1) w, Rat.intCast_add (g0 * m), Rat.intCast_mul g0, Rat.intCast_mul t, ← e1, ← e2, Rat.intCast_mul (g1 * m), Rat.intCast_mul g1]
  have : (g + Rat.divInt t m) * (w : Rat) / ((a * a + b * b : Int) : Rat) * ((a * a + b * b : Int) : Rat) = (g + Rat.divInt t m) * (w : Rat) := by grind
  calc (g + Rat.divInt t m) * (w : Rat) / ((a * a + b * b : Int) : Rat) * ((g1 : Rat) * (m : Rat) * ((a * a + b * b : Int) : Rat))
      = ((g + Rat.divInt t m) * (w : Rat) / ((a * a + b * b : Int) : Rat) * ((a * a + b * b : Int) : Rat)) * ((g1 : Rat) * (m : Rat)) := by grind
    _ = (g + Rat.divInt t m) * (w : Rat) * ((g1 : Rat) * (m : Rat)) := by rw [this]
    _ = _ := by grind
theorem call_sumLK {X : Cx} (K : PySem.W.Frag) (hc : X.calm = true) (h : X.K = K := by rfl) : CallR X (.builtin "sum") (fun xs H Q => ∃ (p : Addr) (ns : List Int), xs = [.ref p] ∧ SqL K H p (ns.map V.int) ∧ Q (.int ns.sum) H) := by subst h; exact call_sumL hc
end Cv

set_option maxHeartbeats 4000000
namespace Cv
open PySem L2
local macro_rules | `(tactic| walk_at "hf") => `(tactic| first
  | assumption
  | exact upd_same
  | (refine upd_keep (by assumption) ?_; walk_at "hf")
  | (refine (by assumption : L2.Same _ _) _ _ ?_; walk_at "hf")
  | fail)
local macro_rules | `(tactic| walk_at "sm") => `(tactic| first
  | assumption
  | exact L2.Same.refl _
  | (refine L2.Same.trans ?_ (by assumption : L2.Same _ _); walk_at "sm")
  | (refine L2.Same.trans ?_ (Same.new (by assumption)); walk_at "sm")
  | fail)
local macro_rules | `(tactic| walk_at "mv") => `(tactic| first
  | assumption
  | (refine ShV.same ?_ (by assumption : L2.Same _ _); walk_at "mv")
  | (refine ShV.same ?_ (Same.new (by assumption)); walk_at "mv")
  | (refine PtV.same ?_ (by assumption : L2.Same _ _); walk_at "mv")
  | (refine PtV.same ?_ (Same.new (by assumption)); walk_at "mv")
  | (refine RwV.same ?_ (by assumption : L2.Same _ _); walk_at "mv")
  | (refine RwV.same ?_ (Same.new (by assumption)); walk_at "mv")
  | (refine RwQ.same ?_ (by assumption : L2.Same _ _); walk_at "mv")
  | (refine RwQ.same ?_ (Same.new (by assumption)); walk_at "mv")
  | (refine MpV.same ?_ (by assumption : L2.Same _ _); walk_at "mv")
  | (refine MpV.same ?_ (Same.new (by assumption)); walk_at "mv")
  | (refine PtsV.same ?_ (by assumption : L2.Same _ _); walk_at "mv")
  | (refine PtsV.same ?_ (Same.new (by assumption)); walk_at "mv")
  | (refine AxV.same ?_ (by assumption : L2.Same _ _); walk_at "mv")
  | (refine AxV.same ?_ (Same.new (by assumption)); walk_at "mv")
  | (refine ShL.same ?_ (by assumption : L2.Same _ _); walk_at "mv")
  | (refine ShL.same ?_ (Same.new (by assumption)); walk_at "mv")
  | (refine SqL.same' ?_ (by assumption : L2.Same _ _); walk_at "mv")
  | (refine SqL.same' ?_ (Same.new (by assumption)); walk_at "mv")
  | fail)
local macro_rules | `(tactic| walk_at "sq") => `(tactic| first
  | exact SqT.of (by walk_at "hf")
  | exact SqL.of (by walk_at "hf")
  | walk_at "mv"
  | fail)
local macro_rules | `(tactic| walk_at "at") => `(tactic| first
  | rfl
  | assumption
  | exact at_mapZ _ _ (by omega) (by omega)
  | fail)
local macro_rules | `(tactic| walk_at "sz") => `(tactic| first
  | assumption
  | exact Bd.num (by assumption)
  | exact Bd.den (by assumption)
  | exact Sz.one
  | exact Sz.mul (by walk_at "sz") (by walk_at "sz")
  | exact Sz.add (by walk_at "sz") (by walk_at "sz")
  | exact Sz.sub (by walk_at "sz") (by walk_at "sz")
  | exact Sz.neg (by walk_at "sz")
  | fail)
local macro_rules | `(tactic| walk_at "bdx") => `(tactic| first
  | assumption
  | exact Bd.zero'
  | exact Bd.one'
  | exact Bd.add (by walk_at "bdx") (by walk_at "bdx")
  | exact Bd.sub (by walk_at "bdx") (by walk_at "bdx")
  | exact Bd.mul (by walk_at "bdx") (by walk_at "bdx")
  | fail)
local macro_rules | `(tactic| walk_at "bd") => `(tactic| exact Bd.mono (by walk_at "bdx") (by decide))
local macro_rules | `(tactic| walk_at "szm") => `(tactic| exact Sz.mono (by walk_at "sz") (by decide))
local macro_rules | `(tactic| walk_at "arith") => `(tactic| first
  | exact pos30
  | exact pl
  | exact ⟨by decide, by decide⟩
  | exact ⟨by decide, by decide, by decide⟩
  | exact mulL (by decide) (by decide)
  | exact mulR (by decide) (by decide)
  | exact mulR (by omega) (by omega)
  | exact mulL (by omega) (by omega)
  | exact mulB (by walk_at "sz") (by walk_at "sz")
  | fail)
local macro_rules | `(tactic| walk_at "len") => `(tactic| first
  | (show 2 ≤ sizeLine; decide)
  | (show 0 ≤ sizeLine; decide)
  | (show 1 ≤ sizeLine; decide)
  | (show 3 ≤ sizeLine; decide)
  | (show 4 ≤ sizeLine; decide)
  | (show 5 ≤ sizeLine; decide)
  | (show 6 ≤ sizeLine; decide)
  | (show 8 ≤ sizeLine; decide)
  | fail)
local macro_rules | `(tactic| walk_at "r1") => `(tactic| first
  | refine ⟨_, _, rfl, rfl, by walk_at "arith", ?_⟩
  | refine ⟨_, _, rfl, rfl, ?_⟩
  | refine ⟨_, _, _, _, rfl, rfl, by walk_at "sq", by walk_at "at", ?_⟩
  | refine ⟨_, rfl, ?_⟩
  | refine ⟨rfl, ?_⟩
  | refine ⟨_, _, rfl, .inr (SqT.of (by walk_at "hf")), ?_⟩
  | refine ⟨_, _, rfl, .inl (SqL.of (by walk_at "hf")), ?_⟩
  | refine ⟨_, "tuple", _, _, rfl, TyOf.tup (by walk_at "hf"), kit_tt _, ?_⟩
  | refine ⟨_, "list", _, _, rfl, TyOf.lst (by walk_at "hf"), kit_ll _, ?_⟩
  | refine ⟨_, "int", _, _, rfl, TyOf.int _, kit_ii _, ?_⟩
  | refine ⟨_, "bool", _, _, rfl, TyOf.int _, kit_ib _, ?_⟩
  | refine ⟨_, "bool", _, _, rfl, TyOf.bl _, kit_bb _, ?_⟩
  | refine ⟨by walk_at "len", ?_⟩
  | refine ⟨by decide, ?_⟩
  | fail)
local macro_rules | `(tactic| walk_at "rd") => `(tactic| repeat walk_at "r1")
local macro_rules | `(tactic| walk_at "fr") => `(tactic| first
  | assumption
  | (refine L2.Same.free (by assumption : L2.Same _ _) ?_; walk_at "fr")
  | (refine L2.Same.free (Same.new (by assumption)) ?_; walk_at "fr")
  | fail)
local macro_rules | `(tactic| walk_at "tk") => `(tactic| first
  | assumption
  | fail)
local macro_rules | `(tactic| walk_at "mv") => `(tactic| first
  | assumption
  | (refine ShK.same ?_ (by assumption : L2.Same _ _); walk_at "mv")
  | (refine ShK.same ?_ (Same.new (by assumption)); walk_at "mv")
  | (refine PtK.same ?_ (by assumption : L2.Same _ _); walk_at "mv")
  | (refine PtK.same ?_ (Same.new (by assumption)); walk_at "mv")
  | (refine PtsK.same ?_ (by assumption : L2.Same _ _); walk_at "mv")
  | (refine PtsK.same ?_ (Same.new (by assumption)); walk_at "mv")
  | (refine ShV.k ?_; walk_at "mv")
  | (refine PtV.k ?_; walk_at "mv")
  | (refine PtsV.k ?_; walk_at "mv")
  | fail)
local macro_rules | `(tactic| walk_at "sq") => `(tactic| first
  | exact TK.sq (by walk_at "tk")
  | fail)
local macro_rules | `(tactic| walk_at "rk1") => `(tactic| first
  | refine ⟨_, "tuple", _, _, rfl, .inr ⟨rfl, _, _, rfl, by walk_at "sq"⟩, kit_tt _, ?_⟩
  | refine ⟨_, "list", _, _, rfl, .inl (TyOf.lst (by walk_at "hf")), kit_ll _, ?_⟩
  | refine ⟨_, "int", _, _, rfl, .inl (TyOf.int _), kit_ii _, ?_⟩
  | refine ⟨_, "bool", _, _, rfl, .inl (TyOf.int _), kit_ib _, ?_⟩
  | refine ⟨_, "bool", _, _, rfl, .inl (TyOf.bl _), kit_bb _, ?_⟩
  | refine ⟨_, _, rfl, .inr (by walk_at "sq"), ?_⟩
  | walk_at "r1"
  | fail)
local macro_rules | `(tactic| walk_at "rk") => `(tactic| repeat walk_at "rk1")

structure Cst (K : PySem.W.Frag) (mg : Str → Option Value) (A_PLAIN_WAYS B1_PLAIN_WAYS B2_PLAIN_WAYS B3_PLAIN_WAYS B4_PLAIN_WAYS : Addr) : Prop where
  PLAIN_WAYS : mg "PLAIN_WAYS" = some (.ref A_PLAIN_WAYS)
  pPLAIN_WAYS : ∀ H, SqT K H A_PLAIN_WAYS [.ref B1_PLAIN_WAYS, .ref B2_PLAIN_WAYS, .ref B3_PLAIN_WAYS, .ref B4_PLAIN_WAYS]
  wPLAIN_WAYS : ∀ H, SqT K H B1_PLAIN_WAYS [.int (1), .int (0)] ∧ SqT K H B2_PLAIN_WAYS [.int (-1), .int (0)] ∧ SqT K H B3_PLAIN_WAYS [.int (0), .int (1)] ∧ SqT K H B4_PLAIN_WAYS [.int (0), .int (-1)]
noncomputable def top (i : Nat) : Stmt := PySem.Challenge.pw_curveseat_k51_whole_parted_or_not.main.body.getD i (.Pass ⟨0, 0, 0, 0⟩)
noncomputable abbrev s_greatest_common : Stmt := top 4
theorem sc_greatest_common : FnScope ["one", "other"] ["one", "other"] (defScope s_greatest_common) := ⟨rfl, rfl, rfl, by decide +kernel, rfl, by decide +kernel, by decide +kernel⟩
noncomputable abbrev s_share : Stmt := top 5
theorem sc_share : FnScope ["top", "bottom", "common"] ["top", "bottom"] (defScope s_share) := ⟨rfl, rfl, rfl, by decide +kernel, rfl, by decide +kernel, by decide +kernel⟩
noncomputable abbrev s_common_bottoms : Stmt := top 7
theorem sc_common_bottoms : FnScope ["shares", "found", "whole", "one", "more"] ["shares"] (defScope s_common_bottoms) := ⟨rfl, rfl, rfl, by decide +kernel, rfl, by decide +kernel, by decide +kernel⟩
noncomputable abbrev s_product : Stmt := top 8
theorem sc_product : FnScope ["numbers", "found", "number"] ["numbers"] (defScope s_product) := ⟨rfl, rfl, rfl, by decide +kernel, rfl, by decide +kernel, by decide +kernel⟩
noncomputable abbrev s_axis : Stmt := top 9
theorem sc_axis : FnScope ["shares", "bottoms", "whole"] ["shares"] (defScope s_axis) := ⟨rfl, rfl, rfl, by decide +kernel, rfl, by decide +kernel, by decide +kernel⟩
noncomputable abbrev s_axes : Stmt := top 10
theorem sc_axes : FnScope ["points"] ["points"] (defScope s_axes) := ⟨rfl, rfl, rfl, by decide +kernel, rfl, by decide +kernel, by decide +kernel⟩
noncomputable abbrev s_whole_places : Stmt := top 12
theorem sc_whole_places : FnScope ["points", "xs", "ys"] ["points"] (defScope s_whole_places) := ⟨rfl, rfl, rfl, by decide +kernel, rfl, by decide +kernel, by decide +kernel⟩
noncomputable abbrev s_along : Stmt := top 15
theorem sc_along : FnScope ["places", "way"] ["places", "way"] (defScope s_along) := ⟨rfl, rfl, rfl, by decide +kernel, rfl, by decide +kernel, by decide +kernel⟩
noncomputable abbrev s_step_across : Stmt := top 16
theorem sc_step_across : FnScope ["ones", "others", "i", "j"] ["ones", "others", "i", "j"] (defScope s_step_across) := ⟨rfl, rfl, rfl, by decide +kernel, rfl, by decide +kernel, by decide +kernel⟩
noncomputable abbrev s_turn_between : Stmt := top 17
theorem sc_turn_between : FnScope ["one", "other"] ["one", "other"] (defScope s_turn_between) := ⟨rfl, rfl, rfl, by decide +kernel, rfl, by decide +kernel, by decide +kernel⟩
noncomputable abbrev s_reach : Stmt := top 18
theorem sc_reach : FnScope ["ones", "others", "way", "fore", "behind", "most", "least"] ["ones", "others", "way"] (defScope s_reach) := ⟨rfl, rfl, rfl, by decide +kernel, rfl, by decide +kernel, by decide +kernel⟩
noncomputable abbrev s_way_amid : Stmt := top 19
theorem sc_way_amid : FnScope ["right", "left"] ["right", "left"] (defScope s_way_amid) := ⟨rfl, rfl, rfl, by decide +kernel, rfl, by decide +kernel, by decide +kernel⟩
noncomputable abbrev s_parted : Stmt := top 20
theorem sc_parted : FnScope ["ones", "others", "way", "most", "least", "found", "right", "left"] ["ones", "others"] (defScope s_parted) := ⟨rfl, rfl, rfl, by decide +kernel, rfl, by decide +kernel, by decide +kernel⟩
noncomputable abbrev s_times_to_nought : Stmt := top 21
theorem sc_times_to_nought : FnScope ["steps", "one", "other", "right", "left", "across"] ["steps"] (defScope s_times_to_nought) := ⟨rfl, rfl, rfl, by decide +kernel, rfl, by decide +kernel, by decide +kernel⟩
noncomputable abbrev s_common_shares : Stmt := top 22
theorem sc_common_shares : FnScope ["one", "other", "steps", "many", "places", "often", "ones", "others", "x", "y", "i", "j", "much", "whole"] ["one", "other", "steps"] (defScope s_common_shares) := ⟨rfl, rfl, rfl, by decide +kernel, rfl, by decide +kernel, by decide +kernel⟩
noncomputable abbrev s_told_line : Stmt := top 23
theorem sc_told_line : FnScope ["line", "x_bottom", "y_bottom", "room", "a", "b", "c"] ["line", "x_bottom", "y_bottom", "room"] (defScope s_told_line) := ⟨rfl, rfl, rfl, by decide +kernel, rfl, by decide +kernel, by decide +kernel⟩
noncomputable abbrev s_parting : Stmt := top 24
theorem sc_parting : FnScope ["one", "other", "xs", "ys", "places", "line", "steps"] ["one", "other"] (defScope s_parting) := ⟨rfl, rfl, rfl, by decide +kernel, rfl, by decide +kernel, by decide +kernel⟩
noncomputable abbrev s_l_cell_at : Stmt := top 26
theorem sc_l_cell_at : FnScope ["_law_script", "_law_k"] ["_law_script", "_law_k"] (defScope s_l_cell_at) := ⟨rfl, rfl, rfl, by decide +kernel, rfl, by decide +kernel, by decide +kernel⟩
noncomputable abbrev s_l_stream : Stmt := top 27
theorem sc_l_stream : FnScope ["_law_cell", "_law_place", "_law_number", "_law_some", "_law_k"] ["_law_cell", "_law_place"] (defScope s_l_stream) := ⟨rfl, rfl, rfl, by decide +kernel, rfl, by decide +kernel, by decide +kernel⟩
noncomputable abbrev s_l_whole : Stmt := top 28
theorem sc_l_whole : FnScope ["_law_found"] ["_law_found"] (defScope s_l_whole) := ⟨rfl, rfl, rfl, by decide +kernel, rfl, by decide +kernel, by decide +kernel⟩
noncomputable abbrev s_l_part : Stmt := top 29
theorem sc_l_part : FnScope ["_law_one", "_law_other"] ["_law_one", "_law_other"] (defScope s_l_part) := ⟨rfl, rfl, rfl, by decide +kernel, rfl, by decide +kernel, by decide +kernel⟩
noncomputable abbrev s_l_share : Stmt := top 30
theorem sc_l_share : FnScope ["_law_top", "_law_bottom", "_law_part_here"] ["_law_top", "_law_bottom"] (defScope s_l_share) := ⟨rfl, rfl, rfl, by decide +kernel, rfl, by decide +kernel, by decide +kernel⟩
noncomputable abbrev s_l_is_share : Stmt := top 31
theorem sc_l_is_share : FnScope ["_law_found"] ["_law_found"] (defScope s_l_is_share) := ⟨rfl, rfl, rfl, by decide +kernel, rfl, by decide +kernel, by decide +kernel⟩
noncomputable abbrev s_l_drawn_two : Stmt := top 32
theorem sc_l_drawn_two : FnScope ["_law_script", "_law_most", "_law_head", "_law_s", "_law_scale", "_law_far", "_law_bottom", "_law_both", "_law_k", "_law_seats", "_law_j", "_law_cell", "_law_r", "_law_x", "_law_y"] ["_law_script", "_law_most"] (defScope s_l_drawn_two) := ⟨rfl, rfl, rfl, by decide +kernel, rfl, by decide +kernel, by decide +kernel⟩
noncomputable abbrev s_l_is_line : Stmt := top 33
theorem sc_l_is_line : FnScope ["_law_told", "_law_some", "_law_others", "_law_k", "_law_a", "_law_b", "_law_c", "_law_sign", "_law_places", "_law_x", "_law_y", "_law_low", "_law_left"] ["_law_told", "_law_some", "_law_others"] (defScope s_l_is_line) := ⟨rfl, rfl, rfl, by decide +kernel, rfl, by decide +kernel, by decide +kernel⟩
noncomputable abbrev s_l_mean : Stmt := top 34
theorem sc_l_mean : FnScope ["_law_parts", "_law_places", "_law_found", "_law_axis", "_law_top", "_law_bottom", "_law_part_here", "_law_place", "_law_one", "_law_low"] ["_law_parts", "_law_places"] (defScope s_l_mean) := ⟨rfl, rfl, rfl, by decide +kernel, rfl, by decide +kernel, by decide +kernel⟩
noncomputable abbrev s_l_kind : Stmt := top 35
theorem sc_l_kind : FnScope ["_law_told", "_law_some", "_law_others", "_law_one"] ["_law_told", "_law_some", "_law_others"] (defScope s_l_kind) := ⟨rfl, rfl, rfl, by decide +kernel, rfl, by decide +kernel, by decide +kernel⟩
noncomputable abbrev s_l_moved : Stmt := top 36
theorem sc_l_moved : FnScope ["_law_places", "_law_x", "_law_y", "_law_found", "_law_place", "_law_across", "_law_up"] ["_law_places", "_law_x", "_law_y"] (defScope s_l_moved) := ⟨rfl, rfl, rfl, by decide +kernel, rfl, by decide +kernel, by decide +kernel⟩
noncomputable abbrev s_l_less : Stmt := top 37
theorem sc_l_less : FnScope ["_law_one", "_law_other"] ["_law_one", "_law_other"] (defScope s_l_less) := ⟨rfl, rfl, rfl, by decide +kernel, rfl, by decide +kernel, by decide +kernel⟩
noncomputable abbrev s_l_by_way : Stmt := top 38
theorem sc_l_by_way : FnScope ["_law_way", "_law_place", "_law_top"] ["_law_way", "_law_place"] (defScope s_l_by_way) := ⟨rfl, rfl, rfl, by decide +kernel, rfl, by decide +kernel, by decide +kernel⟩
noncomputable abbrev s_l_meeting : Stmt := top 39
theorem sc_l_meeting : FnScope ["_law_some", "_law_others", "_law_s", "_law_parts", "_law_mean_here", "_law_place"] ["_law_some", "_law_others", "_law_s"] (defScope s_l_meeting) := ⟨rfl, rfl, rfl, by decide +kernel, rfl, by decide +kernel, by decide +kernel⟩
noncomputable abbrev s_l_parted : Stmt := top 40
theorem sc_l_parted : FnScope ["_law_some", "_law_others", "_law_s", "_law_way", "_law_nigh", "_law_place", "_law_one", "_law_far", "_law_gap", "_law_more", "_law_whole_here"] ["_law_some", "_law_others", "_law_s"] (defScope s_l_parted) := ⟨rfl, rfl, rfl, by decide +kernel, rfl, by decide +kernel, by decide +kernel⟩
noncomputable abbrev s_law : Stmt := top 41
theorem sc_law : FnScope ["_law_script", "_law_some", "_law_others", "_law_s"] ["_law_script"] (defScope s_law) := ⟨rfl, rfl, rfl, by decide +kernel, rfl, by decide +kernel, by decide +kernel⟩
section
variable {P : Program} {w : World} {K : PySem.W.Frag} {mg : Str → Option Value} {base : Heap}
theorem ok_l_cell_at (F : FunAt K mg "_law_cell_at" s_l_cell_at ["_law_script", "_law_k"]) (B : Blt mg) {A_PLAIN_WAYS B1_PLAIN_WAYS B2_PLAIN_WAYS B3_PLAIN_WAYS B4_PLAIN_WAYS : Addr} (G : Cst K mg A_PLAIN_WAYS B1_PLAIN_WAYS B2_PLAIN_WAYS B3_PLAIN_WAYS B4_PLAIN_WAYS) : DefOk P w K mg base CX0 1 "_law_cell_at" ["_law_script", "_law_k"] (spCell K) := by
  refine def_okI F sc_l_cell_at (fun vs H Q E h => ?_) (fun f cdv A outer s H vs Q E hr h => ?_)
  · obtain ⟨a, ns, i, rfl, _⟩ := h; rfl
  · obtain ⟨a, ns, i, rfl, hS, h0, k⟩ := h
    have hu := hr.units
    refine ⟨_, (pss_consI (ps_ifI (pt_cmpRI op_lt (pvI 1) (pe_callBI (call_lenK K) (by rfl) B.len PySem.boot_len (pa_consI (pvI 0) pa_nilI)) (nomark _)) (pss_oneI (ps_retI (pe_ixI (ix_listK K) (pvI 0) (pvI 1) (fun _ _ => rfl)))) pss_nilI)
      (pss_oneI (ps_retI pe_intI))), ?_⟩
    refine ⟨_, rfl, _, rfl, a, _, rfl, .inl hS, _, _, rfl, rfl, _, rfl, ite_dec (fun hn => ?_) (fun hn => ?_)⟩
    · rw [List.length_map] at hn
      refine ⟨_, rfl, _, rfl, a, _, _, _, rfl, rfl, hS, at_mapZ ns i h0 hn, ?_⟩
      exact k _
    · exact k 0
theorem ok_l_part (F : FunAt K mg "_law_part" s_l_part ["_law_one", "_law_other"]) (B : Blt mg) {A_PLAIN_WAYS B1_PLAIN_WAYS B2_PLAIN_WAYS B3_PLAIN_WAYS B4_PLAIN_WAYS : Addr} (G : Cst K mg A_PLAIN_WAYS B1_PLAIN_WAYS B2_PLAIN_WAYS B3_PLAIN_WAYS B4_PLAIN_WAYS) : DefOk P w K mg base CX0 1 "_law_part" ["_law_one", "_law_other"] spPart := by
  refine def_okI F sc_l_part (fun vs H Q E h => ?_) (fun f cdv A outer s H vs Q E hr h => ?_)
  · obtain ⟨a, b, rfl, _⟩ := h; rfl
  · obtain ⟨a, b, rfl, h0, h1, k⟩ := h
    have hu := hr.units
    refine ⟨_, (pss_consI (ps_whileI PassesOwn.never (pt_cmpRI op_gt (pvI 1) pe_intI (nomark _)) (pss_oneI (ps_parI (i := 0) (j := 1) rfl sc_l_part.nd rfl rfl (by decide) rfl rfl (pa_consI (pvI 1) (pa_consI (pe_opI op_mod (pvI 0) (pvI 1)) pa_nilI)) rfl)))
      (pss_oneI (ps_retI (pvI 0)))), ?_⟩
    refine while_by (fun σ H' => ∃ x y : Int, σ = [some (.int x), some (.int y)] ∧ H' = H ∧ 0 ≤ x ∧ 0 ≤ y ∧ Int.gcd x y = Int.gcd a b) (fun σ _ => match σ with | [_, some (.int y)] => y.natAbs | _ => 0) ⟨a, b, rfl, rfl, h0, h1, rfl⟩ ?_ ?_
    · rintro σ H' ⟨x, y, rfl, rfl, hx, hy, e⟩
      refine ⟨_, rfl, _, _, rfl, rfl, _, rfl, ite_dec (fun hn => ?_) (fun hn => ?_)⟩
      · refine ⟨_, rfl, _, rfl, _, rfl, _, _, rfl, rfl, hn, _, _, rfl, ⟨_, _, rfl, rfl, hy, Int.emod_nonneg x (by omega), ?_⟩, ?_⟩
        · rw [emod_gcd x y hn]; exact e
        · show (x % y).natAbs < y.natAbs
          have := Int.emod_lt_of_pos x hn
          have := Int.emod_nonneg x (b := y) (by omega)
          omega
      · refine ⟨_, rfl, ?_⟩
        have hy0 : y = 0 := by omega
        subst hy0
        rw [Int.gcd_zero] at e
        have : x = (Int.gcd a b : Int) := by omega
        show Q (.int x) H'
        rw [this]; exact k
    · rintro σ H' Q Q' hq ⟨v, h1, i, j, e1, e2, b', e3, h3⟩
      exact ⟨v, h1, i, j, e1, e2, b', e3, hq _ _ h3⟩
theorem ok_l_share (F : FunAt K mg "_law_share" s_l_share ["_law_top", "_law_bottom"]) (B : Blt mg) {A_PLAIN_WAYS B1_PLAIN_WAYS B2_PLAIN_WAYS B3_PLAIN_WAYS B4_PLAIN_WAYS : Addr} (G : Cst K mg A_PLAIN_WAYS B1_PLAIN_WAYS B2_PLAIN_WAYS B3_PLAIN_WAYS B4_PLAIN_WAYS) (D_l_part : DefOk P w K mg base CX0 1 "_law_part" ["_law_one", "_law_other"] spPart) : DefOk P w K mg base CX0 2 "_law_share" ["_law_top", "_law_bottom"] spLShare := by
  refine def_okI F sc_l_share (fun vs H Q E h => ?_) (fun f cdv A outer s H vs Q E hr h => ?_)
  · obtain ⟨a, b, rfl, _⟩ := h; rfl
  · obtain ⟨t, b, rfl, hb, hz, k⟩ := h
    have hu := hr.units
    refine ⟨_, (pss_consI (ps_setI (i := 2) sc_l_share.nd rfl (by first | exact Or.inl rfl | exact Or.inr rfl) (pe_fnI D_l_part hr pass0 (pa_consI (pe_callBI call_abs (by rfl) B.abs PyProof.Rows.boot_abs (pa_consI (pvI 0) pa_nilI)) (pa_consI (pvI 1) pa_nilI))))
      (pss_oneI (ps_retI (pe_tupI (pa_consI (pe_opI op_fdivB (pvI 0) (pvI 2)) (pa_consI (pe_opI op_fdivB (pvI 1) (pvI 2)) pa_nilI)))))), ?_⟩
    have g0 : (Int.gcd t b : Int) ≠ 0 := gcd_pos' t b (by omega)
    have gz : Sz 9000 (Int.gcd t b : Int) := hz.le (by
      rw [Int.natAbs_natCast]
      exact Nat.le_of_dvd (by omega) (Int.gcd_dvd_natAbs_right t b))
    refine ⟨_, rfl, _, rfl, _, rfl, _, _, rfl, (by split <;> omega), by omega, ?_⟩
    rw [gcd_abs]
    refine ⟨_, rfl, _, rfl, _, _, rfl, rfl, ⟨g0, gz⟩, _, rfl, _, rfl, _, _, rfl, rfl, ⟨g0, gz⟩, (by show 2 ≤ sizeLine; decide), fun p hp => ?_⟩
    have e := share_pos t b hb
    refine k _ _ (Same.new hp) ⟨p, rfl, ?_⟩
    rw [upd_same, ← e.1, ← e.2]
theorem ok_l_stream (F : FunAt K mg "_law_stream" s_l_stream ["_law_cell", "_law_place"]) (B : Blt mg) {A_PLAIN_WAYS B1_PLAIN_WAYS B2_PLAIN_WAYS B3_PLAIN_WAYS B4_PLAIN_WAYS : Addr} (G : Cst K mg A_PLAIN_WAYS B1_PLAIN_WAYS B2_PLAIN_WAYS B3_PLAIN_WAYS B4_PLAIN_WAYS) : DefOk P w K mg base CX0 1 "_law_stream" ["_law_cell", "_law_place"] spStream := by
  refine def_okI F sc_l_stream (fun vs H Q E h => ?_) (fun f cdv A outer s H vs Q E hr h => ?_)
  · obtain ⟨c, p, rfl, _⟩ := h; rfl
  · obtain ⟨c, p, rfl, k⟩ := h
    have hu := hr.units
    refine ⟨_, (pss_consI (ps_setI (i := 2) sc_l_stream.nd rfl (by first | exact Or.inl rfl | exact Or.inr rfl) (pe_opI op_mod (pe_opI op_add (pvI 0) (pe_opI op_mulA pe_intI (pvI 1))) pe_intI))
      (pss_consI (ps_setI (i := 3) sc_l_stream.nd rfl (by first | exact Or.inl rfl | exact Or.inr rfl) (pe_lstI pa_nilI))
      (pss_consI (ps_forI PassesOwn.never rfl (pi_range1I rfl B.range (pa_consI pe_intI pa_nilI)) (pg_nameI (i := 4) sc_l_stream.nd rfl (by first | exact Or.inl rfl | exact Or.inr rfl))
      (pss_consI (ps_setI (i := 2) sc_l_stream.nd rfl (by first | exact Or.inl rfl | exact Or.inr rfl) (pe_opI op_mod (pe_opI op_add (pe_opI op_add (pe_opI op_mulA (pvI 2) pe_intI) (pe_opI op_mulA pe_intI (pvI 4))) pe_intI) pe_intI))
      (pss_oneI (ps_exprI (show PEi _ _ (tBM K _ _ _ _) from (pe_bmI PySem.F.plainAttrs_list PySem.F.slot_list_append PySem.F.type_list_append mt_append (pvI 3) (pa_consI (pe_opI op_fdiv (pvI 2) pe_intI) pa_nilI)))))))
      (pss_oneI (ps_retI (pe_sliceI (sl_listK K) (pvI 3) (po_someI pe_intI) po_noneI)))))), ?_⟩
    refine ⟨_, rfl, _, rfl, _, _, rfl, rfl, mulL (by decide) (by decide), _, _, rfl, rfl, _, _, rfl, rfl, pl, (Nat.zero_le _), fun l hl => ?_⟩
    refine ⟨25, rfl, by decide, by decide, for_range (n := 25) (fun i σ H' => ∃ (x : Int) (xs : List Int) (y : Option V), σ = [some (.int c), some (.int p), some (.int x), some (.ref l), y] ∧ Same H H' ∧ H' l = some (.lst (xs.map V.int)) ∧ xs.length = i ∧ ∀ z ∈ xs, 0 ≤ z) ⟨_, [], none, rfl, Same.new hl, upd_same, rfl, fun _ h => nomatch h⟩ ?_ ?_⟩
    · rintro i σ H2 hi ⟨x, xs, y, rfl, s2, h2, hlen, hx⟩
      refine ⟨_, rfl, _, _, rfl, rfl, mulR (by decide) (by decide), _, rfl, _, _, rfl, rfl, mulL (by decide) (by decide), _, _, rfl, rfl, _, _, rfl, rfl, _, _, rfl, rfl, pl, ?_⟩
      refine ⟨_, rfl, .inl ⟨rfl, _, SqL.of h2⟩, _, rfl, _, _, rfl, rfl, ⟨by decide, by decide⟩, l, _, _, rfl, rfl, h2, ?_, ?_⟩
      · rw [List.length_map, hlen]; exact small1000 (by omega)
      · refine ⟨_, xs ++ [(x * 48271 + 2 * (0 + (i : Int)) + 11) % 2147483647 / 64], _, rfl, fun b o e => ?_, ?_, ?_, ?_⟩
        · rw [upd_ne (ne_of_none e hl)]; exact s2 b o e
        · rw [upd_same, List.map_append]; rfl
        · rw [List.length_append, hlen]; rfl
        · intro z hz
          rcases List.mem_append.mp hz with hz | hz
          · exact hx z hz
          · cases List.mem_singleton.mp hz
            have := Int.emod_nonneg (x * 48271 + 2 * (0 + (i : Int)) + 11) (b := 2147483647) (by decide)
            exact Int.ediv_nonneg this (by decide)
    · rintro σ H2 ⟨x, xs, y, rfl, s2, h2, hlen, hx⟩
      refine ⟨_, rfl, 1, rfl, l, _, rfl, SqL.of h2, fun q hq => ?_⟩
      rw [cut_one xs (by omega)]
      exact k q (xs.drop 1) _ (s2.trans (Same.new hq)) upd_same (by rw [List.length_drop, hlen]) fun z hz => hx z (List.mem_of_mem_drop hz)
theorem ok_l_drawn_two (F : FunAt K mg "_law_drawn_two" s_l_drawn_two ["_law_script", "_law_most"]) (B : Blt mg) {A_PLAIN_WAYS B1_PLAIN_WAYS B2_PLAIN_WAYS B3_PLAIN_WAYS B4_PLAIN_WAYS : Addr} (G : Cst K mg A_PLAIN_WAYS B1_PLAIN_WAYS B2_PLAIN_WAYS B3_PLAIN_WAYS B4_PLAIN_WAYS) (D_l_cell_at : DefOk P w K mg base CX0 1 "_law_cell_at" ["_law_script", "_law_k"] (spCell K)) (D_l_share : DefOk P w K mg base CX0 2 "_law_share" ["_law_top", "_law_bottom"] spLShare) (D_l_stream : DefOk P w K mg base CX0 1 "_law_stream" ["_law_cell", "_law_place"] spStream) : DefOk P w K mg base CX0 3 "_law_drawn_two" ["_law_script", "_law_most"] (spDTwo K) := by
  refine def_okI F sc_l_drawn_two (fun vs H Q E h => ?_) (fun f cdv A outer s H vs Q E hr h => ?_)
  · obtain ⟨a, ns, mo, rfl, _⟩ := h; rfl
  · obtain ⟨a, ns, mo, rfl, hS, m1, m8, k⟩ := h
    have hu := hr.units
    refine ⟨_, (pss_consI (ps_setI (i := 2) sc_l_drawn_two.nd rfl (by first | exact Or.inl rfl | exact Or.inr rfl) (pe_fnI D_l_cell_at hr pass0 (pa_consI (pvI 0) (pa_consI pe_intI pa_nilI))))
      (pss_consI (ps_setI (i := 3) sc_l_drawn_two.nd rfl (by first | exact Or.inl rfl | exact Or.inr rfl) (pe_fnI D_l_stream hr pass0 (pa_consI (pvI 2) (pa_consI pe_intI pa_nilI))))
      (pss_consI (ps_setI (i := 4) sc_l_drawn_two.nd rfl (by first | exact Or.inl rfl | exact Or.inr rfl) (pe_ixI (ix_listK K) (pe_lstI (pa_consI pe_intI (pa_consI pe_intI (pa_consI (pe_opI op_add pe_intI (pe_opI op_mod (pe_opI op_fdiv (pvI 2) pe_intI) (pe_opI op_pow pe_intI pe_intI))) pa_nilI)))) (pe_opI op_mod (pe_ixI (ix_listK K) (pvI 3) pe_intI (fun _ _ => rfl)) pe_intI) (fun _ _ => rfl)))
      (pss_consI (ps_setI (i := 5) sc_l_drawn_two.nd rfl (by first | exact Or.inl rfl | exact Or.inr rfl) (pe_ixI (ix_listK K) (pe_lstI (pa_consI pe_intI (pa_consI pe_intI (pa_consI (pe_opI op_mulA (pe_opI op_mod (pe_opI op_fdiv (pvI 2) pe_intI) (pe_opI op_pow pe_intI pe_intI)) (pe_opI op_sub pe_intI (pe_opI op_mulA pe_intI (pe_opI op_mod (pe_ixI (ix_listK K) (pvI 3) pe_intI (fun _ _ => rfl)) pe_intI)))) pa_nilI)))) (pe_opI op_mod (pe_opI op_fdiv (pe_ixI (ix_listK K) (pvI 3) pe_intI (fun _ _ => rfl)) pe_intI) pe_intI) (fun _ _ => rfl)))
      (pss_consI (ps_setI (i := 6) sc_l_drawn_two.nd rfl (by first | exact Or.inl rfl | exact Or.inr rfl) (pe_opI op_add pe_intI (pe_opI op_mod (pe_ixI (ix_listK K) (pvI 3) pe_intI (fun _ _ => rfl)) pe_intI)))
      (pss_consI (ps_setI (i := 7) sc_l_drawn_two.nd rfl (by first | exact Or.inl rfl | exact Or.inr rfl) (pe_lstI pa_nilI))
      (pss_consI (ps_forI PassesOwn.never rfl (pi_range1I rfl B.range (pa_consI pe_intI pa_nilI)) (pg_nameI (i := 8) sc_l_drawn_two.nd rfl (by first | exact Or.inl rfl | exact Or.inr rfl))
      (pss_consI (ps_setI (i := 9) sc_l_drawn_two.nd rfl (by first | exact Or.inl rfl | exact Or.inr rfl) (pe_lstI pa_nilI))
      (pss_consI (ps_forI PassesOwn.never rfl (pi_range1I rfl B.range (pa_consI (pe_opI op_add pe_intI (pe_opI op_mod (pe_ixI (ix_listK K) (pvI 3) (pe_opI op_add pe_intI (pvI 8)) (fun _ _ => rfl)) (pvI 1))) pa_nilI)) (pg_nameI (i := 10) sc_l_drawn_two.nd rfl (by first | exact Or.inl rfl | exact Or.inr rfl))
      (pss_consI (ps_setI (i := 11) sc_l_drawn_two.nd rfl (by first | exact Or.inl rfl | exact Or.inr rfl) (pe_fnI D_l_cell_at hr pass0 (pa_consI (pvI 0) (pa_consI (pe_opI op_add (pe_opI op_add pe_intI (pe_opI op_mulA (pvI 1) (pvI 8))) (pvI 10)) pa_nilI))))
      (pss_consI (ps_setI (i := 12) sc_l_drawn_two.nd rfl (by first | exact Or.inl rfl | exact Or.inr rfl) (pe_fnI D_l_stream hr pass0 (pa_consI (pvI 11) (pa_consI (pe_opI op_add (pe_opI op_mulA pe_intI (pvI 8)) (pvI 10)) pa_nilI))))
      (pss_consI (ps_ifI (PW_ptI (pw_andI (pt_cmpRI op_eq (pe_opI op_mod (pe_ixI (ix_listK K) (pvI 3) pe_intI (fun _ _ => rfl)) pe_intI) pe_intI (nomark _)) (pw_and1I (pt_cmpRI op_gt (pvI 11) pe_intI (nomark _))))) (pss_oneI (ps_setI (i := 12) sc_l_drawn_two.nd rfl (by first | exact Or.inl rfl | exact Or.inr rfl) (pe_lstI (pa_consI (pvI 11) (pa_consI (pe_opI op_fdiv (pvI 11) pe_intI) pa_nilI))))) pss_nilI)
      (pss_consI (ps_setI (i := 13) sc_l_drawn_two.nd rfl (by first | exact Or.inl rfl | exact Or.inr rfl) (pe_opI op_add (pe_opI op_mulA (pe_opI op_sub (pe_opI op_mod (pe_ixI (ix_listK K) (pvI 12) pe_intI (fun _ _ => rfl)) pe_intI) pe_intI) (pvI 4)) (pvI 5)))
      (pss_consI (ps_setI (i := 14) sc_l_drawn_two.nd rfl (by first | exact Or.inl rfl | exact Or.inr rfl) (pe_opI op_sub (pe_opI op_mulA (pe_opI op_add (pe_opI op_sub (pe_opI op_mod (pe_ixI (ix_listK K) (pvI 12) pe_intI (fun _ _ => rfl)) pe_intI) pe_intI) (pe_opI op_mod (pe_ixI (ix_listK K) (pvI 3) (pe_opI op_add pe_intI (pvI 8)) (fun _ _ => rfl)) pe_intI)) (pvI 4)) (pvI 5)))
      (pss_oneI (ps_exprI (show PEi _ _ (tBM K _ _ _ _) from (pe_bmI PySem.F.plainAttrs_list PySem.F.slot_list_append PySem.F.type_list_append mt_append (pvI 9) (pa_consI (pe_tupI (pa_consI (pe_fnI D_l_share hr pass0 (pa_consI (pvI 13) (pa_consI (pvI 6) pa_nilI))) (pa_consI (pe_fnI D_l_share hr pass0 (pa_consI (pvI 14) (pa_consI (pvI 6) pa_nilI))) pa_nilI))) pa_nilI)))))))))))
      (pss_oneI (ps_exprI (show PEi _ _ (tBM K _ _ _ _) from (pe_bmI PySem.F.plainAttrs_list PySem.F.slot_list_append PySem.F.type_list_append mt_append (pvI 7) (pa_consI (pvI 9) pa_nilI))))))))
      (pss_consI (ps_ifI (pt_cmpRI op_eq (pe_opI op_mod (pe_ixI (ix_listK K) (pvI 3) pe_intI (fun _ _ => rfl)) pe_intI) pe_intI (nomark _)) (pss_oneI (ps_asgI (pe_backwardI K (pe_ixI (ix_listK K) (pvI 7) pe_intI (fun _ _ => rfl)) (po_someI (pe_unI un_neg pe_intI))) (pg_subI (pvI 7) pe_intI set_list))) pss_nilI)
      (pss_oneI (ps_retI (pvI 7))))))))))), ?_⟩
    walk_at "rd"
    refine ⟨a, ns, 0, rfl, hS, by omega, fun head => ?_⟩
    walk_at "rd"
    refine ⟨_, _, rfl, fun ls xs H1 s1 hx hxl hnn => ?_⟩
    have nn : ∀ j : Nat, 0 ≤ xs.getD j 0 := fun j => getD_nn hnn j
    have hx1 : SqL K H1 ls (xs.map V.int) := SqL.of hx
    walk_at "rd"
    intro g1 hg1
    have n0 := nn 0
    have n1 := nn 1
    have n2 := nn 2
    have hx2 : SqL K (upd H1 g1 (.lst [.int 1, .int 1, .int (1 + head / 5 % (10 : Int) ^ (30 : Int).toNat)])) ls (xs.map V.int) := by walk_at "mv"
    walk_at "rd"
    have p30' := p30
    obtain ⟨v1, hv1, hm1⟩ := atI_lt [V.int 1, V.int 1, V.int (1 + head / 5 % (10 : Int) ^ (30 : Int).toNat)] (xs.getD 0 0 % 3) (by omega) (by show _ < (3 : Int); omega)
    have hs1 : ∃ sc : Int, v1 = V.int sc ∧ sc.natAbs ≤ 10 ^ 30 := by
      rw [p30'] at hm1
      simp only [List.mem_cons, List.not_mem_nil, or_false] at hm1
      rcases hm1 with rfl | rfl | rfl
      · exact ⟨_, rfl, by decide⟩
      · exact ⟨_, rfl, by decide⟩
      · exact ⟨_, rfl, by omega⟩
    obtain ⟨sc, rfl, zsc⟩ := hs1
    refine ⟨g1, _, _, _, rfl, rfl, SqL.of upd_same, hv1, ?_⟩
    walk_at "rd"
    intro g2 hg2
    have hx3 : SqL K (upd (upd H1 g1 (.lst [.int 1, .int 1, .int (1 + head / 5 % (10 : Int) ^ (30 : Int).toNat)])) g2 (.lst [.int 0, .int 0, .int (head / 7 % (10 : Int) ^ (30 : Int).toNat * (1 - 2 * (xs.getD (Int.toNat 1) 0 % 2)))])) ls (xs.map V.int) := by walk_at "mv"
    walk_at "rd"
    obtain ⟨v2, hv2, hm2⟩ := atI_lt [V.int 0, V.int 0, V.int (head / 7 % (10 : Int) ^ (30 : Int).toNat * (1 - 2 * (xs.getD (Int.toNat 1) 0 % 2)))] (xs.getD (Int.toNat 1) 0 / 2 % 3) (by omega) (by show _ < (3 : Int); omega)
    have hs2 : ∃ fa : Int, v2 = V.int fa ∧ fa.natAbs ≤ 10 ^ 30 := by
      rw [p30'] at hm2
      simp only [List.mem_cons, List.not_mem_nil, or_false] at hm2
      rcases hm2 with rfl | rfl | rfl
      · exact ⟨_, rfl, by decide⟩
      · exact ⟨_, rfl, by decide⟩
      · refine ⟨_, rfl, ?_⟩
        rw [Int.natAbs_mul]
        have e1 : (1 - 2 * (xs.getD (Int.toNat 1) 0 % 2)).natAbs = 1 := by omega
        rw [e1]; omega
    obtain ⟨fa, rfl, zfa⟩ := hs2
    refine ⟨g2, _, _, _, rfl, rfl, SqL.of upd_same, hv2, ?_⟩
    walk_at "rd"
    intro lb hlb
    have hlbH : H lb = none := s1.free ((Same.new hg1).free ((Same.new hg2).free hlb))
    have sA := (s1.trans (Same.new (o := .lst [.int 1, .int 1, .int (1 + head / 5 % (10 : Int) ^ (30 : Int).toNat)]) hg1)).trans (Same.new (o := .lst [.int 0, .int 0, .int (head / 7 % (10 : Int) ^ (30 : Int).toNat * (1 - 2 * (xs.getD (Int.toNat 1) 0 % 2)))]) hg2)
    have sB : Same H (upd (upd (upd H1 g1 (.lst [.int 1, .int 1, .int (1 + head / 5 % (10 : Int) ^ (30 : Int).toNat)])) g2 (.lst [.int 0, .int 0, .int (head / 7 % (10 : Int) ^ (30 : Int).toNat * (1 - 2 * (xs.getD (Int.toNat 1) 0 % 2)))])) lb (.lst [])) := sA.trans (Same.new hlb)
    have nls : ls ≠ lb := ne_of_none (upd_keep (o := .lst [.int 0, .int 0, .int (head / 7 % (10 : Int) ^ (30 : Int).toNat * (1 - 2 * (xs.getD (Int.toNat 1) 0 % 2)))]) hg2 (upd_keep (o := .lst [.int 1, .int 1, .int (1 + head / 5 % (10 : Int) ^ (30 : Int).toNat)]) hg1 hx)) hlb
    have hx4 := upd_keep (o := .lst []) hlb (upd_keep (o := .lst [.int 0, .int 0, .int (head / 7 % (10 : Int) ^ (30 : Int).toNat * (1 - 2 * (xs.getD (Int.toNat 1) 0 % 2)))]) hg2 (upd_keep (o := .lst [.int 1, .int 1, .int (1 + head / 5 % (10 : Int) ^ (30 : Int).toNat)]) hg1 hx))
    have hb4 : (upd (upd (upd H1 g1 (.lst [.int 1, .int 1, .int (1 + head / 5 % (10 : Int) ^ (30 : Int).toNat)])) g2 (.lst [.int 0, .int 0, .int (head / 7 % (10 : Int) ^ (30 : Int).toNat * (1 - 2 * (xs.getD (Int.toNat 1) 0 % 2)))])) lb (.lst [])) lb = some (.lst []) := upd_same
    generalize hH4 : upd (upd (upd H1 g1 (.lst [.int 1, .int 1, .int (1 + head / 5 % (10 : Int) ^ (30 : Int).toNat)])) g2 (.lst [.int 0, .int 0, .int (head / 7 % (10 : Int) ^ (30 : Int).toNat * (1 - 2 * (xs.getD (Int.toNat 1) 0 % 2)))])) lb (.lst []) = H4 at *
    clear hH4 sA hx1 hx2 hx3 hlb hg1 hg2 hv1 hv2 s1 hx
    obtain ⟨BB, hBB⟩ : ∃ BB : Int, BB = 1 + xs.getD (Int.toNat 2) 0 % 3 := ⟨_, rfl⟩
    have n2' : 0 ≤ xs.getD (Int.toNat 2) 0 := n2
    have B1 : 1 ≤ BB := by omega
    have B3 : BB ≤ 3 := by omega
    walk_at "rd"
    refine for_range (fun i σ H' => ∃ (y8 y9 y10 y11 y12 y13 y14 : Option V) (vs : List V), σ = [some (.ref a), some (.int (mo : Int)), some (.int head), some (.ref ls), some (.int sc), some (.int fa), some (.int BB), some (.ref lb), y8, y9, y10, y11, y12, y13, y14] ∧ Same H H' ∧ H' ls = some (.lst (xs.map V.int)) ∧ H' lb = some (.lst vs) ∧ vs.length = i ∧ ∀ (j : Nat) (v : V), vs[j]? = some v → ∃ l ws ps, l ≠ lb ∧ CvB H' v l ws ps BB mo) ⟨none, none, none, none, none, none, none, [], by subst hBB; rfl, sB, hx4, hb4, rfl, fun j v e => nomatch (show (none : Option V) = some v from e)⟩ ?_ ?_
    · rintro i σ H5 hi ⟨y8, y9, y10, y11, y12, y13, y14, vs, rfl, s5, hx5', hb5, hvl, hvs⟩
      have hx5 : SqL K H5 ls (xs.map V.int) := SqL.of hx5'
      walk_at "rd"
      intro lq hlq
      have hi2 : i < 2 := hi
      have hx6 : SqL K (upd H5 lq (.lst [])) ls (xs.map V.int) := SqL.same' hx5 (Same.new hlq)
      walk_at "rd"
      have nq := nn (3 + (0 + (i : Int))).toNat
      generalize xs.getD (3 + (0 + (i : Int))).toNat 0 = q at *
      refine ⟨by omega, ?_⟩
      have r1 := Int.emod_nonneg q (b := (mo : Int)) (by omega)
      have r2 := Int.emod_lt_of_pos q (b := (mo : Int)) (by omega)
      walk_at "rd"
      refine ⟨by omega, by omega, for_range (fun j σ H' => ∃ (z10 z11 z12 z13 z14 : Option V) (us : List V) (ps : List Pt), σ = [some (.ref a), some (.int (mo : Int)), some (.int head), some (.ref ls), some (.int sc), some (.int fa), some (.int BB), some (.ref lb), some (.int (0 + (i : Int))), some (.ref lq), z10, z11, z12, z13, z14] ∧ Same H5 H' ∧ H' lq = some (.lst us) ∧ PtsV H' us ps ∧ ps.length = j ∧ ∀ p ∈ ps, OvP BB 110 p) ⟨y10, y11, y12, y13, y14, [], [], rfl, Same.new hlq, upd_same, PtsV.nil _, rfl, fun p hp => nomatch hp⟩ ?_ ?_⟩
      · rintro j σ H6 hj ⟨z10, z11, z12, z13, z14, us, ps, rfl, s6, hq6, hP6, hpl, hov⟩
        have hj2 : (j : Int) < 1 + q % (mo : Int) := by omega
        have hS6 : SqL K H6 a (ns.map V.int) := SqL.same' (SqL.same' hS s5) s6
        have hx7 : SqL K H6 ls (xs.map V.int) := SqL.same' hx5 s6
        walk_at "rd"
        have nm : 0 ≤ (mo : Int) * (0 + (i : Int)) := Int.mul_nonneg (by omega) (by omega)
        refine ⟨a, ns, _, rfl, hS6, by omega, fun z => ?_⟩
        walk_at "rd"
        refine ⟨_, _, rfl, fun lr rx H7 s7 hr7 hrl hrn => ?_⟩
        have hx8 : SqL K H7 ls (xs.map V.int) := SqL.same' hx7 s7
        have hr8 : SqL K H7 lr (rx.map V.int) := SqL.of hr7
        have hq7 := s7 _ _ hq6
        have hP7 := hP6.same s7
        have s67 := s6.trans s7
        clear hx7 hq6 hP6 s6 s7
        walk_at "rd"
        refine ite_dec (fun h0 => ?_) (fun h0 => ?_)
        · walk_at "rd"
          refine ite_dec (fun h1 => ?_) (fun h1 => ?_)
          · walk_at "rd"
            intro lr2 hlr2
            have s78 := Same.new (o := .lst [.int z, .int (z / 17)]) hlr2
            replace hx8 := SqL.same' hx8 s78
            replace hq7 := s78 _ _ hq7
            replace hP7 := hP7.same s78
            have hr9 : (upd H7 lr2 (.lst [.int z, .int (z / 17)])) lr2 = some (.lst [.int z, .int (z / 17)]) := upd_same
            replace s67 := s67.trans s78
            generalize upd H7 lr2 (.lst [.int z, .int (z / 17)]) = H8 at *
            walk_at "rd"
            refine ⟨.inl ⟨rfl, _, SqL.of hq7⟩, ?_⟩
            walk_at "rd"
            refine ⟨_, _, rfl, by omega, Sz.mono (n := 20) (Sz.million (by omega) (by omega)) (by decide), fun v1 G1 t1 w1 => ?_⟩
            walk_at "rd"
            refine ⟨_, _, rfl, by omega, Sz.mono (n := 20) (Sz.million (by omega) (by omega)) (by decide), fun v2 G2 t2 w2 => ?_⟩
            walk_at "rd"
            intro g hg
            have sg := (t1.trans t2).trans (Same.new (o := .tup [v1, v2]) hg)
            refine ⟨lq, us, _, rfl, rfl, sg _ _ hq7, small_line (by have := hP7.len; omega), ?_⟩
            have tg : Tup (upd G2 g (.tup [v1, v2])) (upd (upd G2 g (.tup [v1, v2])) lq (.lst (us ++ [.ref g]))) := Tup.lst (sg _ _ hq7)
            have pv : PtV (upd G2 g (.tup [v1, v2])) (.ref g) _ _ := ⟨g, v1, v2, rfl, upd_same, (w1.same t2).same (Same.new hg), w2.same (Same.new hg)⟩
            refine ⟨_, _, _, _, _, us ++ [.ref g], ps ++ [(_, _)], rfl, same_upd hlq (s67.trans sg), upd_same, ((hP7.same sg).snoc pv).tup tg, by rw [List.length_append, hpl]; rfl, fun p hp => ?_⟩
            rcases List.mem_append.mp hp with hp | hp
            · exact hov p hp
            · rw [List.mem_singleton.mp hp]
              exact ⟨ov_divInt (by omega) (seat_sz3 (by omega) zsc zfa).1, ov_divInt (by omega) (seat_sz3 (by omega) zsc zfa).2⟩
          · walk_at "rd"
            refine ⟨.inl ⟨rfl, _, SqL.of hq7⟩, ?_⟩
            walk_at "rd"
            refine ⟨_, _, rfl, by omega, Sz.mono (n := 20) (Sz.million (by omega) (by omega)) (by decide), fun v1 G1 t1 w1 => ?_⟩
            walk_at "rd"
            refine ⟨_, _, rfl, by omega, Sz.mono (n := 20) (Sz.million (by omega) (by omega)) (by decide), fun v2 G2 t2 w2 => ?_⟩
            walk_at "rd"
            intro g hg
            have sg := (t1.trans t2).trans (Same.new (o := .tup [v1, v2]) hg)
            refine ⟨lq, us, _, rfl, rfl, sg _ _ hq7, small_line (by have := hP7.len; omega), ?_⟩
            have tg : Tup (upd G2 g (.tup [v1, v2])) (upd (upd G2 g (.tup [v1, v2])) lq (.lst (us ++ [.ref g]))) := Tup.lst (sg _ _ hq7)
            have pv : PtV (upd G2 g (.tup [v1, v2])) (.ref g) _ _ := ⟨g, v1, v2, rfl, upd_same, (w1.same t2).same (Same.new hg), w2.same (Same.new hg)⟩
            refine ⟨_, _, _, _, _, us ++ [.ref g], ps ++ [(_, _)], rfl, same_upd hlq (s67.trans sg), upd_same, ((hP7.same sg).snoc pv).tup tg, by rw [List.length_append, hpl]; rfl, fun p hp => ?_⟩
            rcases List.mem_append.mp hp with hp | hp
            · exact hov p hp
            · rw [List.mem_singleton.mp hp]
              exact ⟨ov_divInt (by omega) (seat_sz3 (by omega) zsc zfa).1, ov_divInt (by omega) (seat_sz3 (by omega) zsc zfa).2⟩
        · refine iteF ?_
          walk_at "rd"
          refine ⟨.inl ⟨rfl, _, SqL.of hq7⟩, ?_⟩
          walk_at "rd"
          refine ⟨_, _, rfl, by omega, Sz.mono (n := 20) (Sz.million (by omega) (by omega)) (by decide), fun v1 G1 t1 w1 => ?_⟩
          walk_at "rd"
          refine ⟨_, _, rfl, by omega, Sz.mono (n := 20) (Sz.million (by omega) (by omega)) (by decide), fun v2 G2 t2 w2 => ?_⟩
          walk_at "rd"
          intro g hg
          have sg := (t1.trans t2).trans (Same.new (o := .tup [v1, v2]) hg)
          refine ⟨lq, us, _, rfl, rfl, sg _ _ hq7, small_line (by have := hP7.len; omega), ?_⟩
          have tg : Tup (upd G2 g (.tup [v1, v2])) (upd (upd G2 g (.tup [v1, v2])) lq (.lst (us ++ [.ref g]))) := Tup.lst (sg _ _ hq7)
          have pv : PtV (upd G2 g (.tup [v1, v2])) (.ref g) _ _ := ⟨g, v1, v2, rfl, upd_same, (w1.same t2).same (Same.new hg), w2.same (Same.new hg)⟩
          refine ⟨_, _, _, _, _, us ++ [.ref g], ps ++ [(_, _)], rfl, same_upd hlq (s67.trans sg), upd_same, ((hP7.same sg).snoc pv).tup tg, by rw [List.length_append, hpl]; rfl, fun p hp => ?_⟩
          rcases List.mem_append.mp hp with hp | hp
          · exact hov p hp
          · rw [List.mem_singleton.mp hp]
            exact ⟨ov_divInt (by omega) (seat_sz3 (by omega) zsc zfa).1, ov_divInt (by omega) (seat_sz3 (by omega) zsc zfa).2⟩
      rintro σ H6 ⟨z10, z11, z12, z13, z14, us, ps, rfl, s6, hq6, hP6, hpl, hov⟩
      have nlq : lq ≠ lb := fun e => by rw [e, hb5] at hlq; cases hlq
      refine ⟨_, rfl, .inl ⟨rfl, _, SqL.of (s6 _ _ hb5)⟩, ?_⟩
      walk_at "rd"
      refine ⟨lb, vs, _, rfl, rfl, s6 _ _ hb5, small_line (by omega), ?_⟩
      have tg : Tup H6 (upd H6 lb (.lst (vs ++ [.ref lq]))) := Tup.lst (s6 _ _ hb5)
      refine ⟨_, _, _, _, _, _, _, vs ++ [.ref lq], rfl, same_upd hlbH (s5.trans s6), by rw [upd_ne nls]; exact s6 _ _ hx5', upd_same, by rw [List.length_append, hvl]; rfl, fun j v e => ?_⟩
      rcases snoc_get e with ⟨e1, e2⟩ | ⟨e1, rfl⟩
      · obtain ⟨l, ws, ps', n1, c1⟩ := hvs j v e2
        exact ⟨l, ws, ps', n1, c1.ref, by rw [upd_ne n1]; exact s6 _ _ c1.lst, (c1.pts.same s6).tup tg, c1.l1, c1.l2, c1.ov⟩
      · exact ⟨lq, us, ps, nlq, rfl, by rw [upd_ne nlq]; exact hq6, hP6.tup tg, by omega, by omega, hov⟩
    rintro σ H5 ⟨y8, y9, y10, y11, y12, y13, y14, vs, rfl, s5, hx5, hb5, hvl, hvs⟩
    obtain ⟨v0, v1, rfl⟩ := len2 (l := vs) hvl
    obtain ⟨l0, w0, p0, n0', c0⟩ := hvs 0 v0 rfl
    obtain ⟨l1, w1, p1, n1', c1⟩ := hvs 1 v1 rfl
    obtain rfl := c0.ref
    obtain rfl := c1.ref
    walk_at "rd"
    refine ifB (fun _ => ?_) (fun _ => ?_)
    · walk_at "rd"
      refine ⟨l0, _, rfl, SqL.of c0.lst, fun l2 hl2 => ?_⟩
      have s6 := Same.new (o := .lst w0.reverse) hl2
      have hb6 := s6 _ _ hb5
      have n2 : l2 ≠ lb := fun e => by rw [e, hb5] at hl2; cases hl2
      walk_at "rd"
      show Q (V.ref lb) (upd (upd H5 l2 (.lst w0.reverse)) lb (.lst [.ref l0, .ref l2]))
      have tg : Tup (upd H5 l2 (.lst w0.reverse)) (upd (upd H5 l2 (.lst w0.reverse)) lb (.lst [.ref l0, .ref l2])) := Tup.lst hb6
      refine k lb l0 l2 w0 w0.reverse p0 p0.reverse BB _ (same_upd hlbH (s5.trans s6)) hlbH upd_same ⟨rfl, by rw [upd_ne n0']; exact s6 _ _ c0.lst, (c0.pts.same s6).tup tg, c0.l1, c0.l2, c0.ov⟩ ⟨rfl, by rw [upd_ne n2]; exact upd_same, (c0.pts.rev.same s6).tup tg, by rw [List.length_reverse]; exact c0.l1, by rw [List.length_reverse]; exact c0.l2, fun p hp => c0.ov p (List.mem_reverse.mp hp)⟩ B1 B3
    · walk_at "rd"
      exact k lb l0 l1 w0 w1 p0 p1 BB H5 s5 hlbH hb5 c0 c1 B1 B3
theorem ok_l_whole (F : FunAt K mg "_law_whole" s_l_whole ["_law_found"]) (B : Blt mg) {A_PLAIN_WAYS B1_PLAIN_WAYS B2_PLAIN_WAYS B3_PLAIN_WAYS B4_PLAIN_WAYS : Addr} (G : Cst K mg A_PLAIN_WAYS B1_PLAIN_WAYS B2_PLAIN_WAYS B3_PLAIN_WAYS B4_PLAIN_WAYS) : DefOk P w K mg base CX0 1 "_law_whole" ["_law_found"] spWhole := by
  refine def_okI F sc_l_whole (fun vs H Q E h => ?_) (fun f cdv A outer s H vs Q E hr h => ?_)
  · obtain ⟨i, rfl, _⟩ := h; rfl
  · obtain ⟨i, rfl, k⟩ := h
    have hu := hr.units
    refine ⟨_, (pss_oneI (ps_retI (pe_andI (pe_callBI (call_isiK K) (by rfl) B.isinstance PyProof.Rows.boot_isinstance (pa_consI (pvI 0) (pa_consI (pe_bltnI (v := .ty "int") rfl B.int PyProof.Rows.boot_int rfl) pa_nilI))) (pe_oneI (pe_notI (pe_callBI (call_isiK K) (by rfl) B.isinstance PyProof.Rows.boot_isinstance (pa_consI (pvI 0) (pa_consI (pe_bltnI (v := .ty "bool") rfl B.bool PyProof.Rows.boot_bool rfl) pa_nilI)))))))), ?_⟩
    refine ⟨_, rfl, _, "int", _, _, rfl, TyOf.int i, kit_ii K, _, rfl, iteT ?_⟩
    exact ⟨_, rfl, _, "bool", _, _, rfl, TyOf.int i, kit_ib K, _, rfl, k⟩
theorem ok_l_is_share (F : FunAt K mg "_law_is_share" s_l_is_share ["_law_found"]) (B : Blt mg) {A_PLAIN_WAYS B1_PLAIN_WAYS B2_PLAIN_WAYS B3_PLAIN_WAYS B4_PLAIN_WAYS : Addr} (G : Cst K mg A_PLAIN_WAYS B1_PLAIN_WAYS B2_PLAIN_WAYS B3_PLAIN_WAYS B4_PLAIN_WAYS) (D_l_part : DefOk P w K mg base CX0 1 "_law_part" ["_law_one", "_law_other"] spPart) (D_l_whole : DefOk P w K mg base CX0 1 "_law_whole" ["_law_found"] spWhole) : DefOk P w K mg base CX0 2 "_law_is_share" ["_law_found"] spIsShare := by
  refine def_okI F sc_l_is_share (fun vs H Q E h => ?_) (fun f cdv A outer s H vs Q E hr h => ?_)
  · obtain ⟨x, q, rfl, _⟩ := h; rfl
  · obtain ⟨x, q, rfl, ⟨a, rfl, ha⟩, k⟩ := h
    have hu := hr.units
    refine ⟨_, (pss_consI (ps_ifI (PW_ptI (pw_orI (pt_notI (pt_valI (pe_callBI (call_isiK K) (by rfl) B.isinstance PyProof.Rows.boot_isinstance (pa_consI (pvI 0) (pa_consI (pe_bltnI (v := .ty "tuple") rfl B.tuple PyProof.Rows.boot_tuple rfl) pa_nilI))))) (pw_or1I (pt_cmpRI op_ne (pe_callBI (call_lenK K) (by rfl) B.len PySem.boot_len (pa_consI (pvI 0) pa_nilI)) pe_intI (nomark _))))) (pss_oneI (ps_retI pe_blI)) pss_nilI)
      (pss_consI (ps_ifI (PW_ptI (pw_orI (pt_notI (pt_valI (pe_fnI D_l_whole hr pass0 (pa_consI (pe_ixI (ix_tupK K) (pvI 0) pe_intI (fun _ _ => rfl)) pa_nilI)))) (pw_orI (pt_notI (pt_valI (pe_fnI D_l_whole hr pass0 (pa_consI (pe_ixI (ix_tupK K) (pvI 0) pe_intI (fun _ _ => rfl)) pa_nilI)))) (pw_or1I (pt_cmpRI op_lt (pe_ixI (ix_tupK K) (pvI 0) pe_intI (fun _ _ => rfl)) pe_intI (nomark _)))))) (pss_oneI (ps_retI pe_blI)) pss_nilI)
      (pss_oneI (ps_retI (pe_cmpRI op_eq (pe_fnI D_l_part hr pass0 (pa_consI (pe_callBI call_abs (by rfl) B.abs PyProof.Rows.boot_abs (pa_consI (pe_ixI (ix_tupK K) (pvI 0) pe_intI (fun _ _ => rfl)) pa_nilI)) (pa_consI (pe_ixI (ix_tupK K) (pvI 0) pe_intI (fun _ _ => rfl)) pa_nilI))) pe_intI (nomark _)))))), ?_⟩
    refine ⟨_, rfl, _, "tuple", _, _, rfl, TyOf.tup ha, kit_tt K, _, rfl, ifF rfl ?_⟩
    refine ⟨_, rfl, a, _, rfl, .inr (SqT.of ha), rfl, _, rfl, ifF rfl ?_⟩
    refine ⟨_, rfl, a, _, _, _, rfl, rfl, SqT.of ha, rfl, _, rfl, _, rfl, ifF rfl ?_⟩
    refine ⟨_, rfl, a, _, _, _, rfl, rfl, SqT.of ha, rfl, _, rfl, _, rfl, ifF rfl ?_⟩
    refine ⟨_, rfl, a, _, _, _, rfl, rfl, SqT.of ha, rfl, _, _, rfl, rfl, _, rfl, ifF ?_ ?_⟩
    · have := den_pos' q
      simp only [decide_eq_false_iff_not]; omega
    · refine ⟨_, rfl, a, _, _, _, rfl, rfl, SqT.of ha, rfl, _, rfl, _, rfl, a, _, _, _, rfl, rfl, SqT.of ha, rfl, _, _, rfl, (by split <;> omega), (by have := den_pos' q; omega), rfl, ?_⟩
      rw [gcd_red]
      exact k
theorem ok_l_is_line (F : FunAt K mg "_law_is_line" s_l_is_line ["_law_told", "_law_some", "_law_others"]) (B : Blt mg) {A_PLAIN_WAYS B1_PLAIN_WAYS B2_PLAIN_WAYS B3_PLAIN_WAYS B4_PLAIN_WAYS : Addr} (G : Cst K mg A_PLAIN_WAYS B1_PLAIN_WAYS B2_PLAIN_WAYS B3_PLAIN_WAYS B4_PLAIN_WAYS) (D_l_is_share : DefOk P w K mg base CX0 2 "_law_is_share" ["_law_found"] spIsShare) : DefOk P w K mg base CX0 3 "_law_is_line" ["_law_told", "_law_some", "_law_others"] (spIsLine K) := by
  refine def_okI F sc_l_is_line (fun vs H Q E h => ?_) (fun f cdv A outer s H vs Q E hr h => ?_)
  · obtain ⟨c, l0, l1, w0, w1, ps, qs, rfl, _⟩ := h; rfl
  · obtain ⟨c, l0, l1, w0, w1, ps, qs, rfl, ⟨v1, v2, v3, q1, q2, q3, hc, g1, g2, g3, b1, b2, b3, hL⟩, h0, hP, h1, hQ, bp, bq, k⟩ := h
    have hu := hr.units
    refine ⟨_, (pss_consI (ps_forI PassesOwn.never rfl (pi_range2I rfl B.range (pa_consI pe_intI (pa_consI pe_intI pa_nilI))) (pg_nameI (i := 3) sc_l_is_line.nd rfl (by first | exact Or.inl rfl | exact Or.inr rfl))
      (pss_oneI (ps_ifI (pt_notI (pt_valI (pe_fnI D_l_is_share hr pass0 (pa_consI (pe_ixI (ix_tupK K) (pvI 0) (pvI 3) (fun _ _ => rfl)) pa_nilI)))) (pss_oneI (ps_retI pe_blI)) pss_nilI)))
      (pss_consI (ps_par3I (i := 4) (j := 5) (k := 6) rfl sc_l_is_line.nd rfl rfl rfl (by decide) (by decide) (by decide) rfl rfl rfl (pa_consI (pe_ixI (ix_tupK K) (pvI 0) pe_intI (fun _ _ => rfl)) (pa_consI (pe_ixI (ix_tupK K) (pvI 0) pe_intI (fun _ _ => rfl)) (pa_consI (pe_ixI (ix_tupK K) (pvI 0) pe_intI (fun _ _ => rfl)) pa_nilI))) rfl)
      (pss_consI (ps_forI PassesOwn.never rfl (pi_listKI K (pe_lstI (pa_consI (pe_tupI (pa_consI pe_intI (pa_consI (pvI 1) pa_nilI))) (pa_consI (pe_tupI (pa_consI (pe_unI un_neg pe_intI) (pa_consI (pvI 2) pa_nilI))) pa_nilI)))) (pg_tupKI (n := 2) K rfl (pgs_consI (pg_nameI (i := 7) sc_l_is_line.nd rfl (by first | exact Or.inl rfl | exact Or.inr rfl)) (pgs_consI (pg_nameI (i := 8) sc_l_is_line.nd rfl (by first | exact Or.inl rfl | exact Or.inr rfl)) pgs_nilI)))
      (pss_oneI (ps_forI PassesOwn.never rfl (pi_listKI K (pvI 8)) (pg_tupKI (n := 2) K rfl (pgs_consI (pg_nameI (i := 9) sc_l_is_line.nd rfl (by first | exact Or.inl rfl | exact Or.inr rfl)) (pgs_consI (pg_nameI (i := 10) sc_l_is_line.nd rfl (by first | exact Or.inl rfl | exact Or.inr rfl)) pgs_nilI)))
      (pss_consI (ps_setI (i := 11) sc_l_is_line.nd rfl (by first | exact Or.inl rfl | exact Or.inr rfl) (pe_opI op_mulA (pe_opI op_mulA (pe_opI op_mulA (pe_ixI (ix_tupK K) (pvI 4) pe_intI (fun _ _ => rfl)) (pe_ixI (ix_tupK K) (pvI 9) pe_intI (fun _ _ => rfl))) (pe_ixI (ix_tupK K) (pvI 5) pe_intI (fun _ _ => rfl))) (pe_ixI (ix_tupK K) (pvI 10) pe_intI (fun _ _ => rfl))))
      (pss_consI (ps_setI (i := 12) sc_l_is_line.nd rfl (by first | exact Or.inl rfl | exact Or.inr rfl) (pe_opI op_mulA (pe_opI op_mulA (pe_opI op_mulA (pe_ixI (ix_tupK K) (pvI 4) pe_intI (fun _ _ => rfl)) (pe_ixI (ix_tupK K) (pvI 9) pe_intI (fun _ _ => rfl))) (pe_ixI (ix_tupK K) (pvI 5) pe_intI (fun _ _ => rfl))) (pe_ixI (ix_tupK K) (pvI 10) pe_intI (fun _ _ => rfl))))
      (pss_consI (ps_setI (i := 12) sc_l_is_line.nd rfl (by first | exact Or.inl rfl | exact Or.inr rfl) (pe_opI op_add (pvI 12) (pe_opI op_mulA (pe_opI op_mulA (pe_opI op_mulA (pe_ixI (ix_tupK K) (pvI 5) pe_intI (fun _ _ => rfl)) (pe_ixI (ix_tupK K) (pvI 10) pe_intI (fun _ _ => rfl))) (pe_ixI (ix_tupK K) (pvI 4) pe_intI (fun _ _ => rfl))) (pe_ixI (ix_tupK K) (pvI 9) pe_intI (fun _ _ => rfl)))))
      (pss_oneI (ps_ifI (pt_cmpRI op_ge (pe_opI op_mulA (pe_opI op_mulA (pvI 7) (pvI 12)) (pe_ixI (ix_tupK K) (pvI 6) pe_intI (fun _ _ => rfl))) (pe_opI op_mulA (pe_opI op_mulA (pvI 7) (pe_ixI (ix_tupK K) (pvI 6) pe_intI (fun _ _ => rfl))) (pvI 11)) (nomark _)) (pss_oneI (ps_retI pe_blI)) pss_nilI))))))))
      (pss_oneI (ps_retI pe_blI))))), ?_⟩
    walk_at "rd"
    refine ⟨1, 4, rfl, ⟨by decide, by decide, by decide, by decide⟩, for_range (lo := 1) (n := 3) (fun i σ H' => ∃ (y : Option V), σ = [some (.ref c), some (.ref l0), some (.ref l1), y, none, none, none, none, none, none, none, none, none] ∧ H' = H) ⟨none, rfl, rfl⟩ ?_ ?_⟩
    · rintro i σ H2 hi ⟨y, rfl, rfl⟩
      obtain ⟨v, q, hv, gv⟩ : ∃ v q, atI [V.str "line", v1, v2, v3] (1 + (i : Int)) = some v ∧ ShV H2 v q := by
        match i, hi with
        | 0, _ => exact ⟨v1, q1, rfl, g1⟩
        | 1, _ => exact ⟨v2, q2, rfl, g2⟩
        | 2, _ => exact ⟨v3, q3, rfl, g3⟩
      walk_at "rd"
      refine ⟨v, q, rfl, gv, ?_⟩
      walk_at "rd"
      rfl
    rintro σ H2 ⟨y3, rfl, rfl⟩
    walk_at "rd"
    refine ⟨_, _, _, rfl, ?_⟩
    walk_at "rd"
    intro t1 ht1
    have u1 := Same.new (o := .tup [.int 1, .ref l0]) ht1
    walk_at "rd"
    intro t2 ht2
    have u2 := Same.new (o := .tup [.int (-1), .ref l1]) ht2
    walk_at "rd"
    intro lt hlt
    have u3 := Same.new (o := .lst [.ref t1, .ref t2]) hlt
    have sA := (u1.trans u2).trans u3
    have k1 := u3 _ _ (u2 _ _ (upd_same (H := H2) (a := t1) (o := .tup [.int 1, .ref l0])))
    have k2 := u3 _ _ (upd_same (H := upd H2 t1 (.tup [.int 1, .ref l0])) (a := t2) (o := .tup [.int (-1), .ref l1]))
    have k3 : (upd (upd (upd H2 t1 (.tup [.int 1, .ref l0])) t2 (.tup [.int (-1), .ref l1])) lt (.lst [.ref t1, .ref t2])) lt = some (.lst [.ref t1, .ref t2]) := upd_same
    replace h0 := sA _ _ h0
    replace h1 := sA _ _ h1
    replace hP := hP.same sA
    replace hQ := hQ.same sA
    replace g1 := g1.same sA
    replace g2 := g2.same sA
    replace g3 := g3.same sA
    obtain ⟨S1, S2⟩ := hL.side
    clear u1 u2 u3 ht1 ht2 hlt hc hL
    generalize upd (upd (upd H2 t1 (.tup [.int 1, .ref l0])) t2 (.tup [.int (-1), .ref l1])) lt (.lst [.ref t1, .ref t2]) = H3 at *
    obtain ⟨a1, rfl, g1⟩ := g1
    obtain ⟨a2, rfl, g2⟩ := g2
    obtain ⟨a3, rfl, g3⟩ := g3
    walk_at "rd"
    refine ⟨⟨_, SqL.of k3⟩, for_list (xs := [.ref t1, .ref t2]) (fun i σ H' => ∃ (y3 y7 y8 y9 y10 y11 y12 : Option V), σ = [some (.ref c), some (.ref l0), some (.ref l1), y3, some (.ref a1), some (.ref a2), some (.ref a3), y7, y8, y9, y10, y11, y12] ∧ H' = H3) ⟨_, none, none, none, none, none, none, rfl, rfl⟩ (fun i σ H' _ ⟨_, _, _, _, _, _, _, _, e⟩ => by rw [e]; exact SqL.of k3) ?_ ?_⟩
    · rintro i v σ H4 hv ⟨y3, y7, y8, y9, y10, y11, y12, rfl, rfl⟩
      obtain ⟨t, s, l, ws, pts, rfl, kt, kl, kP, kb, kS, ks⟩ : ∃ (t : Addr) (s : Int) (l : Addr) (ws : List V) (pts : List Pt), v = .ref t ∧ H4 t = some (.tup [.int s, .ref l]) ∧ H4 l = some (.lst ws) ∧ PtsV H4 ws pts ∧ (∀ p ∈ pts, Bd 2000 p.1 ∧ Bd 2000 p.2) ∧ SideQ s q1 q2 q3 pts ∧ Sz 2 s := by
        match i, hv with
        | 0, hv => cases hv; exact ⟨t1, 1, l0, w0, ps, rfl, k1, h0, hP, bp, S1, ⟨by decide⟩⟩
        | 1, hv => cases hv; exact ⟨t2, -1, l1, w1, qs, rfl, k2, h1, hQ, bq, S2, ⟨by decide⟩⟩
        | i + 2, hv => simp at hv
      refine ⟨t, _, rfl, SqT.of kt, rfl, _, _, rfl, _, _, rfl, rfl, ?_⟩
      walk_at "rd"
      refine ⟨⟨_, SqL.of kl⟩, for_list (xs := ws) (fun i σ H' => ∃ (y3 y9 y10 y11 y12 : Option V), σ = [some (.ref c), some (.ref l0), some (.ref l1), y3, some (.ref a1), some (.ref a2), some (.ref a3), some (.int s), some (.ref l), y9, y10, y11, y12] ∧ H' = H4) ⟨_, _, _, _, _, rfl, rfl⟩ (fun i σ H' _ ⟨_, _, _, _, _, _, e⟩ => by rw [e]; exact SqL.of kl) ?_ ?_⟩
      · rintro j v σ H5 hv ⟨y3, y9, y10, y11, y12, rfl, rfl⟩
        obtain ⟨p, ep, ap, vx, vy, rfl, hp, ⟨ax, rfl, gx⟩, ⟨ay, rfl, gy⟩⟩ := kP.atV hv
        have hpm := List.mem_of_getElem? ep
        obtain ⟨bx, by_⟩ := kb p hpm
        have lt := kS p hpm
        refine ⟨ap, _, rfl, SqT.of hp, rfl, _, _, rfl, _, _, rfl, rfl, ?_⟩
        walk_at "rd"
        refine ifF (by simpa using lt) ?_
        exact ⟨_, _, _, _, _, rfl, rfl⟩
      rintro σ H5 ⟨y3, y9, y10, y11, y12, rfl, rfl⟩
      exact ⟨_, _, _, _, _, _, _, rfl, rfl⟩
    rintro σ H4 ⟨y3, y7, y8, y9, y10, y11, y12, rfl, rfl⟩
    walk_at "rd"
    exact k _ sA
theorem ok_l_mean (F : FunAt K mg "_law_mean" s_l_mean ["_law_parts", "_law_places"]) (B : Blt mg) {A_PLAIN_WAYS B1_PLAIN_WAYS B2_PLAIN_WAYS B3_PLAIN_WAYS B4_PLAIN_WAYS : Addr} (G : Cst K mg A_PLAIN_WAYS B1_PLAIN_WAYS B2_PLAIN_WAYS B3_PLAIN_WAYS B4_PLAIN_WAYS) (D_l_share : DefOk P w K mg base CX0 2 "_law_share" ["_law_top", "_law_bottom"] spLShare) (D_l_is_share : DefOk P w K mg base CX0 2 "_law_is_share" ["_law_found"] spIsShare) : DefOk P w K mg base CX0 3 "_law_mean" ["_law_parts", "_law_places"] (spLMean K) := by
  refine def_okI F sc_l_mean (fun vs H Q E h => ?_) (fun f cdv A outer s H vs Q E hr h => ?_)
  · obtain ⟨l, m, vl, ws, rs, ps, n1, n2, rfl, _⟩ := h; rfl
  · obtain ⟨l, m, vl, ws, rs, ps, n1, n2, rfl, hl, hR, hm, hP, hrp, br, bp, s21, hz, z1, z2, k⟩ := h
    have hu := hr.units
    refine ⟨_, (pss_consI (ps_ifI (PW_ptI (pw_orI (pt_notI (pt_valI (pe_callBI (call_isiK K) (by rfl) B.isinstance PyProof.Rows.boot_isinstance (pa_consI (pvI 0) (pa_consI (pe_bltnI (v := .ty "list") rfl B.list PyProof.Rows.boot_list rfl) pa_nilI))))) (pw_or1I (pt_cmpRI op_ne (pe_callBI (call_lenK K) (by rfl) B.len PySem.boot_len (pa_consI (pvI 0) pa_nilI)) (pe_callBI (call_lenK K) (by rfl) B.len PySem.boot_len (pa_consI (pvI 1) pa_nilI)) (nomark _))))) (pss_oneI (ps_retI pe_nonI)) pss_nilI)
      (pss_consI (ps_setI (i := 2) sc_l_mean.nd rfl (by first | exact Or.inl rfl | exact Or.inr rfl) (pe_lstI pa_nilI))
      (pss_consI (ps_forI PassesOwn.never rfl (pi_range1I rfl B.range (pa_consI pe_intI pa_nilI)) (pg_nameI (i := 3) sc_l_mean.nd rfl (by first | exact Or.inl rfl | exact Or.inr rfl))
      (pss_consI (ps_setI (i := 4) sc_l_mean.nd rfl (by first | exact Or.inl rfl | exact Or.inr rfl) pe_intI)
      (pss_consI (ps_setI (i := 5) sc_l_mean.nd rfl (by first | exact Or.inl rfl | exact Or.inr rfl) pe_intI)
      (pss_consI (ps_forI PassesOwn.never rfl (show PIi _ _ _ (iZip K _) from (pi_zipI rfl B.zip (pa_consI (pvI 0) (pa_consI (pvI 1) pa_nilI)))) (pg_tupKI (n := 2) K rfl (pgs_consI (pg_nameI (i := 6) sc_l_mean.nd rfl (by first | exact Or.inl rfl | exact Or.inr rfl)) (pgs_consI (pg_nameI (i := 7) sc_l_mean.nd rfl (by first | exact Or.inl rfl | exact Or.inr rfl)) pgs_nilI)))
      (pss_consI (ps_ifI (PW_ptI (pw_orI (pt_notI (pt_valI (pe_fnI D_l_is_share hr pass0 (pa_consI (pvI 6) pa_nilI)))) (pw_or1I (pt_cmpRI op_lt (pe_ixI (ix_tupK K) (pvI 6) pe_intI (fun _ _ => rfl)) pe_intI (nomark _))))) (pss_oneI (ps_retI pe_nonI)) pss_nilI)
      (pss_consI (ps_setI (i := 8) sc_l_mean.nd rfl (by first | exact Or.inl rfl | exact Or.inr rfl) (pe_ixI (ix_tupK K) (pe_opI (op_catTK K) (pvI 7) (pe_tupI (pa_consI (pe_tupI (pa_consI pe_intI (pa_consI pe_intI pa_nilI))) pa_nilI))) (pvI 3) (fun _ _ => rfl)))
      (pss_consI (ps_setI (i := 9) sc_l_mean.nd rfl (by first | exact Or.inl rfl | exact Or.inr rfl) (pe_opI op_mulA (pe_ixI (ix_tupK K) (pvI 6) pe_intI (fun _ _ => rfl)) (pe_ixI (ix_tupK K) (pvI 8) pe_intI (fun _ _ => rfl))))
      (pss_consI (ps_setI (i := 4) sc_l_mean.nd rfl (by first | exact Or.inl rfl | exact Or.inr rfl) (pe_opI op_add (pe_opI op_mulA (pvI 4) (pvI 9)) (pe_opI op_mulA (pe_opI op_mulA (pe_ixI (ix_tupK K) (pvI 6) pe_intI (fun _ _ => rfl)) (pe_ixI (ix_tupK K) (pvI 8) pe_intI (fun _ _ => rfl))) (pvI 5))))
      (pss_oneI (ps_setI (i := 5) sc_l_mean.nd rfl (by first | exact Or.inl rfl | exact Or.inr rfl) (pe_opI op_mulA (pvI 5) (pvI 9)))))))))
      (pss_oneI (ps_exprI (show PEi _ _ (tBM K _ _ _ _) from (pe_bmI PySem.F.plainAttrs_list PySem.F.slot_list_append PySem.F.type_list_append mt_append (pvI 2) (pa_consI (pe_fnI D_l_share hr pass0 (pa_consI (pvI 4) (pa_consI (pvI 5) pa_nilI))) pa_nilI)))))))))
      (pss_oneI (ps_retI (pvI 2)))))), ?_⟩
    have hll := hR.len
    have hwl := hP.len
    walk_at "rd"
    refine ifF (by simp; omega) ?_
    walk_at "rd"
    intro lf hlf
    walk_at "rd"
    refine for_range (n := 3) (fun i σ H' => ∃ (y3 y4 y5 y6 y7 y8 y9 : Option V) (vs : List V), σ = [some (.ref l), some (.ref m), some (.ref lf), y3, y4, y5, y6, y7, y8, y9] ∧ Same H H' ∧ H' lf = some (.lst vs) ∧ ShL H' vs ((List.range i).map fun a => dotQ rs (axC ps a))) ⟨none, none, none, none, none, none, none, [], rfl, Same.new hlf, upd_same, ShL.nil _⟩ ?_ ?_
    · rintro ai σ H2 hai ⟨y3, y4, y5, y6, y7, y8, y9, vs, rfl, s2, h2, hV⟩
      walk_at "rd"
      have hR2 := hR.same s2
      have hP2 := hP.same s2
      have nlf : H lf = none := hlf
      refine ⟨l, m, rfl, ⟨_, SqL.of (s2 _ _ hl)⟩, ⟨_, SqL.of (s2 _ _ hm)⟩, for_plain2 (plain_zip (SqL.of (s2 _ _ hl)) (SqL.of (s2 _ _ hm))) (fun i σ H' => ∃ (top bot : Int) (y6 y7 y8 y9 : Option V), σ = [some (.ref l), some (.ref m), some (.ref lf), some (.int (0 + (ai : Int))), some (.int top), some (.int bot), y6, y7, y8, y9] ∧ Same H2 H' ∧ 0 < bot ∧ (top : Rat) = dotQ (rs.take i) ((axC ps ai).take i) * bot ∧ Sz (1 + i * (n1 + n2 + 1)) top ∧ Sz (1 + i * (n1 + n2 + 1)) bot) ⟨0, 1, y6, y7, y8, y9, rfl, L2.Same.refl _, by decide, by simp [dotQ], by rw [Nat.zero_mul]; exact ⟨by decide⟩, by rw [Nat.zero_mul]; exact ⟨by decide⟩⟩ (fun i σ H' ⟨_, _, _, _, _, _, _, s, _⟩ => s) ?_ ?_⟩
      · rintro i a σ H3 H4 hi ⟨top, bot, y6, y7, y8, y9, rfl, s3, b0, et, zt, zb⟩ s34 ha
        have hi2 : i < rs.length := by omega
        have er : rs[i]? = some (rs[i]'hi2) := List.getElem?_eq_getElem _
        have ep : ps[i]? = some (ps[i]'(by omega)) := List.getElem?_eq_getElem _
        have ec : (axC ps ai)[i]? = some ((axC ps ai)[i]'(by rw [axC_len]; omega)) := List.getElem?_eq_getElem _
        have hbr := br _ (List.mem_of_getElem? er)
        have hbp := bp _ (List.mem_of_getElem? ep)
        have s4 := s3.trans s34
        obtain ⟨vr, evr, ar, rfl, gr⟩ := (hR2.same s4).at er
        obtain ⟨vp, evp, ap, vx, vy, rfl, gp, gx, gy⟩ := (hP2.same s4).at ep
        rw [evr, evp] at ha
        have dq := dotQ_take er ec
        have cv : ∀ (H5 : Hp) (g : Addr), Same H4 H5 → H5 g = some (.tup [.int 1, .int 1]) → ∃ w aw, atI [vx, vy, V.ref g] (0 + (ai : Int)) = some w ∧ w = .ref aw ∧ H5 aw = some (.tup [.int ((axC ps ai)[i]'(by rw [axC_len]; omega)).num, .int (((axC ps ai)[i]'(by rw [axC_len]; omega)).den : Int)]) ∧ Bd n2 ((axC ps ai)[i]'(by rw [axC_len]; omega)) := by
          intro H5 g s5 hg
          match ai, hai, ec with
          | 0, _, ec =>
            obtain ⟨a1, rfl, q1⟩ := gx
            refine ⟨_, a1, rfl, rfl, ?_, ?_⟩
            · simp [axC]; exact s5 _ _ q1
            · simp [axC]; exact hbp.1
          | 1, _, ec =>
            obtain ⟨a1, rfl, q1⟩ := gy
            refine ⟨_, a1, rfl, rfl, ?_, ?_⟩
            · simp [axC]; exact s5 _ _ q1
            · simp [axC]; exact hbp.2
          | 2, _, ec =>
            refine ⟨_, g, rfl, rfl, ?_, ?_⟩
            · simp [axC]; exact hg
            · simp [axC]; exact Bd.one'.mono s21
        generalize (axC ps ai)[i]'(by rw [axC_len]; omega) = cc at *
        generalize rs[i]'hi2 = r at *
        refine ⟨a, _, rfl, ha, rfl, _, _, rfl, _, _, rfl, rfl, ?_⟩
        walk_at "rd"
        refine ⟨.ref ar, r, rfl, ⟨ar, rfl, gr⟩, ?_⟩
        walk_at "rd"
        have rn : 0 ≤ r.num := Rat.num_nonneg.mpr hbr.1
        refine ifF (by simpa using rn) ?_
        walk_at "rd"
        intro g1 hg1
        have u1 := Same.new (o := .tup [.int 1, .int 1]) hg1
        walk_at "rd"
        intro g2 hg2
        have u2 := Same.new (o := .tup [.ref g1]) hg2
        refine ⟨ap, g2, _, _, rfl, rfl, SqT.of (u2 _ _ (u1 _ _ gp)), SqT.of upd_same, by simp, by show 3 ≤ sizeLine; decide, fun z => (nomatch z), fun _ g3 hg3 => ?_⟩
        have u3 := Same.new (o := .tup ([vx, vy] ++ [.ref g1])) hg3
        have uA := (u1.trans u2).trans u3
        obtain ⟨w, aw, hw, rfl, gw, bw⟩ := cv _ g1 uA (u3 _ _ (u2 _ _ upd_same))
        have k3 := upd_same (H := upd (upd H4 g1 (.tup [.int 1, .int 1])) g2 (.tup [.ref g1])) (a := g3) (o := .tup ([vx, vy] ++ [.ref g1]))
        replace gr := uA _ _ gr
        replace s4 := s4.trans uA
        clear cv u1 u2 u3 hg1 hg2 hg3 uA ha
        generalize upd (upd (upd H4 g1 (.tup [.int 1, .int 1])) g2 (.tup [.ref g1])) g3 (.tup ([vx, vy] ++ [.ref g1])) = H5 at *
        walk_at "rd"
        have zr := Bd.num hbr.2
        have zrd := Bd.den hbr.2
        have zc := Bd.num bw
        have zcd := Bd.den bw
        have hml : i * (n1 + n2 + 1) ≤ 8900 := Nat.le_trans (Nat.mul_le_mul_right _ (Nat.le_of_lt hi2)) hz
        have zlow := Sz.mul zrd zcd
        have zrc := Sz.mul zr zc
        walk_at "rd"
        refine ⟨mulB zrd zcd (by omega), ?_⟩
        walk_at "rd"
        refine ⟨mulB zt zlow (by omega), ?_⟩
        walk_at "rd"
        refine ⟨mulB zr zc (by omega), ?_⟩
        walk_at "rd"
        refine ⟨mulB zrc zb (by omega), ?_⟩
        walk_at "rd"
        refine ⟨mulB zb zlow (by omega), ?_⟩
        have sm := Nat.succ_mul i (n1 + n2 + 1)
        have dl : (0 : Int) < (r.den : Int) * (cc.den : Int) := Int.mul_pos (by exact_mod_cast r.den_pos) (by exact_mod_cast cc.den_pos)
        refine ⟨_, _, _, _, _, _, rfl, s4, Int.mul_pos b0 dl, ?_, ?_, ?_⟩
        · rw [dq]; exact mean_step et rfl
        · exact (Sz.add (Sz.mul zt zlow) (Sz.mul zrc zb)).mono (by rw [Nat.succ_eq_add_one] at sm; omega)
        · exact (Sz.mul zb zlow).mono (by rw [Nat.succ_eq_add_one] at sm; omega)
      rintro σ H3 ⟨top, bot, y6, y7, y8, y9, rfl, s3, b0, et, zt, zb⟩
      have hmin : min vl.length ws.length = rs.length := by omega
      rw [hmin] at et zt zb
      rw [List.take_of_length_le (Nat.le_refl _), List.take_of_length_le (by rw [axC_len]; omega)] at et
      refine ⟨_, rfl, .inl ⟨rfl, _, SqL.of (s3 _ _ h2)⟩, ?_⟩
      walk_at "rd"
      refine ⟨top, bot, rfl, b0, zb.mono (by omega), fun v H4 s4 gv => ?_⟩
      have hv : Rat.divInt top bot = dotQ rs (axC ps ai) := by
        have nb : (bot : Rat) ≠ 0 := cast_ne b0
        have := dv_mul (x := top) b0
        rw [et] at this
        exact rat_cancel nb this
      rw [hv] at gv
      walk_at "rd"
      have h4 := s4 _ _ (s3 _ _ h2)
      have hvl := hV.len
      rw [List.length_map, List.length_range] at hvl
      refine ⟨lf, vs, v, rfl, rfl, h4, small_line (by omega), ?_⟩
      have tg : Tup H4 (upd H4 lf (.lst (vs ++ [v]))) := Tup.lst h4
      refine ⟨_, _, _, _, _, _, _, vs ++ [v], rfl, same_upd hlf ((s2.trans s3).trans s4), upd_same, ?_⟩
      rw [List.range_succ, List.map_append]
      exact ((((hV.same s3).same s4).tup tg).snoc (gv.tup tg))
    rintro σ H2 ⟨y3, y4, y5, y6, y7, y8, y9, vs, rfl, s2, h2, hV⟩
    walk_at "rd"
    have hvl := hV.len
    obtain ⟨u1, u2, u3, rfl⟩ := len3 (l := vs) (by rw [hvl]; rfl)
    refine k lf u1 u2 u3 H2 s2 hlf h2 (hV.get 0 _ _ rfl rfl) (hV.get 1 _ _ rfl rfl) ?_
    have := hV.get 2 u3 _ rfl rfl
    have e : dotQ rs (axC ps 2) = rs.sum := by
      show dotQ rs (List.replicate ps.length 1) = _
      rw [← hrp]; exact dotQ_ones rs
    rw [← e]; exact this
theorem ok_l_kind (F : FunAt K mg "_law_kind" s_l_kind ["_law_told", "_law_some", "_law_others"]) (B : Blt mg) {A_PLAIN_WAYS B1_PLAIN_WAYS B2_PLAIN_WAYS B3_PLAIN_WAYS B4_PLAIN_WAYS : Addr} (G : Cst K mg A_PLAIN_WAYS B1_PLAIN_WAYS B2_PLAIN_WAYS B3_PLAIN_WAYS B4_PLAIN_WAYS) (D_l_is_line : DefOk P w K mg base CX0 3 "_law_is_line" ["_law_told", "_law_some", "_law_others"] (spIsLine K)) (D_l_mean : DefOk P w K mg base CX0 3 "_law_mean" ["_law_parts", "_law_places"] (spLMean K)) : DefOk P w K mg base CX0 4 "_law_kind" ["_law_told", "_law_some", "_law_others"] (spKind K) := by
  refine def_okI F sc_l_kind (fun vs H Q E h => ?_) (fun f cdv A outer s H vs Q E hr h => ?_)
  · obtain ⟨c, l0, l1, w0, w1, ps, qs, rfl, _⟩ := h; rfl
  · obtain ⟨c, l0, l1, w0, w1, ps, qs, rfl, h0, hP, h1, hQ, kk⟩ := h
    have hu := hr.units
    refine ⟨_, (pss_consI (ps_ifI (PW_ptI (pw_orI (pt_notI (pt_valI (pe_callBI (call_isiK K) (by rfl) B.isinstance PyProof.Rows.boot_isinstance (pa_consI (pvI 0) (pa_consI (pe_bltnI (v := .ty "tuple") rfl B.tuple PyProof.Rows.boot_tuple rfl) pa_nilI))))) (pw_or1I (pt_cmpRI op_eq (pe_callBI (call_lenK K) (by rfl) B.len PySem.boot_len (pa_consI (pvI 0) pa_nilI)) pe_intI (nomark _))))) (pss_oneI (ps_retI pe_strI)) pss_nilI)
      (pss_consI (ps_ifI (PW_ptI (pw_andI (pt_cmpRI op_eq (pe_ixI (ix_tupK K) (pvI 0) pe_intI (fun _ _ => rfl)) pe_strI (nomark _)) (pw_andI (pt_cmpRI op_eq (pe_callBI (call_lenK K) (by rfl) B.len PySem.boot_len (pa_consI (pvI 0) pa_nilI)) pe_intI (nomark _)) (pw_and1I (pt_valI (pe_fnI D_l_is_line hr pass0 (pa_consI (pvI 0) (pa_consI (pvI 1) (pa_consI (pvI 2) pa_nilI))))))))) (pss_oneI (ps_retI pe_strI)) pss_nilI)
      (pss_consI (ps_ifI (PW_ptI (pw_andI (pt_cmpRI op_eq (pe_ixI (ix_tupK K) (pvI 0) pe_intI (fun _ _ => rfl)) pe_strI (nomark _)) (pw_and1I (pt_cmpRI op_eq (pe_callBI (call_lenK K) (by rfl) B.len PySem.boot_len (pa_consI (pvI 0) pa_nilI)) pe_intI (nomark _))))) (pss_consI (ps_setI (i := 3) sc_l_kind.nd rfl (by first | exact Or.inl rfl | exact Or.inr rfl) (pe_fnI D_l_mean hr pass0 (pa_consI (pe_ixI (ix_tupK K) (pvI 0) pe_intI (fun _ _ => rfl)) (pa_consI (pvI 1) pa_nilI))))
      (pss_oneI (ps_ifI (PW_ptI (pw_andI (pt_cmpRI op_notN (pvI 3) pe_nonI (nomark _)) (pw_andI (pt_cmpRI (op_eqDK K hu) (pvI 3) (pe_fnI D_l_mean hr pass0 (pa_consI (pe_ixI (ix_tupK K) (pvI 0) pe_intI (fun _ _ => rfl)) (pa_consI (pvI 2) pa_nilI))) (nomark _)) (pw_and1I (pt_cmpRI (op_eqDK K hu) (pe_ixI (ix_listK K) (pvI 3) pe_intI (fun _ _ => rfl)) (pe_tupI (pa_consI pe_intI (pa_consI pe_intI pa_nilI))) (nomark _)))))) (pss_oneI (ps_retI pe_strI)) pss_nilI))) pss_nilI)
      (pss_oneI (ps_retI pe_strI))))), ?_⟩
    rcases kk with ⟨hL, bp, bq, k⟩ | ⟨s1, s2, d1, d2, hC, bp, bq, z1, y1, y2, z2, z3, k⟩
    · obtain ⟨v1, v2, v3, q1, q2, q3, hc, hr⟩ := id hL
      walk_at "rd"
      refine ⟨c, l0, l1, w0, w1, ps, qs, rfl, hL, h0, hP, h1, hQ, bp, bq, fun H2 s2 => ?_⟩
      walk_at "rd"
      exact k _ s2
    · obtain ⟨v1, v2, r1, r2, hc, g1, g2, S1, S2, br1, br2, mq⟩ := id hC
      walk_at "rd"
      refine ⟨d1, l0, v1, w0, r1, ps, s1, s2, rfl, g1, S1, h0, hP, mq.l1, fun r hr => ⟨mq.n1 r hr, br1 r hr⟩, bp, z1, by rw [mq.l1]; exact y1, z2, z3, fun e1 u1 u2 u3 H2 t2 hn1 he1 a1 a2 a3 => ?_⟩
      have hc2 := t2 _ _ hc
      walk_at "rd"
      refine ⟨d2, l1, v2, w1, r2, qs, s1, s2, rfl, t2 _ _ g2, S2.same t2, t2 _ _ h1, hQ.same t2, mq.l2, fun r hr => ⟨mq.n2 r hr, br2 r hr⟩, bq, z1, by rw [mq.l2]; exact y2, z2, z3, fun e2 w1' w2' w3' H3 t3 hn2 he2 b1 b2 b3 => ?_⟩
      rw [← mq.ex] at b1
      rw [← mq.ey] at b2
      rw [mq.o2] at b3
      rw [mq.o1] at a3
      have he1' := t3 _ _ he1
      have L1 : ShL H3 [u1, u2, u3] [dotQ r1 (ps.map (·.1)), dotQ r1 (ps.map (·.2)), 1] := shl3 (a1.same t3) (a2.same t3) (a3.same t3)
      have L2' : ShL H3 [w1', w2', w3'] [dotQ r1 (ps.map (·.1)), dotQ r1 (ps.map (·.2)), 1] := shl3 b1 b2 b3
      refine ⟨_, _, L1.dn (SqL.of he1'), L2'.dn (SqL.of he2), datShs_ok _ 6, datShs_ok _ 6, fun b0 hb0 => ?_⟩
      obtain rfl := hb0.mpr rfl
      walk_at "rd"
      intro g hg
      have ug := Same.new (o := .tup [.int 1, .int 1]) hg
      have go : ShV (upd H3 g (.tup [.int 1, .int 1])) (.ref g) 1 := ⟨g, rfl, upd_same⟩
      refine ⟨_, _, ((a3.same t3).same ug).dn, go.dn, datSh_ok 1 6, datSh_ok 1 6, fun b1 hb1 => ?_⟩
      obtain rfl := hb1.mpr rfl
      walk_at "rd"
      exact k _ ((t2.trans t3).trans ug)
theorem ok_l_less (F : FunAt K mg "_law_less" s_l_less ["_law_one", "_law_other"]) (B : Blt mg) {A_PLAIN_WAYS B1_PLAIN_WAYS B2_PLAIN_WAYS B3_PLAIN_WAYS B4_PLAIN_WAYS : Addr} (G : Cst K mg A_PLAIN_WAYS B1_PLAIN_WAYS B2_PLAIN_WAYS B3_PLAIN_WAYS B4_PLAIN_WAYS) (D_l_share : DefOk P w K mg base CX0 2 "_law_share" ["_law_top", "_law_bottom"] spLShare) : DefOk P w K mg base CX0 3 "_law_less" ["_law_one", "_law_other"] spLLess := by
  refine def_okI F sc_l_less (fun vs H Q E h => ?_) (fun f cdv A outer s H vs Q E hr h => ?_)
  · obtain ⟨u, v, p, q, rfl, _⟩ := h; rfl
  · obtain ⟨_, _, p, q, rfl, ⟨a, rfl, ha⟩, ⟨b, rfl, hb⟩, bp, bq, k⟩ := h
    have hu := hr.units
    refine ⟨_, (pss_oneI (ps_retI (pe_fnI D_l_share hr pass0 (pa_consI (pe_opI op_sub (pe_opI op_mulA (pe_ixI (ix_tupK K) (pvI 0) pe_intI (fun _ _ => rfl)) (pe_ixI (ix_tupK K) (pvI 1) pe_intI (fun _ _ => rfl))) (pe_opI op_mulA (pe_ixI (ix_tupK K) (pvI 1) pe_intI (fun _ _ => rfl)) (pe_ixI (ix_tupK K) (pvI 0) pe_intI (fun _ _ => rfl)))) (pa_consI (pe_opI op_mulA (pe_ixI (ix_tupK K) (pvI 0) pe_intI (fun _ _ => rfl)) (pe_ixI (ix_tupK K) (pvI 1) pe_intI (fun _ _ => rfl))) pa_nilI))))), ?_⟩
    have hd := Int.mul_pos (show (0 : Int) < p.den by exact_mod_cast p.den_pos) (show (0 : Int) < q.den by exact_mod_cast q.den_pos)
    walk_at "rd"
    refine ⟨_, _, rfl, hd, (Sz.mul (Bd.den bp) (Bd.den bq)).mono (by decide), fun v H1 s1 hv => ?_⟩
    refine k v H1 s1 ?_
    rw [sub_eq] at hv
    exact hv
theorem ok_l_moved (F : FunAt K mg "_law_moved" s_l_moved ["_law_places", "_law_x", "_law_y"]) (B : Blt mg) {A_PLAIN_WAYS B1_PLAIN_WAYS B2_PLAIN_WAYS B3_PLAIN_WAYS B4_PLAIN_WAYS : Addr} (G : Cst K mg A_PLAIN_WAYS B1_PLAIN_WAYS B2_PLAIN_WAYS B3_PLAIN_WAYS B4_PLAIN_WAYS) (D_l_share : DefOk P w K mg base CX0 2 "_law_share" ["_law_top", "_law_bottom"] spLShare) : DefOk P w K mg base CX0 3 "_law_moved" ["_law_places", "_law_x", "_law_y"] (spMoved K) := by
  refine def_okI F sc_l_moved (fun vs H Q E h => ?_) (fun f cdv A outer s H vs Q E hr h => ?_)
  · obtain ⟨l, vx, vy, ws, ps, x, y, rfl, _⟩ := h; rfl
  · obtain ⟨l, _, _, ws, ps, x, y, rfl, hl, hP, ⟨ax, rfl, hx⟩, ⟨ay, rfl, hy⟩, bx, by_, bp, hn, k⟩ := h
    have hu := hr.units
    refine ⟨_, (pss_consI (ps_setI (i := 3) sc_l_moved.nd rfl (by first | exact Or.inl rfl | exact Or.inr rfl) (pe_lstI pa_nilI))
      (pss_consI (ps_forI PassesOwn.never rfl (pi_listKI K (pvI 0)) (pg_nameI (i := 4) sc_l_moved.nd rfl (by first | exact Or.inl rfl | exact Or.inr rfl))
      (pss_consI (ps_setI (i := 5) sc_l_moved.nd rfl (by first | exact Or.inl rfl | exact Or.inr rfl) (pe_fnI D_l_share hr pass0 (pa_consI (pe_opI op_add (pe_opI op_mulA (pe_ixI (ix_tupK K) (pe_ixI (ix_tupK K) (pvI 4) pe_intI (fun _ _ => rfl)) pe_intI (fun _ _ => rfl)) (pe_ixI (ix_tupK K) (pvI 1) pe_intI (fun _ _ => rfl))) (pe_opI op_mulA (pe_ixI (ix_tupK K) (pvI 1) pe_intI (fun _ _ => rfl)) (pe_ixI (ix_tupK K) (pe_ixI (ix_tupK K) (pvI 4) pe_intI (fun _ _ => rfl)) pe_intI (fun _ _ => rfl)))) (pa_consI (pe_opI op_mulA (pe_ixI (ix_tupK K) (pe_ixI (ix_tupK K) (pvI 4) pe_intI (fun _ _ => rfl)) pe_intI (fun _ _ => rfl)) (pe_ixI (ix_tupK K) (pvI 1) pe_intI (fun _ _ => rfl))) pa_nilI))))
      (pss_consI (ps_setI (i := 6) sc_l_moved.nd rfl (by first | exact Or.inl rfl | exact Or.inr rfl) (pe_fnI D_l_share hr pass0 (pa_consI (pe_opI op_add (pe_opI op_mulA (pe_ixI (ix_tupK K) (pe_ixI (ix_tupK K) (pvI 4) pe_intI (fun _ _ => rfl)) pe_intI (fun _ _ => rfl)) (pe_ixI (ix_tupK K) (pvI 2) pe_intI (fun _ _ => rfl))) (pe_opI op_mulA (pe_ixI (ix_tupK K) (pvI 2) pe_intI (fun _ _ => rfl)) (pe_ixI (ix_tupK K) (pe_ixI (ix_tupK K) (pvI 4) pe_intI (fun _ _ => rfl)) pe_intI (fun _ _ => rfl)))) (pa_consI (pe_opI op_mulA (pe_ixI (ix_tupK K) (pe_ixI (ix_tupK K) (pvI 4) pe_intI (fun _ _ => rfl)) pe_intI (fun _ _ => rfl)) (pe_ixI (ix_tupK K) (pvI 2) pe_intI (fun _ _ => rfl))) pa_nilI))))
      (pss_oneI (ps_exprI (show PEi _ _ (tBM K _ _ _ _) from (pe_bmI PySem.F.plainAttrs_list PySem.F.slot_list_append PySem.F.type_list_append mt_append (pvI 3) (pa_consI (pe_tupI (pa_consI (pvI 5) (pa_consI (pvI 6) pa_nilI))) pa_nilI))))))))
      (pss_oneI (ps_retI (pvI 3))))), ?_⟩
    have hwl := hP.len
    walk_at "rd"
    intro lf hlf
    have sf := Same.new (o := .lst []) hlf
    walk_at "rd"
    refine ⟨⟨_, SqL.of (sf _ _ hl)⟩, for_list (xs := ws) (fun i σ H' => ∃ (y4 y5 y6 : Option V) (us : List V), σ = [some (.ref l), some (.ref ax), some (.ref ay), some (.ref lf), y4, y5, y6] ∧ Same H H' ∧ H' lf = some (.lst us) ∧ PtsV H' us (mvP x y (ps.take i))) ⟨none, none, none, [], rfl, sf, upd_same, PtsV.nil _⟩ (fun i σ H' _ ⟨_, _, _, _, _, s, _⟩ => SqL.of (s _ _ hl)) ?_ ?_⟩
    · rintro i v σ H2 hv ⟨y4, y5, y6, us, rfl, s2, h2, hU⟩
      obtain ⟨p, ep, ap, vx, vy, rfl, gp, ⟨a1, rfl, g1⟩, ⟨a2, rfl, g2⟩⟩ := (hP.same s2).atV hv
      have hpm := List.mem_of_getElem? ep
      obtain ⟨b1, b2⟩ := bp p hpm
      have hi : i < ps.length := (List.getElem?_eq_some_iff.mp ep).1
      have hx2 := s2 _ _ hx
      have hy2 := s2 _ _ hy
      have d1 := Int.mul_pos (show (0 : Int) < p.1.den by exact_mod_cast p.1.den_pos) (show (0 : Int) < x.den by exact_mod_cast x.den_pos)
      have d2 := Int.mul_pos (show (0 : Int) < p.2.den by exact_mod_cast p.2.den_pos) (show (0 : Int) < y.den by exact_mod_cast y.den_pos)
      walk_at "rd"
      refine ⟨_, _, rfl, d1, (Sz.mul (Bd.den b1) (Bd.den bx)).mono (by decide), fun v1 H3 s3 hv1 => ?_⟩
      rw [add_eq] at hv1
      replace gp := s3 _ _ gp
      replace g1 := s3 _ _ g1
      replace g2 := s3 _ _ g2
      replace hy2 := s3 _ _ hy2
      walk_at "rd"
      refine ⟨_, _, rfl, d2, (Sz.mul (Bd.den b2) (Bd.den by_)).mono (by decide), fun v2 H4 s4 hv2 => ?_⟩
      rw [add_eq] at hv2
      replace hv1 := hv1.same s4
      have h4 := s4 _ _ (s3 _ _ h2)
      walk_at "rd"
      refine ⟨.inl ⟨rfl, _, SqL.of h4⟩, ?_⟩
      walk_at "rd"
      intro t ht
      have st := Same.new (o := .tup [v1, v2]) ht
      have hul := hU.len
      unfold mvP at hul
      rw [List.length_map, List.length_take] at hul
      refine ⟨lf, us, _, rfl, rfl, st _ _ h4, small_line (by omega), ?_⟩
      have tg : Tup (upd H4 t (.tup [v1, v2])) (upd (upd H4 t (.tup [v1, v2])) lf (.lst (us ++ [.ref t]))) := Tup.lst (st _ _ h4)
      refine ⟨_, _, _, us ++ [.ref t], rfl, same_upd hlf (((s2.trans s3).trans s4).trans st), upd_same, ?_⟩
      have e : mvP x y (ps.take (i + 1)) = mvP x y (ps.take i) ++ [(p.1 + x, p.2 + y)] := by
        unfold mvP
        rw [List.take_add_one, ep, List.map_append]; rfl
      rw [e]
      exact ((((hU.same s3).same s4).same st).tup tg).snoc (PtV.tup ⟨t, v1, v2, rfl, upd_same, hv1.same st, hv2.same st⟩ tg)
    rintro σ H2 ⟨y4, y5, y6, us, rfl, s2, h2, hU⟩
    walk_at "rd"
    rw [hwl, List.take_of_length_le (Nat.le_refl _)] at hU
    exact k lf us H2 s2 hlf h2 hU
theorem ok_l_meeting (F : FunAt K mg "_law_meeting" s_l_meeting ["_law_some", "_law_others", "_law_s"]) (B : Blt mg) {A_PLAIN_WAYS B1_PLAIN_WAYS B2_PLAIN_WAYS B3_PLAIN_WAYS B4_PLAIN_WAYS : Addr} (G : Cst K mg A_PLAIN_WAYS B1_PLAIN_WAYS B2_PLAIN_WAYS B3_PLAIN_WAYS B4_PLAIN_WAYS) (D_l_share : DefOk P w K mg base CX0 2 "_law_share" ["_law_top", "_law_bottom"] spLShare) (D_l_mean : DefOk P w K mg base CX0 3 "_law_mean" ["_law_parts", "_law_places"] (spLMean K)) (D_l_less : DefOk P w K mg base CX0 3 "_law_less" ["_law_one", "_law_other"] spLLess) (D_l_moved : DefOk P w K mg base CX0 3 "_law_moved" ["_law_places", "_law_x", "_law_y"] (spMoved K)) : DefOk P w K mg base CX0 4 "_law_meeting" ["_law_some", "_law_others", "_law_s"] (spMeeting K) := by
  refine def_okI F sc_l_meeting (fun vs H Q E h => ?_) (fun f cdv A outer s H vs Q E hr h => ?_)
  · obtain ⟨l0, l1, ls, w0, w1, p0, p1, BB, xs, rfl, _⟩ := h; rfl
  · obtain ⟨l0, l1, ls, w0, w1, p0, p1, BB, xs, rfl, T, k⟩ := h
    have hu := hr.units
    refine ⟨_, (pss_consI (ps_setI (i := 3) sc_l_meeting.nd rfl (by first | exact Or.inl rfl | exact Or.inr rfl) (pe_compSI (os := ["_law_k"]) (caps := [(2, "_law_s")]) ["_law_some", "_law_others", "_law_s", "_law_parts", "_law_mean_here", "_law_place"] (defScope s_l_meeting) (pi_range1I rfl B.range (pa_consI (pe_callBI (call_lenK K) (by rfl) B.len PySem.boot_len (pa_consI (pvI 0) pa_nilI)) pa_nilI)) (fun _ _ _ _ _ => (pg_nameI (i := 0) (show List.Nodup (["_law_k", "_law_s"] : List Str) from by decide +kernel) rfl (by first | exact Or.inl rfl | exact Or.inr rfl))) (fun _ _ _ _ _ => (pe_ixI (ix_listK K) (pe_lstI (pa_consI pe_intI (pa_consI pe_intI (pa_consI pe_intI (pa_consI pe_intI (pa_consI pe_intI (pa_consI pe_intI pa_nilI))))))) (pe_opI op_mod (pe_ixI (ix_listK K) (pvI 1) (pvI 0) (fun _ _ => rfl)) pe_intI) (fun _ _ => rfl))) (by decide +kernel)))
      (pss_consI (ps_ifI (pt_cmpRI op_eq (pe_callBI (call_sumL rfl) (by rfl) B.sum PyProof.Rows.boot_sum (pa_consI (pvI 3) pa_nilI)) pe_intI (nomark _)) (pss_oneI (ps_asgI pe_intI (pg_subI (pvI 3) (pe_opI op_mod (pe_ixI (ix_listK K) (pvI 2) pe_intI (fun _ _ => rfl)) (pe_callBI (call_lenK K) (by rfl) B.len PySem.boot_len (pa_consI (pvI 3) pa_nilI))) set_list))) pss_nilI)
      (pss_consI (ps_setI (i := 4) sc_l_meeting.nd rfl (by first | exact Or.inl rfl | exact Or.inr rfl) (pe_fnI D_l_mean hr pass0 (pa_consI (pe_compSI (os := ["_law_part_here"]) (caps := [(3, "_law_parts")]) ["_law_some", "_law_others", "_law_s", "_law_parts", "_law_mean_here", "_law_place"] (defScope s_l_meeting) (pi_listKI K (pvI 3)) (fun _ _ _ _ _ => (pg_nameI (i := 0) (show List.Nodup (["_law_part_here", "_law_parts"] : List Str) from by decide +kernel) rfl (by first | exact Or.inl rfl | exact Or.inr rfl))) (fun _ _ _ _ _ => (pe_fnI D_l_share hr pass0 (pa_consI (pvI 0) (pa_consI (pe_callBI (call_sumLK K rfl) (by rfl) B.sum PyProof.Rows.boot_sum (pa_consI (pvI 1) pa_nilI)) pa_nilI)))) (by decide +kernel)) (pa_consI (pvI 0) pa_nilI))))
      (pss_consI (ps_setI (i := 5) sc_l_meeting.nd rfl (by first | exact Or.inl rfl | exact Or.inr rfl) (pe_ixI (ix_listK K) (pvI 1) (pe_opI op_mod (pe_ixI (ix_listK K) (pvI 2) pe_intI (fun _ _ => rfl)) (pe_callBI (call_lenK K) (by rfl) B.len PySem.boot_len (pa_consI (pvI 1) pa_nilI))) (fun _ _ => rfl)))
      (pss_oneI (ps_retI (pe_fnI D_l_moved hr pass0 (pa_consI (pvI 1) (pa_consI (pe_fnI D_l_less hr pass0 (pa_consI (pe_ixI (ix_listK K) (pvI 4) pe_intI (fun _ _ => rfl)) (pa_consI (pe_ixI (ix_tupK K) (pvI 5) pe_intI (fun _ _ => rfl)) pa_nilI))) (pa_consI (pe_fnI D_l_less hr pass0 (pa_consI (pe_ixI (ix_listK K) (pvI 4) pe_intI (fun _ _ => rfl)) (pa_consI (pe_ixI (ix_tupK K) (pvI 5) pe_intI (fun _ _ => rfl)) pa_nilI))) pa_nilI)))))))))), ?_⟩
    have hwl := T.P.len
    have hul := T.Q.len
    have t1 := T.a1
    have t8 := T.p8
    have t2 := T.q1
    have t9 := T.q8
    have xl := T.xl
    have nn : ∀ j : Nat, 0 ≤ xs.getD j 0 := fun j => getD_nn T.xn j
    have hA := T.a
    have hS := T.s
    walk_at "rd"
    refine ⟨by omega, by omega, comp1 (plain_range 0 ((w0.length : Int)).toNat _) (by omega) (fun i v H => ∃ m : Int, v = .int m ∧ (0 ≤ m ∧ m ≤ 5)) (fun _ _ _ _ tt h => h) (fun i H2 kk hi s2 hk => ?_) (fun lp yp H2 hlp0 s2 hlp hyl hr => ?_)⟩
    · have hS2 := s2 _ _ hS
      walk_at "rd"
      intro g hg
      have sg := Same.new (o := .lst ([0, 0, 1, 2, 0, 5].map V.int)) hg
      have hS3 : SqL K (upd H2 g (.lst ([0, 0, 1, 2, 0, 5].map V.int))) ls (xs.map V.int) := SqL.of (sg _ _ hS2)
      have n0 := nn (0 + (i : Int)).toNat
      walk_at "rd"
      obtain ⟨m, hm, m0, m5⟩ := tab [0, 0, 1, 2, 0, 5] 0 5 (xs.getD (0 + (i : Int)).toNat 0 % 6) (by decide) (by omega) (by show _ < (6 : Int); omega)
      refine ⟨g, _, _, _, rfl, rfl, SqL.of upd_same, hm, ?_⟩
      exact hk _ _ sg ⟨m, rfl, m0, m5⟩
    obtain ⟨ms0, rfl, hm0⟩ := ints_ex hr
    rw [List.length_map] at hyl
    have hms0 : ms0.length = p0.length := by omega
    have T2 := T.same s2
    clear hr hA hS
    have hA := T2.a
    have hS := T2.s
    walk_at "rd"
    refine ⟨lp, ms0, rfl, SqL.of hlp, ?_⟩
    walk_at "rd"
    refine if_mergeN (fun σ' H' => ∃ ms : List Int, σ' = [some (.ref l0), some (.ref l1), some (.ref ls), some (.ref lp), none, none] ∧ Same H H' ∧ H' lp = some (.lst (ms.map V.int)) ∧ ms.length = p0.length ∧ (∀ m ∈ ms, 0 ≤ m ∧ m ≤ 5) ∧ 0 < ms.sum) ?_ ?_ ?_
    · rintro σ' H3 ⟨ms, rfl, s3, h3, hml, hmb, hmp⟩
      have T3 := T.same s3
      have sb := sum_bnd ms hmb
      have hA3 := T3.a
      have hB3 := T3.b
      have hS3 : SqL K H3 ls (xs.map V.int) := SqL.of T3.s
      have zS : Sz 6 ms.sum := ⟨by show ms.sum.natAbs < 64; omega⟩
      walk_at "rd"
      refine ⟨⟨_, SqL.of h3⟩, comp1 (plain_list (SqL.of h3)) (by rw [List.length_map]; omega) (fun i v H => ∀ m, ms[i]? = some m → ShV H v (Rat.divInt m ms.sum)) (fun _ _ _ _ tt h m e => (h m e).tup tt) (fun i H9 kk hi s9 hk => ?_) (fun c1 yc1 H9 hc10 s9 hc1 hy1 hr1 => ?_)⟩
      · rw [List.length_map] at hi
        have em : ms[i]? = some (ms[i]'hi) := List.getElem?_eq_getElem _
        rw [int_at em]
        have h9 := s9 _ _ h3
        walk_at "rd"
        refine ⟨lp, ms, rfl, SqL.of h9, ?_⟩
        refine ⟨_, _, rfl, hmp, zS.mono (by decide), fun v H10 s10 hv => ?_⟩
        refine hk _ _ s10 fun m e => ?_
        rw [em] at e; cases e
        exact hv
      rw [List.length_map] at hy1
      have S1 : ShL H9 yc1 (ms.map fun m => Rat.divInt m ms.sum) := shl_ints hy1 hr1
      have T9 := T3.same s9
      have zB : Sz 2 BB := ⟨by have := T.B1; have := T.B3; show BB.natAbs < 4; omega⟩
      have hB0 : 0 < BB := by have := T.B1; omega
      have bdp : ∀ ps : List Pt, (∀ p ∈ ps, OvP BB 110 p) → ∀ p ∈ ps, Bd 110 p.1 ∧ Bd 110 p.2 := fun ps o p hp => ovp_bd4 hB0 zB (o p hp) 110 (by decide) (by decide)
      have hA9 := T9.a
      have hB9 := T9.b
      have hS9 : SqL K H9 ls (xs.map V.int) := SqL.of T9.s
      walk_at "rd"
      refine ⟨c1, l0, yc1, w0, _, p0, 6, 110, rfl, hc1, S1, T9.a, T9.P, by rw [List.length_map]; exact hml, fun r hr => ?_, bdp p0 T.oP, by decide, ?_, by decide, by decide, fun d u1 u2 u3 H10 s10 hd0 hd g1 g2 g3 => ?_⟩
      · obtain ⟨m, h1, rfl⟩ := List.mem_map.mp hr
        refine ⟨?_, (Bd.of (n := 3) ⟨by have := hmb m h1; show m.natAbs < 8; omega⟩ zS (by omega)).mono (by decide)⟩
        have := div_le hmp (hmb m h1).1
        rw [Rat.zero_divInt] at this
        exact this
      · rw [List.length_map]
        exact Nat.le_trans (Nat.mul_le_mul_right _ (show ms.length ≤ 8 by omega)) (by decide)
      have T10 := T9.same s10
      have hB10 := T10.b
      have hS10 : SqL K H10 ls (xs.map V.int) := SqL.of T10.s
      have n10 := nn 10
      walk_at "rd"
      have i0 := Int.emod_nonneg (xs.getD (Int.toNat 10) 0) (b := (w1.length : Int)) (by omega)
      have i1 := Int.emod_lt_of_pos (xs.getD (Int.toNat 10) 0) (b := (w1.length : Int)) (by omega)
      refine ⟨by omega, ?_⟩
      obtain ⟨kx, hkx⟩ := Int.eq_ofNat_of_zero_le i0
      have ek : p1[kx]? = some (p1[kx]'(by omega)) := List.getElem?_eq_getElem _
      obtain ⟨vq, evq, gq⟩ := T10.Q.at ek
      refine ⟨l1, _, _, vq, rfl, rfl, SqL.of hB10, by rw [hkx]; exact atI_nat' (j := kx) rfl evq, ?_⟩
      obtain ⟨bo, me⟩ := meet_both T.B1 T.B3 T.oP T.oQ hml t8 hmb hmp ek
      have hqB := bdp p1 T.oQ _ (List.mem_of_getElem? ek)
      generalize p1[kx]'(by omega) = q at *
      obtain ⟨aq, vqx, vqy, rfl, hq, gqx, gqy⟩ := gq
      have bm : ∀ (f : Pt → Rat), (∀ p ∈ p0, Ov BB 110 (f p)) → Bd 200 (dotQ (ms.map fun m => Rat.divInt m ms.sum) (p0.map f)) := fun f hf => by
        have : Ov (BB * ms.sum) 122 (dotQ (ms.map fun m => Rat.divInt m ms.sum) (p0.map f)) := by
          refine Ov.over ?_
          rw [dotQ_div hmp]
          exact (dotR_ov ms (p0.map f) (by rw [List.length_map]; exact hml) (fun m h => ⟨by have := hmb m h; show m.natAbs < 8; omega⟩) fun c hc => by obtain ⟨p, hp, rfl⟩ := List.mem_map.mp hc; exact hf p hp).mono (by omega)
        exact ov_bd4 (Int.mul_pos hB0 hmp) (Sz.mul zB zS) this 200 (by decide) (by decide)
      have bm1 := bm (·.1) fun p hp => (T.oP p hp).1
      have bm2 := bm (·.2) fun p hp => (T.oP p hp).2
      generalize dotQ (ms.map fun m => Rat.divInt m ms.sum) (p0.map (·.1)) = mx at *
      generalize dotQ (ms.map fun m => Rat.divInt m ms.sum) (p0.map (·.2)) = my at *
      walk_at "rd"
      refine ⟨_, _, mx, q.1, rfl, g1, gqx, bm1.mono (by decide), hqB.1.mono (by decide), fun vx H11 s11 gx => ?_⟩
      have hd11 := s11 _ _ hd
      have hq11 := s11 _ _ hq
      walk_at "rd"
      refine ⟨_, _, my, q.2, rfl, g2.same s11, gqy.same s11, bm2.mono (by decide), hqB.2.mono (by decide), fun vy H12 s12 gy => ?_⟩
      have sA := ((s3.trans s9).trans s10).trans (s11.trans s12)
      have T12 := T10.same (s11.trans s12)
      walk_at "rd"
      refine ⟨l1, vx, vy, w1, p1, mx - q.1, my - q.2, rfl, T12.b, T12.Q, gx.same s12, gy, (Bd.sub bm1 hqB.1).mono (by decide), (Bd.sub bm2 hqB.2).mono (by decide), fun p hp => ?_, by omega, fun d2 us H13 s13 hd2 hd2' hU => ?_⟩
      · exact ⟨((bdp p1 T.oQ p hp).1).mono (by decide), ((bdp p1 T.oQ p hp).2).mono (by decide)⟩
      exact k d2 us H13 _ _ _ _ _ (sA.trans s13) (sA.free hd2) hd2' hU bo me
    · intro N hN hz
      have n9 := nn 9
      have hS9 : SqL K H2 ls (xs.map V.int) := SqL.of hS
      walk_at "rd"
      rw [List.length_map]
      refine ⟨by omega, ?_⟩
      have i0 := Int.emod_nonneg (xs.getD (Int.toNat 9) 0) (b := (ms0.length : Int)) (by omega)
      have i1 := Int.emod_lt_of_pos (xs.getD (Int.toNat 9) 0) (b := (ms0.length : Int)) (by omega)
      obtain ⟨kx, hkx⟩ := Int.eq_ofNat_of_zero_le i0
      refine ⟨lp, _, _, kx, rfl, rfl, hlp, (ixN_of i0 (by rw [List.length_map]; exact i1)).trans (by rw [hkx]; rfl), ?_⟩
      obtain ⟨h1, h2⟩ := set_pos ms0 kx (by omega) hm0
      exact hN _ _ ⟨ms0.set kx 3, rfl, same_upd hlp0 s2, by rw [upd_same, List.map_set], by rw [List.length_set]; exact hms0, h1, h2⟩
    · intro hz
      refine ⟨ms0, rfl, s2, hlp, hms0, hm0, ?_⟩
      have := (sum_bnd ms0 hm0).1
      simp at hz
      omega
theorem ok_l_by_way (F : FunAt K mg "_law_by_way" s_l_by_way ["_law_way", "_law_place"]) (B : Blt mg) {A_PLAIN_WAYS B1_PLAIN_WAYS B2_PLAIN_WAYS B3_PLAIN_WAYS B4_PLAIN_WAYS : Addr} (G : Cst K mg A_PLAIN_WAYS B1_PLAIN_WAYS B2_PLAIN_WAYS B3_PLAIN_WAYS B4_PLAIN_WAYS) (D_l_share : DefOk P w K mg base CX0 2 "_law_share" ["_law_top", "_law_bottom"] spLShare) : DefOk P w K mg base CX0 3 "_law_by_way" ["_law_way", "_law_place"] spByWay := by
  refine def_okI F sc_l_by_way (fun vs H Q E h => ?_) (fun f cdv A outer s H vs Q E hr h => ?_)
  · obtain ⟨t, v, a, b, x, y, rfl, _⟩ := h; rfl
  · obtain ⟨t, _, a, b, x, y, rfl, ht, ⟨ap, _, _, rfl, hp, ⟨ax, rfl, hx⟩, ⟨ay, rfl, hy⟩⟩, za, zb, bx, by_, k⟩ := h
    have hu := hr.units
    refine ⟨_, (pss_consI (ps_setI (i := 2) sc_l_by_way.nd rfl (by first | exact Or.inl rfl | exact Or.inr rfl) (pe_opI op_add (pe_opI op_mulA (pe_opI op_mulA (pe_ixI (ix_tupK K) (pvI 0) pe_intI (fun _ _ => rfl)) (pe_ixI (ix_tupK K) (pe_ixI (ix_tupK K) (pvI 1) pe_intI (fun _ _ => rfl)) pe_intI (fun _ _ => rfl))) (pe_ixI (ix_tupK K) (pe_ixI (ix_tupK K) (pvI 1) pe_intI (fun _ _ => rfl)) pe_intI (fun _ _ => rfl))) (pe_opI op_mulA (pe_opI op_mulA (pe_ixI (ix_tupK K) (pvI 0) pe_intI (fun _ _ => rfl)) (pe_ixI (ix_tupK K) (pe_ixI (ix_tupK K) (pvI 1) pe_intI (fun _ _ => rfl)) pe_intI (fun _ _ => rfl))) (pe_ixI (ix_tupK K) (pe_ixI (ix_tupK K) (pvI 1) pe_intI (fun _ _ => rfl)) pe_intI (fun _ _ => rfl)))))
      (pss_oneI (ps_retI (pe_fnI D_l_share hr pass0 (pa_consI (pvI 2) (pa_consI (pe_opI op_mulA (pe_ixI (ix_tupK K) (pe_ixI (ix_tupK K) (pvI 1) pe_intI (fun _ _ => rfl)) pe_intI (fun _ _ => rfl)) (pe_ixI (ix_tupK K) (pe_ixI (ix_tupK K) (pvI 1) pe_intI (fun _ _ => rfl)) pe_intI (fun _ _ => rfl))) pa_nilI)))))), ?_⟩
    have hd := Int.mul_pos (show (0 : Int) < x.den by exact_mod_cast x.den_pos) (show (0 : Int) < y.den by exact_mod_cast y.den_pos)
    walk_at "rd"
    refine ⟨_, _, rfl, hd, (Sz.mul (Bd.den bx) (Bd.den by_)).mono (by decide), fun v H1 s1 hv => ?_⟩
    refine k v H1 s1 ?_
    rw [by_way_eq] at hv
    exact hv
theorem ok_l_parted (F : FunAt K mg "_law_parted" s_l_parted ["_law_some", "_law_others", "_law_s"]) (B : Blt mg) {A_PLAIN_WAYS B1_PLAIN_WAYS B2_PLAIN_WAYS B3_PLAIN_WAYS B4_PLAIN_WAYS : Addr} (G : Cst K mg A_PLAIN_WAYS B1_PLAIN_WAYS B2_PLAIN_WAYS B3_PLAIN_WAYS B4_PLAIN_WAYS) (D_l_share : DefOk P w K mg base CX0 2 "_law_share" ["_law_top", "_law_bottom"] spLShare) (D_l_less : DefOk P w K mg base CX0 3 "_law_less" ["_law_one", "_law_other"] spLLess) (D_l_moved : DefOk P w K mg base CX0 3 "_law_moved" ["_law_places", "_law_x", "_law_y"] (spMoved K)) (D_l_by_way : DefOk P w K mg base CX0 3 "_law_by_way" ["_law_way", "_law_place"] spByWay) : DefOk P w K mg base CX0 4 "_law_parted" ["_law_some", "_law_others", "_law_s"] (spLPart K) := by
  refine def_okI F sc_l_parted (fun vs H Q E h => ?_) (fun f cdv A outer s H vs Q E hr h => ?_)
  · obtain ⟨l0, l1, ls, w0, w1, p0, p1, BB, xs, rfl, _⟩ := h; rfl
  · obtain ⟨l0, l1, ls, w0, w1, p0, p1, BB, xs, rfl, T, k⟩ := h
    have hu := hr.units
    refine ⟨_, (pss_consI (ps_setI (i := 3) sc_l_parted.nd rfl (by first | exact Or.inl rfl | exact Or.inr rfl) (pe_ixI (ix_listK K) (pe_lstI (pa_consI (pe_tupI (pa_consI pe_intI (pa_consI pe_intI pa_nilI))) (pa_consI (pe_tupI (pa_consI pe_intI (pa_consI pe_intI pa_nilI))) (pa_consI (pe_tupI (pa_consI (pe_unI un_neg pe_intI) (pa_consI pe_intI pa_nilI))) (pa_consI (pe_tupI (pa_consI pe_intI (pa_consI (pe_unI un_neg pe_intI) pa_nilI))) (pa_consI (pe_tupI (pa_consI (pe_opI op_add pe_intI (pe_opI op_mod (pe_ixI (ix_listK K) (pvI 2) pe_intI (fun _ _ => rfl)) pe_intI)) (pa_consI (pe_opI op_add pe_intI (pe_opI op_mod (pe_ixI (ix_listK K) (pvI 2) pe_intI (fun _ _ => rfl)) pe_intI)) pa_nilI))) (pa_consI (pe_tupI (pa_consI (pe_opI op_sub (pe_opI op_sub pe_intI pe_intI) (pe_opI op_mod (pe_ixI (ix_listK K) (pvI 2) pe_intI (fun _ _ => rfl)) pe_intI)) (pa_consI pe_intI pa_nilI))) pa_nilI))))))) (pe_opI op_mod (pe_ixI (ix_listK K) (pvI 2) pe_intI (fun _ _ => rfl)) pe_intI) (fun _ _ => rfl)))
      (pss_consI (ps_setI (i := 4) sc_l_parted.nd rfl (by first | exact Or.inl rfl | exact Or.inr rfl) (pe_fnI D_l_by_way hr pass0 (pa_consI (pvI 3) (pa_consI (pe_ixI (ix_listK K) (pvI 0) pe_intI (fun _ _ => rfl)) pa_nilI))))
      (pss_consI (ps_forI PassesOwn.never rfl (pi_listKI K (pvI 0)) (pg_nameI (i := 5) sc_l_parted.nd rfl (by first | exact Or.inl rfl | exact Or.inr rfl))
      (pss_consI (ps_setI (i := 6) sc_l_parted.nd rfl (by first | exact Or.inl rfl | exact Or.inr rfl) (pe_fnI D_l_by_way hr pass0 (pa_consI (pvI 3) (pa_consI (pvI 5) pa_nilI))))
      (pss_oneI (ps_ifI (pt_cmpRI op_gt (pe_opI op_mulA (pe_ixI (ix_tupK K) (pvI 6) pe_intI (fun _ _ => rfl)) (pe_ixI (ix_tupK K) (pvI 4) pe_intI (fun _ _ => rfl))) (pe_opI op_mulA (pe_ixI (ix_tupK K) (pvI 4) pe_intI (fun _ _ => rfl)) (pe_ixI (ix_tupK K) (pvI 6) pe_intI (fun _ _ => rfl))) (nomark _)) (pss_oneI (ps_setI (i := 4) sc_l_parted.nd rfl (by first | exact Or.inl rfl | exact Or.inr rfl) (pvI 6))) pss_nilI))))
      (pss_consI (ps_setI (i := 7) sc_l_parted.nd rfl (by first | exact Or.inl rfl | exact Or.inr rfl) (pe_fnI D_l_by_way hr pass0 (pa_consI (pvI 3) (pa_consI (pe_ixI (ix_listK K) (pvI 1) pe_intI (fun _ _ => rfl)) pa_nilI))))
      (pss_consI (ps_forI PassesOwn.never rfl (pi_listKI K (pvI 1)) (pg_nameI (i := 5) sc_l_parted.nd rfl (by first | exact Or.inl rfl | exact Or.inr rfl))
      (pss_consI (ps_setI (i := 6) sc_l_parted.nd rfl (by first | exact Or.inl rfl | exact Or.inr rfl) (pe_fnI D_l_by_way hr pass0 (pa_consI (pvI 3) (pa_consI (pvI 5) pa_nilI))))
      (pss_oneI (ps_ifI (pt_cmpRI op_lt (pe_opI op_mulA (pe_ixI (ix_tupK K) (pvI 6) pe_intI (fun _ _ => rfl)) (pe_ixI (ix_tupK K) (pvI 7) pe_intI (fun _ _ => rfl))) (pe_opI op_mulA (pe_ixI (ix_tupK K) (pvI 7) pe_intI (fun _ _ => rfl)) (pe_ixI (ix_tupK K) (pvI 6) pe_intI (fun _ _ => rfl))) (nomark _)) (pss_oneI (ps_setI (i := 7) sc_l_parted.nd rfl (by first | exact Or.inl rfl | exact Or.inr rfl) (pvI 6))) pss_nilI))))
      (pss_consI (ps_setI (i := 8) sc_l_parted.nd rfl (by first | exact Or.inl rfl | exact Or.inr rfl) (pe_fnI D_l_less hr pass0 (pa_consI (pvI 4) (pa_consI (pvI 7) pa_nilI))))
      (pss_consI (ps_setI (i := 9) sc_l_parted.nd rfl (by first | exact Or.inl rfl | exact Or.inr rfl) (pe_ixI (ix_listK K) (pe_lstI (pa_consI (pe_tupI (pa_consI pe_intI (pa_consI pe_intI pa_nilI))) (pa_consI (pe_tupI (pa_consI pe_intI (pa_consI (pe_opI op_pow pe_intI pe_intI) pa_nilI))) (pa_consI (pe_tupI (pa_consI pe_intI (pa_consI pe_intI pa_nilI))) (pa_consI (pe_tupI (pa_consI pe_intI (pa_consI pe_intI pa_nilI))) pa_nilI))))) (pe_opI op_mod (pe_ixI (ix_listK K) (pvI 2) pe_intI (fun _ _ => rfl)) pe_intI) (fun _ _ => rfl)))
      (pss_consI (ps_setI (i := 8) sc_l_parted.nd rfl (by first | exact Or.inl rfl | exact Or.inr rfl) (pe_tupI (pa_consI (pe_opI op_add (pe_opI op_mulA (pe_ixI (ix_tupK K) (pvI 8) pe_intI (fun _ _ => rfl)) (pe_ixI (ix_tupK K) (pvI 9) pe_intI (fun _ _ => rfl))) (pe_opI op_mulA (pe_ixI (ix_tupK K) (pvI 9) pe_intI (fun _ _ => rfl)) (pe_ixI (ix_tupK K) (pvI 8) pe_intI (fun _ _ => rfl)))) (pa_consI (pe_opI op_mulA (pe_ixI (ix_tupK K) (pvI 8) pe_intI (fun _ _ => rfl)) (pe_ixI (ix_tupK K) (pvI 9) pe_intI (fun _ _ => rfl))) pa_nilI))))
      (pss_consI (ps_setI (i := 10) sc_l_parted.nd rfl (by first | exact Or.inl rfl | exact Or.inr rfl) (pe_opI op_add (pe_opI op_mulA (pe_ixI (ix_tupK K) (pvI 3) pe_intI (fun _ _ => rfl)) (pe_ixI (ix_tupK K) (pvI 3) pe_intI (fun _ _ => rfl))) (pe_opI op_mulA (pe_ixI (ix_tupK K) (pvI 3) pe_intI (fun _ _ => rfl)) (pe_ixI (ix_tupK K) (pvI 3) pe_intI (fun _ _ => rfl)))))
      (pss_oneI (ps_retI (pe_fnI D_l_moved hr pass0 (pa_consI (pvI 1) (pa_consI (pe_fnI D_l_share hr pass0 (pa_consI (pe_opI op_mulA (pe_ixI (ix_tupK K) (pvI 8) pe_intI (fun _ _ => rfl)) (pe_ixI (ix_tupK K) (pvI 3) pe_intI (fun _ _ => rfl))) (pa_consI (pe_opI op_mulA (pe_ixI (ix_tupK K) (pvI 8) pe_intI (fun _ _ => rfl)) (pvI 10)) pa_nilI))) (pa_consI (pe_fnI D_l_share hr pass0 (pa_consI (pe_opI op_mulA (pe_ixI (ix_tupK K) (pvI 8) pe_intI (fun _ _ => rfl)) (pe_ixI (ix_tupK K) (pvI 3) pe_intI (fun _ _ => rfl))) (pa_consI (pe_opI op_mulA (pe_ixI (ix_tupK K) (pvI 8) pe_intI (fun _ _ => rfl)) (pvI 10)) pa_nilI))) pa_nilI))))))))))))))), ?_⟩
    have hwl := T.P.len
    have hul := T.Q.len
    have t1 := T.a1
    have t8 := T.p8
    have t2 := T.q1
    have t9 := T.q8
    have xl := T.xl
    have nn : ∀ j : Nat, 0 ≤ xs.getD j 0 := fun j => getD_nn T.xn j
    have n11 := nn (Int.toNat 11)
    have n12 := nn (Int.toNat 12)
    have n13 := nn (Int.toNat 13)
    have n14 := nn (Int.toNat 14)
    have hS : SqL K H ls (xs.map V.int) := SqL.of T.s
    walk_at "rd"
    intro g1 hg1
    have u1 := Same.new (o := .tup [.int (1), .int (0)]) hg1
    have k1 := upd_same (H := H) (a := g1) (o := .tup [.int (1), .int (0)])
    have S1 := u1
    generalize hH1 : upd H g1 (.tup [.int (1), .int (0)]) = H1 at *
    clear hH1 u1 hg1
    have hS1 : SqL K H1 ls (xs.map V.int) := SqL.same' hS S1
    walk_at "rd"
    intro g2 hg2
    have u2 := Same.new (o := .tup [.int (0), .int (1)]) hg2
    have k2 := upd_same (H := H1) (a := g2) (o := .tup [.int (0), .int (1)])
    replace k1 := u2 _ _ k1
    have S2 := S1.trans u2
    generalize hH2 : upd H1 g2 (.tup [.int (0), .int (1)]) = H2 at *
    clear hH2 u2 hg2
    have hS2 : SqL K H2 ls (xs.map V.int) := SqL.same' hS S2
    walk_at "rd"
    intro g3 hg3
    have u3 := Same.new (o := .tup [.int (-1), .int (0)]) hg3
    have k3 := upd_same (H := H2) (a := g3) (o := .tup [.int (-1), .int (0)])
    replace k1 := u3 _ _ k1
    replace k2 := u3 _ _ k2
    have S3 := S2.trans u3
    generalize hH3 : upd H2 g3 (.tup [.int (-1), .int (0)]) = H3 at *
    clear hH3 u3 hg3
    have hS3 : SqL K H3 ls (xs.map V.int) := SqL.same' hS S3
    walk_at "rd"
    intro g4 hg4
    have u4 := Same.new (o := .tup [.int (0), .int (-1)]) hg4
    have k4 := upd_same (H := H3) (a := g4) (o := .tup [.int (0), .int (-1)])
    replace k1 := u4 _ _ k1
    replace k2 := u4 _ _ k2
    replace k3 := u4 _ _ k3
    have S4 := S3.trans u4
    generalize hH4 : upd H3 g4 (.tup [.int (0), .int (-1)]) = H4 at *
    clear hH4 u4 hg4
    have hS4 : SqL K H4 ls (xs.map V.int) := SqL.same' hS S4
    walk_at "rd"
    intro g5 hg5
    have u5 := Same.new (o := .tup [.int (1 + xs.getD (Int.toNat 11) 0 % 5), .int (1 + xs.getD (Int.toNat 12) 0 % 5)]) hg5
    have k5 := upd_same (H := H4) (a := g5) (o := .tup [.int (1 + xs.getD (Int.toNat 11) 0 % 5), .int (1 + xs.getD (Int.toNat 12) 0 % 5)])
    replace k1 := u5 _ _ k1
    replace k2 := u5 _ _ k2
    replace k3 := u5 _ _ k3
    replace k4 := u5 _ _ k4
    have S5 := S4.trans u5
    generalize hH5 : upd H4 g5 (.tup [.int (1 + xs.getD (Int.toNat 11) 0 % 5), .int (1 + xs.getD (Int.toNat 12) 0 % 5)]) = H5 at *
    clear hH5 u5 hg5
    have hS5 : SqL K H5 ls (xs.map V.int) := SqL.same' hS S5
    walk_at "rd"
    intro g6 hg6
    have u6 := Same.new (o := .tup [.int (0 - 1 - xs.getD (Int.toNat 11) 0 % 5), .int (3)]) hg6
    have k6 := upd_same (H := H5) (a := g6) (o := .tup [.int (0 - 1 - xs.getD (Int.toNat 11) 0 % 5), .int (3)])
    replace k1 := u6 _ _ k1
    replace k2 := u6 _ _ k2
    replace k3 := u6 _ _ k3
    replace k4 := u6 _ _ k4
    replace k5 := u6 _ _ k5
    have S6 := S5.trans u6
    generalize hH6 : upd H5 g6 (.tup [.int (0 - 1 - xs.getD (Int.toNat 11) 0 % 5), .int (3)]) = H6 at *
    clear hH6 u6 hg6
    have hS6 : SqL K H6 ls (xs.map V.int) := SqL.same' hS S6
    walk_at "rd"
    intro lw hlw
    have u7 := Same.new (o := .lst [.ref g1, .ref g2, .ref g3, .ref g4, .ref g5, .ref g6]) hlw
    have k7 := upd_same (H := H6) (a := lw) (o := .lst [.ref g1, .ref g2, .ref g3, .ref g4, .ref g5, .ref g6])
    replace k1 := u7 _ _ k1
    replace k2 := u7 _ _ k2
    replace k3 := u7 _ _ k3
    replace k4 := u7 _ _ k4
    replace k5 := u7 _ _ k5
    replace k6 := u7 _ _ k6
    have S7 := S6.trans u7
    generalize hH7 : upd H6 lw (.lst [.ref g1, .ref g2, .ref g3, .ref g4, .ref g5, .ref g6]) = H7 at *
    clear hH7 u7 hlw
    obtain ⟨vw, a, b, hvw, aw, rfl, hw, za, zb, hW⟩ : ∃ (vw : V) (a b : Int), atI [V.ref g1, V.ref g2, V.ref g3, V.ref g4, V.ref g5, V.ref g6] (xs.getD (Int.toNat 13) 0 % 6) = some vw ∧ ∃ aw, vw = .ref aw ∧ H7 aw = some (.tup [.int a, .int b]) ∧ Sz 3 a ∧ Sz 3 b ∧ 0 < a * a + b * b := by
      have i0 : 0 ≤ xs.getD (Int.toNat 13) 0 % 6 := by omega
      have i1 : xs.getD (Int.toNat 13) 0 % 6 < 6 := by omega
      obtain ⟨kx, hkx⟩ := Int.eq_ofNat_of_zero_le i0
      rw [hkx] at i1 ⊢
      have z11 : 0 ≤ xs.getD (Int.toNat 11) 0 % 5 ∧ xs.getD (Int.toNat 11) 0 % 5 < 5 := by omega
      have z12 : 0 ≤ xs.getD (Int.toNat 12) 0 % 5 ∧ xs.getD (Int.toNat 12) 0 % 5 < 5 := by omega
      have s3 : ∀ x : Int, -6 ≤ x → x ≤ 6 → Sz 3 x := fun x h1 h2 => ⟨by show x.natAbs < 8; omega⟩
      match kx, i1 with
      | 0, _ => exact ⟨_, 1, 0, rfl, g1, rfl, k1, s3 _ (by decide) (by decide), s3 _ (by decide) (by decide), by decide⟩
      | 1, _ => exact ⟨_, 0, 1, rfl, g2, rfl, k2, s3 _ (by decide) (by decide), s3 _ (by decide) (by decide), by decide⟩
      | 2, _ => exact ⟨_, -1, 0, rfl, g3, rfl, k3, s3 _ (by decide) (by decide), s3 _ (by decide) (by decide), by decide⟩
      | 3, _ => exact ⟨_, 0, -1, rfl, g4, rfl, k4, s3 _ (by decide) (by decide), s3 _ (by decide) (by decide), by decide⟩
      | 4, _ => exact ⟨_, _, _, rfl, g5, rfl, k5, s3 _ (by omega) (by omega), s3 _ (by omega) (by omega), by have := sq_pos (show 1 + xs.getD (Int.toNat 11) 0 % 5 ≠ 0 by omega); have := sq_nn (1 + xs.getD (Int.toNat 12) 0 % 5); omega⟩
      | 5, _ => exact ⟨_, _, _, rfl, g6, rfl, k6, s3 _ (by omega) (by omega), s3 _ (by decide) (by decide), by have := sq_nn (0 - 1 - xs.getD (Int.toNat 11) 0 % 5); omega⟩
      | n + 6, h => omega
    have T7 := T.same S7
    have hS7 : SqL K H7 ls (xs.map V.int) := SqL.of T7.s
    have zB : Sz 2 BB := ⟨by have := T.B1; have := T.B3; show BB.natAbs < 4; omega⟩
    have hB0 : 0 < BB := by have := T.B1; omega
    have bdp : ∀ ps : List Pt, (∀ p ∈ ps, OvP BB 110 p) → ∀ p ∈ ps, Bd 2000 p.1 ∧ Bd 2000 p.2 := fun ps o p hp => ovp_bd4 hB0 zB (o p hp) 2000 (by decide) (by decide)
    have bdw : ∀ q, Ov BB 114 q → Bd 120 q := fun q hq => ov_bd4 hB0 zB hq 120 (by decide) (by decide)
    have za10 := za.mono (show 3 ≤ 10 by decide)
    have zb10 := zb.mono (show 3 ≤ 10 by decide)
    have ep0 : p0[0]? = some (p0[0]'(by omega)) := List.getElem?_eq_getElem _
    have eq0 : p1[0]? = some (p1[0]'(by omega)) := List.getElem?_eq_getElem _
    obtain ⟨vp0, evp0, gp0⟩ := T7.P.at ep0
    have x0 : atI w0 0 = some vp0 := atI_nat' (j := 0) rfl evp0
    have hA7 := T7.a
    walk_at "rd"
    clear k1 k2 k3 k4 k5 k6 k7 hvw
    have bp0 := bdp p0 T.oP _ (List.mem_of_getElem? ep0)
    refine ⟨aw, vp0, a, b, _, _, rfl, hw, gp0, za10, zb10, bp0.1, bp0.2, fun vn H8 s8 gn => ?_⟩
    have oN : Ov BB 114 (byW a b (p0[0]'(by omega))) := byW_ov za zb (T.oP _ (List.mem_of_getElem? ep0))
    have S8 := S7.trans s8
    have hw8 := s8 _ _ hw
    have T8 := T.same S8
    have hA8 := T8.a
    have hB8 := T8.b
    clear hw S7 T7 hA7 hS7 hS1 hS2 hS3 hS4 hS5 hS6
    walk_at "rd"
    refine ⟨⟨_, SqL.of hA8⟩, for_list (xs := w0) (fun i σ H' => ∃ (vn : V) (ni : Rat) (y5 y6 : Option V), σ = [some (.ref l0), some (.ref l1), some (.ref ls), some (.ref aw), some vn, y5, y6, none, none, none, none] ∧ Same H8 H' ∧ ShV H' vn ni ∧ Ov BB 114 ni ∧ ∀ p ∈ p0.take i, byW a b p ≤ ni) ⟨vn, _, none, none, rfl, L2.Same.refl _, gn, oN, fun p hp => by simp at hp⟩ (fun i σ H' _ ⟨_, _, _, _, _, s, _⟩ => SqL.of (s _ _ hA8)) ?_ ?_⟩
    · rintro i v σ H9 hv ⟨vn, ni, y5, y6, rfl, s9, gni, oni, hni⟩
      obtain ⟨p, ep, gp⟩ := ((T8.same s9).P).atV hv
      have hpm := List.mem_of_getElem? ep
      have bp := bdp p0 T.oP _ hpm
      have hw9 := s9 _ _ hw8
      walk_at "rd"
      refine ⟨aw, v, a, b, p.1, p.2, rfl, hw9, gp, za10, zb10, bp.1, bp.2, fun vo H10 s10 go => ?_⟩
      have oo : Ov BB 114 (byW a b p) := byW_ov za zb (T.oP _ hpm)
      have hs : p0.take (i + 1) = p0.take i ++ [p] := by rw [List.take_add_one, ep]; rfl
      have bo := bdw _ oo
      have bn := bdw _ oni
      obtain ⟨ao, rfl, go'⟩ := go
      obtain ⟨an, rfl, gn'⟩ := gni.same s10
      walk_at "rd"
      refine ifB (fun h => ?_) (fun h => ?_)
      · walk_at "rd"
        have hlt : ni < byW a b p := (Rat.lt_iff _ _).mpr (by simpa using h)
        refine ⟨_, byW a b p, _, _, rfl, s9.trans s10, ⟨ao, rfl, go'⟩, oo, fun q hq => ?_⟩
        rw [hs] at hq
        rcases List.mem_append.mp hq with hq | hq
        · exact Rat.le_trans (hni q hq) (Rat.le_of_lt hlt)
        · rw [List.mem_singleton.mp hq]; exact Rat.le_refl
      · have hle : byW a b p ≤ ni := Rat.not_lt.mp fun z => of_decide_eq_false h ((Rat.lt_iff _ _).mp z)
        refine ⟨_, ni, _, _, rfl, s9.trans s10, ⟨an, rfl, gn'⟩, oni, fun q hq => ?_⟩
        rw [hs] at hq
        rcases List.mem_append.mp hq with hq | hq
        · exact hni q hq
        · rw [List.mem_singleton.mp hq]; exact hle
    rintro σ H9 ⟨vn2, ni, y5, y6, rfl, s9, gni, oni, hni⟩
    rw [hwl, List.take_of_length_le (Nat.le_refl _)] at hni
    have S9 := S8.trans s9
    have T9 := T.same S9
    have hw9 := s9 _ _ hw8
    have hB9 := T9.b
    obtain ⟨vq0, evq0, gq0⟩ := T9.Q.at eq0
    have xq0 : atI w1 0 = some vq0 := atI_nat' (j := 0) rfl evq0
    have bq0 := bdp p1 T.oQ _ (List.mem_of_getElem? eq0)
    clear hw8 hA8 hB8 T8 gn oN vn
    walk_at "rd"
    refine ⟨aw, vq0, a, b, _, _, rfl, hw9, gq0, za10, zb10, bq0.1, bq0.2, fun vf H10 s10 gf => ?_⟩
    have oF : Ov BB 114 (byW a b (p1[0]'(by omega))) := byW_ov za zb (T.oQ _ (List.mem_of_getElem? eq0))
    have S10 := S9.trans s10
    have T10 := T.same S10
    have hw10 := s10 _ _ hw9
    have hB10 := T10.b
    replace gni := gni.same s10
    walk_at "rd"
    refine ⟨⟨_, SqL.of hB10⟩, for_list (xs := w1) (fun i σ H' => ∃ (vf : V) (fa : Rat) (y5 y6 : Option V), σ = [some (.ref l0), some (.ref l1), some (.ref ls), some (.ref aw), some vn2, y5, y6, some vf, none, none, none] ∧ Same H10 H' ∧ ShV H' vf fa ∧ Ov BB 114 fa ∧ ∀ p ∈ p1.take i, fa ≤ byW a b p) ⟨vf, _, _, _, rfl, L2.Same.refl _, gf, oF, fun p hp => by simp at hp⟩ (fun i σ H' _ ⟨_, _, _, _, _, s, _⟩ => SqL.of (s _ _ hB10)) ?_ ?_⟩
    · rintro i v σ H11 hv ⟨vf, fa, y5, y6, rfl, s11, gfa, ofa, hfa⟩
      obtain ⟨p, ep, gp⟩ := ((T10.same s11).Q).atV hv
      have hpm := List.mem_of_getElem? ep
      have bp := bdp p1 T.oQ _ hpm
      have hw11 := s11 _ _ hw10
      walk_at "rd"
      refine ⟨aw, v, a, b, p.1, p.2, rfl, hw11, gp, za10, zb10, bp.1, bp.2, fun vo H12 s12 go => ?_⟩
      have oo : Ov BB 114 (byW a b p) := byW_ov za zb (T.oQ _ hpm)
      have hs : p1.take (i + 1) = p1.take i ++ [p] := by rw [List.take_add_one, ep]; rfl
      have bo := bdw _ oo
      have bn := bdw _ ofa
      obtain ⟨ao, rfl, go'⟩ := go
      obtain ⟨an, rfl, gn'⟩ := gfa.same s12
      walk_at "rd"
      refine ifB (fun h => ?_) (fun h => ?_)
      · walk_at "rd"
        have hlt : byW a b p < fa := (Rat.lt_iff _ _).mpr (by simpa using h)
        refine ⟨_, byW a b p, _, _, rfl, s11.trans s12, ⟨ao, rfl, go'⟩, oo, fun q hq => ?_⟩
        rw [hs] at hq
        rcases List.mem_append.mp hq with hq | hq
        · exact Rat.le_trans (Rat.le_of_lt hlt) (hfa q hq)
        · rw [List.mem_singleton.mp hq]; exact Rat.le_refl
      · have hle : fa ≤ byW a b p := Rat.not_lt.mp fun z => of_decide_eq_false h ((Rat.lt_iff _ _).mp z)
        refine ⟨_, fa, _, _, rfl, s11.trans s12, ⟨an, rfl, gn'⟩, ofa, fun q hq => ?_⟩
        rw [hs] at hq
        rcases List.mem_append.mp hq with hq | hq
        · exact hfa q hq
        · rw [List.mem_singleton.mp hq]; exact hle
    rintro σ H11 ⟨vf2, fa, y5, y6, rfl, s11, gfa, ofa, hfa⟩
    rw [hul, List.take_of_length_le (Nat.le_refl _)] at hfa
    have S11 := S10.trans s11
    have hw11 := s11 _ _ hw10
    replace gni := gni.same s11
    clear hw9 hw10 hB9 hB10 T9 T10 gf oF vf
    walk_at "rd"
    refine ⟨vn2, vf2, ni, fa, rfl, gni, gfa, (bdw _ oni).mono (by decide), (bdw _ ofa).mono (by decide), fun vg H12 s12 gg => ?_⟩
    have S12 := S11.trans s12
    have hw12 := s12 _ _ hw11
    have T12 := T.same S12
    have hS12 : SqL K H12 ls (xs.map V.int) := SqL.of T12.s
    have bg : Bd 300 (ni - fa) := (Bd.sub (bdw _ oni) (bdw _ ofa)).mono (by decide)
    have p6 : (10 : Int) ^ (6 : Int).toNat = 1000000 := by decide
    walk_at "rd"
    intro m1 hm1
    have v1 := Same.new (o := .tup [.int 1, .int (1)]) hm1
    have j1 := upd_same (H := H12) (a := m1) (o := .tup [.int 1, .int (1)])
    have R1 := v1
    generalize hG1 : upd H12 m1 (.tup [.int 1, .int (1)]) = G1 at *
    clear hG1 v1 hm1
    walk_at "rd"
    intro m2 hm2
    have v2 := Same.new (o := .tup [.int 1, .int (10 ^ (6 : Int).toNat)]) hm2
    have j2 := upd_same (H := G1) (a := m2) (o := .tup [.int 1, .int (10 ^ (6 : Int).toNat)])
    replace j1 := v2 _ _ j1
    have R2 := R1.trans v2
    generalize hG2 : upd G1 m2 (.tup [.int 1, .int (10 ^ (6 : Int).toNat)]) = G2 at *
    clear hG2 v2 hm2
    walk_at "rd"
    intro m3 hm3
    have v3 := Same.new (o := .tup [.int 1, .int (3)]) hm3
    have j3 := upd_same (H := G2) (a := m3) (o := .tup [.int 1, .int (3)])
    replace j1 := v3 _ _ j1
    replace j2 := v3 _ _ j2
    have R3 := R2.trans v3
    generalize hG3 : upd G2 m3 (.tup [.int 1, .int (3)]) = G3 at *
    clear hG3 v3 hm3
    walk_at "rd"
    intro m4 hm4
    have v4 := Same.new (o := .tup [.int 2, .int (1)]) hm4
    have j4 := upd_same (H := G3) (a := m4) (o := .tup [.int 2, .int (1)])
    replace j1 := v4 _ _ j1
    replace j2 := v4 _ _ j2
    replace j3 := v4 _ _ j3
    have R4 := R3.trans v4
    generalize hG4 : upd G3 m4 (.tup [.int 2, .int (1)]) = G4 at *
    clear hG4 v4 hm4
    walk_at "rd"
    intro lm hlm
    have v5 := Same.new (o := .lst [.ref m1, .ref m2, .ref m3, .ref m4]) hlm
    have j5 := upd_same (H := G4) (a := lm) (o := .lst [.ref m1, .ref m2, .ref m3, .ref m4])
    replace j1 := v5 _ _ j1
    replace j2 := v5 _ _ j2
    replace j3 := v5 _ _ j3
    replace j4 := v5 _ _ j4
    have R5 := R4.trans v5
    generalize hG5 : upd G4 lm (.lst [.ref m1, .ref m2, .ref m3, .ref m4]) = G5 at *
    clear hG5 v5 hlm
    obtain ⟨vm, t, m, hvm, am, rfl, hm, t0, zt, m0, zm⟩ : ∃ (vm : V) (t m : Int), atI [V.ref m1, V.ref m2, V.ref m3, V.ref m4] (xs.getD (Int.toNat 14) 0 % 4) = some vm ∧ ∃ am, vm = .ref am ∧ G5 am = some (.tup [.int t, .int m]) ∧ 0 < t ∧ Sz 2 t ∧ 0 < m ∧ Sz 20 m := by
      have i0 : 0 ≤ xs.getD (Int.toNat 14) 0 % 4 := by omega
      have i1 : xs.getD (Int.toNat 14) 0 % 4 < 4 := by omega
      obtain ⟨kx, hkx⟩ := Int.eq_ofNat_of_zero_le i0
      rw [hkx] at i1 ⊢
      match kx, i1 with
      | 0, _ => exact ⟨_, 1, 1, rfl, m1, rfl, j1, by decide, ⟨by decide⟩, by decide, ⟨by decide⟩⟩
      | 1, _ => exact ⟨_, 1, _, rfl, m2, rfl, j2, by decide, ⟨by decide⟩, by decide, ⟨by decide⟩⟩
      | 2, _ => exact ⟨_, 1, 3, rfl, m3, rfl, j3, by decide, ⟨by decide⟩, by decide, ⟨by decide⟩⟩
      | 3, _ => exact ⟨_, 2, 1, rfl, m4, rfl, j4, by decide, ⟨by decide⟩, by decide, ⟨by decide⟩⟩
      | n + 4, h => omega
    have S13 := S12.trans R5
    have T13 := T.same S13
    have hS13 : SqL K G5 ls (xs.map V.int) := SqL.of T13.s
    have hw13 := R5 _ _ hw12
    obtain ⟨ag, rfl, hg⟩ := gg.same R5
    walk_at "rd"
    clear j1 j2 j3 j4 j5 hvm hS13 hS12
    intro ag2 hag2
    have v6 := Same.new (o := .tup [.int ((ni - fa).num * m + t * (ni - fa).den), .int ((ni - fa).den * m)]) hag2
    have hg2 := upd_same (H := G5) (a := ag2) (o := .tup [.int ((ni - fa).num * m + t * (ni - fa).den), .int ((ni - fa).den * m)])
    have S14 := S13.trans v6
    have hw14 := v6 _ _ hw13
    generalize hG6 : upd G5 ag2 (.tup [.int ((ni - fa).num * m + t * (ni - fa).den), .int ((ni - fa).den * m)]) = G6 at *
    clear hG6 v6 hag2 hg hw13 hw12 hm
    obtain ⟨both, q3, line⟩ := part_both T.B1 T.B3 T.oP T.oQ hW za zb m0 zm t0 zt oni ofa hni hfa
    have gd : (0 : Int) < ((ni - fa).den : Int) := by exact_mod_cast (ni - fa).den_pos
    have zgn := Bd.num bg
    have zgd := Bd.den bg
    have rx := raw_step (a := a) (b := b) (t := t) (w := a) gd m0 hW (Rat.num_divInt_den (ni - fa))
    have ry := raw_step (a := a) (b := b) (t := t) (w := b) gd m0 hW (Rat.num_divInt_den (ni - fa))
    have zG : Sz 400 ((ni - fa).num * m + t * (ni - fa).den) := (Sz.add (Sz.mul zgn zm) (Sz.mul zt zgd)).mono (by decide)
    have zH : Sz 400 ((ni - fa).den * m : Int) := (Sz.mul zgd zm).mono (by decide)
    have zW : Sz 10 (a * a + b * b) := (Sz.add (Sz.mul za za) (Sz.mul zb zb)).mono (by decide)
    have dpos : (0 : Int) < (ni - fa).den * m * (a * a + b * b) := Int.mul_pos (Int.mul_pos gd m0) hW
    generalize (ni - fa).num * m + t * (ni - fa).den = N0 at *
    walk_at "rd"
    refine ⟨_, _, rfl, dpos, (Sz.mul zH zW).mono (by decide), fun vx H14 s14 gx => ?_⟩
    rw [rx] at gx
    have hw15 := s14 _ _ hw14
    have hg3 := s14 _ _ hg2
    walk_at "rd"
    refine ⟨_, _, rfl, dpos, (Sz.mul zH zW).mono (by decide), fun vy H15 s15 gy => ?_⟩
    rw [ry] at gy
    have S15 := S14.trans (s14.trans s15)
    have T15 := T.same S15
    have bst : ∀ c, Sz 3 c → Bd 1000 (stepW a b (ni - fa + Rat.divInt t m) c) := fun c zc => by
      have r := raw_step (a := a) (b := b) (t := t) (w := c) gd m0 hW (Rat.num_divInt_den (ni - fa))
      rw [← r]
      exact (Bd.of (Sz.mul (Sz.add (Sz.mul zgn zm) (Sz.mul zt zgd)) zc) (Sz.mul zH zW) (by omega)).mono (by decide)
    walk_at "rd"
    refine ⟨l1, vx, vy, w1, p1, _, _, rfl, T15.b, T15.Q, gx.same s15, gy, (bst a za).mono (by decide), (bst b zb).mono (by decide), bdp p1 T.oQ, by omega, fun d2 us H16 s16 hd2 hd2' hU => ?_⟩
    exact k d2 us H16 _ _ _ _ _ q3 (S15.trans s16) (S15.free hd2) hd2' hU both line
theorem ok_greatest_common (F : FunAt K mg "greatest_common" s_greatest_common ["one", "other"]) (B : Blt mg) {A_PLAIN_WAYS B1_PLAIN_WAYS B2_PLAIN_WAYS B3_PLAIN_WAYS B4_PLAIN_WAYS : Addr} (G : Cst K mg A_PLAIN_WAYS B1_PLAIN_WAYS B2_PLAIN_WAYS B3_PLAIN_WAYS B4_PLAIN_WAYS) : DefOk P w K mg base CX0 1 "greatest_common" ["one", "other"] spGcd := by
  refine def_okI F sc_greatest_common (fun vs H Q E h => ?_) (fun f cdv A outer s H vs Q E hr h => ?_)
  · obtain ⟨a, b, rfl, _⟩ := h; rfl
  · obtain ⟨a, b, rfl, k⟩ := h
    have hu := hr.units
    refine ⟨_, (pss_consI (ps_whileI PassesOwn.never (pt_cmpRI op_ne (pvI 1) pe_intI (nomark _)) (pss_oneI (ps_parI (i := 0) (j := 1) rfl sc_greatest_common.nd rfl rfl (by decide) rfl rfl (pa_consI (pvI 1) (pa_consI (pe_opI op_modN (pvI 0) (pvI 1)) pa_nilI)) rfl)))
      (pss_oneI (ps_retI (pe_callBI call_abs (by rfl) B.abs PyProof.Rows.boot_abs (pa_consI (pvI 0) pa_nilI))))), ?_⟩
    refine while_by (fun σ H' => ∃ x y : Int, σ = [some (.int x), some (.int y)] ∧ H' = H ∧ Int.gcd x y = Int.gcd a b) (fun σ _ => match σ with | [_, some (.int y)] => y.natAbs | _ => 0) ⟨a, b, rfl, rfl, rfl⟩ ?_ ?_
    · rintro σ H' ⟨x, y, rfl, rfl, e⟩
      refine ⟨_, rfl, rfl, _, rfl, ?_⟩
      by_cases hy : y = 0
      · subst hy
        refine iteNS rfl ?_
        refine ⟨_, rfl, _, rfl, ?_⟩
        rw [gcd_zero, e]
        exact k
      · refine ifT (dec_int_ne hy) ?_
        refine ⟨_, rfl, _, rfl, _, rfl, _, _, rfl, rfl, hy, _, _, rfl, ⟨_, _, rfl, rfl, ?_⟩, ?_⟩
        · rw [gcd_step]; exact e
        · exact fmod_lt x y hy
    · rintro σ H' Q Q' hq ⟨v, h1, hs, k1, h2, h3⟩
      exact ⟨v, h1, hs, k1, h2, hq _ _ h3⟩
theorem ok_common_bottoms (F : FunAt K mg "common_bottoms" s_common_bottoms ["shares"]) (B : Blt mg) {A_PLAIN_WAYS B1_PLAIN_WAYS B2_PLAIN_WAYS B3_PLAIN_WAYS B4_PLAIN_WAYS : Addr} (G : Cst K mg A_PLAIN_WAYS B1_PLAIN_WAYS B2_PLAIN_WAYS B3_PLAIN_WAYS B4_PLAIN_WAYS) (D_greatest_common : DefOk P w K mg base CX0 1 "greatest_common" ["one", "other"] spGcd) : DefOk P w K mg base CX0 2 "common_bottoms" ["shares"] (spCommon K) := by
  refine def_okI F sc_common_bottoms (fun vs H Q E h => ?_) (fun f cdv A outer s H vs Q E hr h => ?_)
  · obtain ⟨a, ws, qs, D, rfl, _⟩ := h; rfl
  · obtain ⟨a, ws, qs, D, rfl, hS, hQ, hD, zD, hdv, h40, k⟩ := h
    have hu := hr.units
    refine ⟨_, (pss_consI (ps_setI (i := 1) sc_common_bottoms.nd rfl (by first | exact Or.inl rfl | exact Or.inr rfl) (pe_lstI pa_nilI))
      (pss_consI (ps_setI (i := 2) sc_common_bottoms.nd rfl (by first | exact Or.inl rfl | exact Or.inr rfl) pe_intI)
      (pss_consI (ps_forI PassesOwn.never rfl (pi_listKI K (pvI 0)) (pg_nameI (i := 3) sc_common_bottoms.nd rfl (by first | exact Or.inl rfl | exact Or.inr rfl))
      (pss_consI (ps_setI (i := 4) sc_common_bottoms.nd rfl (by first | exact Or.inl rfl | exact Or.inr rfl) (pe_opI op_fdivB (pe_ixI (ix_tupK K) (pvI 3) pe_intI (fun _ _ => rfl)) (pe_fnI D_greatest_common hr pass0 (pa_consI (pvI 2) (pa_consI (pe_ixI (ix_tupK K) (pvI 3) pe_intI (fun _ _ => rfl)) pa_nilI)))))
      (pss_oneI (ps_ifI (pt_cmpRI op_gt (pvI 4) pe_intI (nomark _)) (pss_consI (ps_exprI (show PEi _ _ (tBM K _ _ _ _) from (pe_bmI PySem.F.plainAttrs_list PySem.F.slot_list_append PySem.F.type_list_append mt_append (pvI 1) (pa_consI (pvI 4) pa_nilI))))
      (pss_oneI (ps_setI (i := 2) sc_common_bottoms.nd rfl (by first | exact Or.inl rfl | exact Or.inr rfl) (pe_opI op_mulA (pvI 2) (pvI 4))))) pss_nilI))))
      (pss_oneI (ps_retI (pvI 1)))))), ?_⟩
    walk_at "rd"
    intro l hl
    walk_at "rd"
    refine ⟨⟨ws, by walk_at "mv"⟩, for_list (xs := ws) (fun i σ H' => ∃ (y1 y2 : Option V) (W : Int) (bs : List Int), σ = [some (.ref a), some (.ref l), some (.int W), y1, y2] ∧ W = prodI bs ∧ Same H H' ∧ H' l = some (.lst (bs.map V.int)) ∧ (∀ b ∈ bs, 0 < b ∧ Sz 9000 b) ∧ W ∣ D ∧ (∀ j q, j < i → qs[j]? = some q → (q.den : Int) ∣ W) ∧ bs.length ≤ i)
      ⟨none, none, 1, [], rfl, rfl, Same.new hl, upd_same, (fun _ h => nomatch h), ⟨D, by rw [Int.one_mul]⟩, fun j q h => absurd h (Nat.not_lt_zero _), Nat.le_refl _⟩ ?_ ?_ ?_⟩
    · rintro i σ H' hi ⟨y1, y2, W, bs, rfl, eW, s1, h1, hb, hW, hq, hn⟩
      exact s1.seq hS
    · rintro i x σ H' hx ⟨y1, y2, W, bs, rfl, eW, s1, h1, hb, hW, hq, hn⟩
      have hi : i < ws.length := (List.getElem?_eq_some_iff.mp hx).1
      have hwl := hQ.len
      obtain ⟨q, eq, c, rfl, hc⟩ := (hQ.same s1).atV hx
      have hdq := hdv q (List.mem_of_getElem? eq)
      have hd0 : 0 < (q.den : Int) := by have := q.den_pos; omega
      obtain ⟨g1, g2, g3, g4, g5⟩ := lcm_step hd0 hW hdq
      have zq : Sz 9000 (q.den : Int) := sz_dvd (by omega) hdq zD
      have zg : Sz 9000 (Int.gcd W q.den : Int) := sz_dvd (by omega) g5 zq
      walk_at "rd"
      refine ⟨W, q.den, rfl, ?_⟩
      refine ⟨_, _, rfl, rfl, ⟨by omega, zg⟩, ?_⟩
      walk_at "rd"
      have zW : Sz 9000 W := sz_dvd (by omega) hW zD
      have zm : Sz 9000 ((q.den : Int).fdiv (Int.gcd W q.den)) := quo_sz hd0 g4 g5 zq
      refine ite_dec (fun hm => ?_) (fun hm => ?_)
      · walk_at "rd"
        refine ⟨.inl ⟨rfl, _, SqL.of h1⟩, ?_⟩
        walk_at "rd"
        refine ⟨l, _, _, rfl, rfl, h1, small_line (by rw [List.length_map]; omega), ?_⟩
        walk_at "rd"
        refine ⟨_, _, _, bs ++ [(q.den : Int).fdiv (Int.gcd W q.den)], rfl, by rw [prodI_snoc, eW], fun b o e => ?_, ?_, ?_, g2, ?_, ?_⟩
        · rw [upd_ne (ne_of_none e hl)]; exact s1 b o e
        · rw [upd_same, List.map_append]; rfl
        · intro b hb'
          rcases List.mem_append.mp hb' with h | h
          · exact hb b h
          · rw [List.mem_singleton.mp h]; exact ⟨g3, zm⟩
        · intro j r hj er
          by_cases hji : j = i
          · subst hji
            rw [eq] at er; cases er
            exact g1
          · exact Int.dvd_trans (hq j r (by omega) er) ⟨_, rfl⟩
        · rw [List.length_append]; show bs.length + 1 ≤ i + 1; omega
      · have e1 : (q.den : Int).fdiv (Int.gcd W q.den) = 1 := by omega
        rw [e1, Int.mul_one] at g1
        refine ⟨_, _, _, bs, rfl, eW, s1, h1, hb, hW, ?_, by omega⟩
        intro j r hj er
        by_cases hji : j = i
        · subst hji
          rw [eq] at er; cases er
          exact g1
        · exact hq j r (by omega) er
    · rintro σ H' ⟨y1, y2, W, bs, rfl, eW, s1, h1, hb, hW, hq, hn⟩
      have hwl := hQ.len
      refine ⟨_, rfl, k l bs H' s1 h1 hb (fun q hm => ?_) (eW ▸ hW) (by omega)⟩
      obtain ⟨j, hj, rfl⟩ := List.getElem_of_mem hm
      rw [← eW]
      exact hq j _ (by omega) (List.getElem?_eq_getElem hj)
theorem ok_product (F : FunAt K mg "product" s_product ["numbers"]) (B : Blt mg) {A_PLAIN_WAYS B1_PLAIN_WAYS B2_PLAIN_WAYS B3_PLAIN_WAYS B4_PLAIN_WAYS : Addr} (G : Cst K mg A_PLAIN_WAYS B1_PLAIN_WAYS B2_PLAIN_WAYS B3_PLAIN_WAYS B4_PLAIN_WAYS) : DefOk P w K mg base CX0 1 "product" ["numbers"] (spProduct K) := by
  refine def_okI F sc_product (fun vs H Q E h => ?_) (fun f cdv A outer s H vs Q E hr h => ?_)
  · obtain ⟨a, bs, rfl, _⟩ := h; rfl
  · obtain ⟨a, bs, rfl, hS, hb, hn, k⟩ := h
    have hu := hr.units
    refine ⟨_, (pss_consI (ps_setI (i := 1) sc_product.nd rfl (by first | exact Or.inl rfl | exact Or.inr rfl) pe_intI)
      (pss_consI (ps_forI PassesOwn.never rfl (pi_listKI K (pvI 0)) (pg_nameI (i := 2) sc_product.nd rfl (by first | exact Or.inl rfl | exact Or.inr rfl))
      (pss_oneI (ps_setI (i := 1) sc_product.nd rfl (by first | exact Or.inl rfl | exact Or.inr rfl) (pe_opI op_mulA (pvI 1) (pvI 2)))))
      (pss_oneI (ps_retI (pvI 1))))), ?_⟩
    walk_at "rd"
    refine ⟨⟨_, hS⟩, for_list (xs := bs.map V.int) (fun i σ H' => ∃ (y : Option V) (W : Int), σ = [some (.ref a), some (.int W), y] ∧ W = prodI (bs.take i) ∧ H' = H) ⟨none, 1, rfl, rfl, rfl⟩ ?_ ?_ ?_⟩
    · rintro i σ H' hi ⟨y, W, rfl, eW, rfl⟩
      exact hS
    · rintro i x σ H' hx ⟨y, W, rfl, eW, rfl⟩
      obtain ⟨b, eb, rfl⟩ := ints_at hx
      have zW : Sz (9000 * 100 + 1) W := by
        rw [eW]
        exact (prod_sz fun c hc => hb c (List.mem_of_mem_take hc)).mono (by rw [List.length_take]; omega)
      walk_at "rd"
      refine ⟨mulB zW (hb b (List.mem_of_getElem? eb)).2, _, _, rfl, ?_, rfl⟩
      rw [take_snoc eb, prodI_snoc, eW]
    · rintro σ H' ⟨y, W, rfl, eW, rfl⟩
      refine ⟨_, rfl, ?_⟩
      rw [List.length_map, List.take_length] at eW
      rw [eW]; exact k
theorem ok_axis (F : FunAt K mg "axis" s_axis ["shares"]) (B : Blt mg) {A_PLAIN_WAYS B1_PLAIN_WAYS B2_PLAIN_WAYS B3_PLAIN_WAYS B4_PLAIN_WAYS : Addr} (G : Cst K mg A_PLAIN_WAYS B1_PLAIN_WAYS B2_PLAIN_WAYS B3_PLAIN_WAYS B4_PLAIN_WAYS) (D_common_bottoms : DefOk P w K mg base CX0 2 "common_bottoms" ["shares"] (spCommon K)) (D_product : DefOk P w K mg base CX0 1 "product" ["numbers"] (spProduct K)) : DefOk P w K mg base CX0 3 "axis" ["shares"] (spAxisD K) := by
  refine def_okI F sc_axis (fun vs H Q E h => ?_) (fun f cdv A outer s H vs Q E hr h => ?_)
  · obtain ⟨a, ws, qs, D, m, rfl, _⟩ := h; rfl
  · obtain ⟨a, ws, qs, D, m, rfl, hS, hQ, hD, zD, hdv, hm, h40, k⟩ := h
    have hu := hr.units
    refine ⟨_, (pss_consI (ps_setI (i := 1) sc_axis.nd rfl (by first | exact Or.inl rfl | exact Or.inr rfl) (pe_fnI D_common_bottoms hr pass0 (pa_consI (pvI 0) pa_nilI)))
      (pss_consI (ps_setI (i := 2) sc_axis.nd rfl (by first | exact Or.inl rfl | exact Or.inr rfl) (pe_fnI D_product hr pass0 (pa_consI (pvI 1) pa_nilI)))
      (pss_oneI (ps_retI (pe_tupI (pa_consI (pe_compSI (os := ["one"]) (caps := [(2, "whole")]) ["shares", "bottoms", "whole"] (defScope s_axis) (pi_listKI K (pvI 0)) (fun _ _ _ _ _ => (pg_nameI (i := 0) (show List.Nodup (["one", "whole"] : List Str) from by decide +kernel) rfl (by first | exact Or.inl rfl | exact Or.inr rfl))) (fun _ _ _ _ _ => (pe_opI op_mulA (pe_ixI (ix_tupK K) (pvI 0) pe_intI (fun _ _ => rfl)) (pe_opI op_fdivB (pvI 1) (pe_ixI (ix_tupK K) (pvI 0) pe_intI (fun _ _ => rfl))))) (by decide +kernel)) (pa_consI (pvI 1) pa_nilI))))))), ?_⟩
    walk_at "rd"
    refine ⟨a, ws, qs, D, rfl, hS, hQ, hD, zD, fun q hq => (hdv q hq).1, h40, fun lb bs H1 s1 hlb hb hdb hbD hbl => ?_⟩
    have hW : 0 < prodI bs := prodI_pos fun b hb' => (hb b hb').1
    have zW : Sz 9000 (prodI bs) := sz_dvd (by omega) hbD zD
    have hwl := hQ.len
    walk_at "rd"
    refine ⟨lb, bs, rfl, SqL.of hlb, hb, by omega, ?_⟩
    walk_at "rd"
    refine ⟨⟨_, s1.seq hS⟩, comp1 (plain_list (s1.seq hS)) (by omega) (fun i v _ => ∀ q, qs[i]? = some q → v = .int (q.num * (prodI bs).fdiv q.den)) (fun _ _ _ _ _ h => h) (fun i H2 kk hi s2 hk => ?_) (fun E2 ys H2 hE s2 hE2 hl hr => ?_)⟩
    · have ew : ws[i]? = some ws[i] := List.getElem?_eq_getElem hi
      obtain ⟨q, eq, c, ec, hc⟩ := ((hQ.same s1).same s2).atV ew
      have ef : (ws[i]?).getD V.non = .ref c := by rw [ew]; exact ec
      obtain ⟨dq, bq⟩ := hdv q (List.mem_of_getElem? eq)
      have hd0 : 0 < (q.den : Int) := by have := q.den_pos; omega
      have zq : Sz 9000 (q.den : Int) := sz_dvd (by omega) dq zD
      have dW := hdb q (List.mem_of_getElem? eq)
      have zf : Sz 9000 ((prodI bs).fdiv q.den) := quo_sz hW hd0 dW zW
      rw [ef]
      walk_at "rd"
      refine ⟨⟨by omega, zq⟩, ?_⟩
      refine ⟨_, _, rfl, rfl, mulN bq.num zf (by omega), ?_⟩
      refine hk _ _ (L2.Same.refl _) fun q' e' => ?_
      rw [eq] at e'; cases e'
      rfl
    · walk_at "rd"
      intro p hp
      have ey := ints_of (by omega) hr
      refine k _ (qs.map fun q => q.num * (prodI bs).fdiv q.den) bs _ (by walk_at "sm") ⟨p, E2, lb, rfl, upd_same, ?_, ?_, ?_, hb, by omega, by rw [List.length_map]; omega⟩ (axR_tops hW hdb) hbl hbD
      · rw [← ey]; exact upd_keep hp hE2
      · exact upd_keep hp (s2 _ _ hlb)
      · intro x hx
        obtain ⟨q, hq, rfl⟩ := List.mem_map.mp hx
        obtain ⟨dq, bq⟩ := hdv q hq
        exact (bq.num.mul (quo_sz hW (by have := q.den_pos; omega) (hdb q hq) zW)).mono (by omega)
theorem ok_axes (F : FunAt K mg "axes" s_axes ["points"]) (B : Blt mg) {A_PLAIN_WAYS B1_PLAIN_WAYS B2_PLAIN_WAYS B3_PLAIN_WAYS B4_PLAIN_WAYS : Addr} (G : Cst K mg A_PLAIN_WAYS B1_PLAIN_WAYS B2_PLAIN_WAYS B3_PLAIN_WAYS B4_PLAIN_WAYS) (D_axis : DefOk P w K mg base CX0 3 "axis" ["shares"] (spAxisD K)) : DefOk P w K mg base CX0 4 "axes" ["points"] (spAxesD K) := by
  refine def_okI F sc_axes (fun vs H Q E h => ?_) (fun f cdv A outer s H vs Q E hr h => ?_)
  · obtain ⟨a, ws, ps, D, m, rfl, _⟩ := h; rfl
  · obtain ⟨a, ws, ps, D, m, rfl, hS, hP, hD, zD, hdv, hm, h40, k⟩ := h
    have hu := hr.units
    refine ⟨_, (pss_oneI (ps_retI (pe_tupI (pa_consI (pe_fnI D_axis hr pass0 (pa_consI (pe_compSI (os := ["place"]) (caps := []) ["points"] (defScope s_axes) (pi_listKI K (pvI 0)) (fun _ _ _ _ _ => (pg_nameI (i := 0) (show List.Nodup (["place"] : List Str) from by decide +kernel) rfl (by first | exact Or.inl rfl | exact Or.inr rfl))) (fun _ _ _ _ _ => (pe_ixI (ix_tupK K) (pvI 0) pe_intI (fun _ _ => rfl))) (by decide +kernel)) pa_nilI)) (pa_consI (pe_fnI D_axis hr pass0 (pa_consI (pe_compSI (os := ["place"]) (caps := []) ["points"] (defScope s_axes) (pi_listKI K (pvI 0)) (fun _ _ _ _ _ => (pg_nameI (i := 0) (show List.Nodup (["place"] : List Str) from by decide +kernel) rfl (by first | exact Or.inl rfl | exact Or.inr rfl))) (fun _ _ _ _ _ => (pe_ixI (ix_tupK K) (pvI 0) pe_intI (fun _ _ => rfl))) (by decide +kernel)) pa_nilI)) pa_nilI))))), ?_⟩
    have hwl := hP.len
    walk_at "rd"
    refine ⟨⟨ws, by walk_at "mv"⟩, comp1 (plain_list (by walk_at "mv" : SqL K _ a ws)) (by omega) (fun i v H => ∀ p, ps[i]? = some p → ShV H v p.1) (fun _ _ _ _ t h p e => (h p e).tup t) (fun i H2 kk hi s2 hk => ?_) (fun E2 ys2 H2 hE2 s2 hE'2 hl2 hr2 => ?_)⟩
    · have ew : ws[i]? = some ws[i] := List.getElem?_eq_getElem hi
      obtain ⟨p, ep, c, vx, vy, ec, hc, hx, hy⟩ := (show PtsV H2 ws ps by walk_at "mv").atV ew
      have ef : (ws[i]?).getD V.non = .ref c := by rw [ew]; exact ec
      rw [ef]
      walk_at "rd"
      refine hk _ _ (L2.Same.refl _) fun p' e' => ?_
      rw [ep] at e'; cases e'
      assumption
    have hq2 : ShL H2 ys2 (ps.map (·.1)) := ShL.map (by omega) hr2
    clear hr2
    refine ⟨E2, ys2, ps.map (·.1), D, m, rfl, SqL.of hE'2, hq2, hD, zD, fun q hq => ?_, hm, by rw [List.length_map]; omega, fun v3 t3 b3 H3 s3 A3 e3 n3 g3 => ?_⟩
    · obtain ⟨p, hp, rfl⟩ := List.mem_map.mp hq
      exact (hdv p hp).1
    rw [List.length_map] at n3
    walk_at "rd"
    refine ⟨⟨ws, by walk_at "mv"⟩, comp1 (plain_list (by walk_at "mv" : SqL K _ a ws)) (by omega) (fun i v H => ∀ p, ps[i]? = some p → ShV H v p.2) (fun _ _ _ _ t h p e => (h p e).tup t) (fun i H4 kk hi s4 hk => ?_) (fun E4 ys4 H4 hE4 s4 hE'4 hl4 hr4 => ?_)⟩
    · have ew : ws[i]? = some ws[i] := List.getElem?_eq_getElem hi
      obtain ⟨p, ep, c, vx, vy, ec, hc, hx, hy⟩ := (show PtsV H4 ws ps by walk_at "mv").atV ew
      have ef : (ws[i]?).getD V.non = .ref c := by rw [ew]; exact ec
      rw [ef]
      walk_at "rd"
      refine hk _ _ (L2.Same.refl _) fun p' e' => ?_
      rw [ep] at e'; cases e'
      assumption
    have hq4 : ShL H4 ys4 (ps.map (·.2)) := ShL.map (by omega) hr4
    clear hr4
    refine ⟨E4, ys4, ps.map (·.2), D, m, rfl, SqL.of hE'4, hq4, hD, zD, fun q hq => ?_, hm, by rw [List.length_map]; omega, fun v5 t5 b5 H5 s5 A5 e5 n5 g5 => ?_⟩
    · obtain ⟨p, hp, rfl⟩ := List.mem_map.mp hq
      exact (hdv p hp).2
    rw [List.length_map] at n5
    walk_at "rd"
    intro c hc
    exact k c v3 v5 t3 b3 t5 b5 _ (by walk_at "sm") upd_same (by walk_at "mv") (by walk_at "mv") e3 e5 n3 n5 g3 g5
theorem ok_share (F : FunAt K mg "share" s_share ["top", "bottom"]) (B : Blt mg) {A_PLAIN_WAYS B1_PLAIN_WAYS B2_PLAIN_WAYS B3_PLAIN_WAYS B4_PLAIN_WAYS : Addr} (G : Cst K mg A_PLAIN_WAYS B1_PLAIN_WAYS B2_PLAIN_WAYS B3_PLAIN_WAYS B4_PLAIN_WAYS) (D_greatest_common : DefOk P w K mg base CX0 1 "greatest_common" ["one", "other"] spGcd) : DefOk P w K mg base CX0 2 "share" ["top", "bottom"] spShare := by
  refine def_okI F sc_share (fun vs H Q E h => ?_) (fun f cdv A outer s H vs Q E hr h => ?_)
  · obtain ⟨a, b, rfl, _⟩ := h; rfl
  · obtain ⟨t, b, rfl, hb, hz, k⟩ := h
    have hu := hr.units
    refine ⟨_, (pss_consI (ps_ifI (pt_cmpRI op_eq (pvI 1) pe_intI (nomark _)) (pss_oneI ps_neverI) pss_nilI)
      (pss_consI (ps_setI (i := 2) sc_share.nd rfl (by first | exact Or.inl rfl | exact Or.inr rfl) (pe_fnI D_greatest_common hr pass0 (pa_consI (pvI 0) (pa_consI (pvI 1) pa_nilI))))
      (pss_consI (ps_ifI (pt_cmpRI op_lt (pvI 1) pe_intI (nomark _)) (pss_oneI (ps_setI (i := 2) sc_share.nd rfl (by first | exact Or.inl rfl | exact Or.inr rfl) (pe_unI un_neg (pvI 2)))) pss_nilI)
      (pss_oneI (ps_retI (pe_tupI (pa_consI (pe_opI op_fdivB (pvI 0) (pvI 2)) (pa_consI (pe_opI op_fdivB (pvI 1) (pvI 2)) pa_nilI)))))))), ?_⟩
    have g0 : (Int.gcd t b : Int) ≠ 0 := gcd_pos' t b hb
    have gz : Sz 9000 (Int.gcd t b : Int) := hz.le (by
      rw [Int.natAbs_natCast]
      exact Nat.le_of_dvd (by omega) (Int.gcd_dvd_natAbs_right t b))
    refine ⟨_, rfl, rfl, _, rfl, ?_⟩
    refine ifF (by simp [hb]) ?_
    refine ⟨_, rfl, _, rfl, t, b, rfl, ?_⟩
    refine ⟨_, rfl, _, _, rfl, rfl, _, rfl, ite_dec (fun hn => ?_) (fun hn => ?_)⟩
    · refine ⟨_, rfl, _, rfl, ?_⟩
      refine ⟨_, rfl, _, rfl, _, _, rfl, rfl, ⟨by omega, gz.neg⟩, _, rfl, _, rfl, _, _, rfl, rfl, ⟨by omega, gz.neg⟩, (by show 2 ≤ sizeLine; decide), fun p hp => ?_⟩
      have e := share_neg t b hn
      refine k _ _ (Same.new hp) ⟨p, rfl, ?_⟩
      rw [upd_same, ← e.1, ← e.2]
    · refine ⟨_, rfl, _, rfl, _, _, rfl, rfl, ⟨g0, gz⟩, _, rfl, _, rfl, _, _, rfl, rfl, ⟨g0, gz⟩, (by show 2 ≤ sizeLine; decide), fun p hp => ?_⟩
      have e := share_pos t b (by omega)
      refine k _ _ (Same.new hp) ⟨p, rfl, ?_⟩
      rw [upd_same, ← e.1, ← e.2]
theorem ok_step_across (F : FunAt K mg "step_across" s_step_across ["ones", "others", "i", "j"]) (B : Blt mg) {A_PLAIN_WAYS B1_PLAIN_WAYS B2_PLAIN_WAYS B3_PLAIN_WAYS B4_PLAIN_WAYS : Addr} (G : Cst K mg A_PLAIN_WAYS B1_PLAIN_WAYS B2_PLAIN_WAYS B3_PLAIN_WAYS B4_PLAIN_WAYS) : DefOk P w K mg base CX0 1 "step_across" ["ones", "others", "i", "j"] (spStepA K) := by
  refine def_okI F sc_step_across (fun vs H Q E h => ?_) (fun f cdv A outer s H vs Q E hr h => ?_)
  · obtain ⟨a, b, ws, us, pl, ql, i, j, p, q, rfl, _⟩ := h; rfl
  · obtain ⟨a, b, ws, us, pl, ql, i, j, p, q, rfl, ha, hP, hb, hQ, ei, ej, k⟩ := h
    have hu := hr.units
    refine ⟨_, (pss_oneI (ps_retI (pe_tupI (pa_consI (pe_opI op_sub (pe_ixI (ix_tupK K) (pe_ixI (ix_listK K) (pvI 1) (pvI 3) (fun _ _ => rfl)) pe_intI (fun _ _ => rfl)) (pe_ixI (ix_tupK K) (pe_ixI (ix_listK K) (pvI 0) (pvI 2) (fun _ _ => rfl)) pe_intI (fun _ _ => rfl))) (pa_consI (pe_opI op_sub (pe_ixI (ix_tupK K) (pe_ixI (ix_listK K) (pvI 1) (pvI 3) (fun _ _ => rfl)) pe_intI (fun _ _ => rfl)) (pe_ixI (ix_tupK K) (pe_ixI (ix_listK K) (pvI 0) (pvI 2) (fun _ _ => rfl)) pe_intI (fun _ _ => rfl))) (pa_consI (pvI 2) (pa_consI (pvI 3) pa_nilI))))))), ?_⟩
    obtain ⟨ap, wp, gp⟩ := hP.at ei
    obtain ⟨aq, wq, gq⟩ := hQ.at ej
    have xi : atI ws (i : Int) = some (.ref ap) := atI_nat' (j := i) rfl wp
    have xj : atI us (j : Int) = some (.ref aq) := atI_nat' (j := j) rfl wq
    walk_at "rd"
    intro c hc
    exact k c _ (Same.new hc) upd_same
theorem ok_turn_between (F : FunAt K mg "turn_between" s_turn_between ["one", "other"]) (B : Blt mg) {A_PLAIN_WAYS B1_PLAIN_WAYS B2_PLAIN_WAYS B3_PLAIN_WAYS B4_PLAIN_WAYS : Addr} (G : Cst K mg A_PLAIN_WAYS B1_PLAIN_WAYS B2_PLAIN_WAYS B3_PLAIN_WAYS B4_PLAIN_WAYS) : DefOk P w K mg base CX0 1 "turn_between" ["one", "other"] (spTurnB K) := by
  refine def_okI F sc_turn_between (fun vs H Q E h => ?_) (fun f cdv A outer s H vs Q E hr h => ?_)
  · obtain ⟨a, b, p, q, i, j, m, n, rfl, _⟩ := h; rfl
  · obtain ⟨a, b, p, q, i, j, m, n, rfl, ha, hb, zp, zq, k⟩ := h
    have hu := hr.units
    refine ⟨_, (pss_oneI (ps_retI (pe_opI op_sub (pe_opI op_mulA (pe_ixI (ix_tupK K) (pvI 0) pe_intI (fun _ _ => rfl)) (pe_ixI (ix_tupK K) (pvI 1) pe_intI (fun _ _ => rfl))) (pe_opI op_mulA (pe_ixI (ix_tupK K) (pvI 0) pe_intI (fun _ _ => rfl)) (pe_ixI (ix_tupK K) (pvI 1) pe_intI (fun _ _ => rfl)))))), ?_⟩
    have z1 := zp.1
    have z2 := zp.2
    have z3 := zq.1
    have z4 := zq.2
    walk_at "rd"
    exact k
theorem ok_times_to_nought (F : FunAt K mg "times_to_nought" s_times_to_nought ["steps"]) (B : Blt mg) {A_PLAIN_WAYS B1_PLAIN_WAYS B2_PLAIN_WAYS B3_PLAIN_WAYS B4_PLAIN_WAYS : Addr} (G : Cst K mg A_PLAIN_WAYS B1_PLAIN_WAYS B2_PLAIN_WAYS B3_PLAIN_WAYS B4_PLAIN_WAYS) (D_turn_between : DefOk P w K mg base CX0 1 "turn_between" ["one", "other"] (spTurnB K)) : DefOk P w K mg base CX0 2 "times_to_nought" ["steps"] (spTTN K) := by
  refine def_okI F sc_times_to_nought (fun vs H Q E h => ?_) (fun f cdv A outer s H vs Q E hr h => ?_)
  · obtain ⟨a, ws, ss, rfl, _⟩ := h; rfl
  · obtain ⟨a, ws, ss, rfl, ha, hS, zs, l1, l3, k⟩ := h
    have hu := hr.units
    refine ⟨_, (pss_consI (ps_ifI (pt_cmpRI op_eq (pe_callBI (call_lenK K) (by rfl) B.len PySem.boot_len (pa_consI (pvI 0) pa_nilI)) pe_intI (nomark _)) (pss_oneI (ps_retI (pe_lstI (pa_consI pe_intI pa_nilI)))) pss_nilI)
      (pss_consI (ps_ifI (pt_cmpRI op_eq (pe_callBI (call_lenK K) (by rfl) B.len PySem.boot_len (pa_consI (pvI 0) pa_nilI)) pe_intI (nomark _)) (pss_consI (ps_asgI (pvI 0) (pg_lstKI (n := 2) K rfl (pgs_consI (pg_nameI (i := 1) sc_times_to_nought.nd rfl (by first | exact Or.inl rfl | exact Or.inr rfl)) (pgs_consI (pg_nameI (i := 2) sc_times_to_nought.nd rfl (by first | exact Or.inl rfl | exact Or.inr rfl)) pgs_nilI))))
      (pss_oneI (ps_retI (pe_lstI (pa_consI (pe_opI op_sub (pe_opI op_mulA (pe_unI un_neg (pe_ixI (ix_tupK K) (pvI 1) pe_intI (fun _ _ => rfl))) (pe_ixI (ix_tupK K) (pvI 2) pe_intI (fun _ _ => rfl))) (pe_opI op_mulA (pe_ixI (ix_tupK K) (pvI 1) pe_intI (fun _ _ => rfl)) (pe_ixI (ix_tupK K) (pvI 2) pe_intI (fun _ _ => rfl)))) (pa_consI (pe_opI op_add (pe_opI op_mulA (pe_ixI (ix_tupK K) (pvI 1) pe_intI (fun _ _ => rfl)) (pe_ixI (ix_tupK K) (pvI 1) pe_intI (fun _ _ => rfl))) (pe_opI op_mulA (pe_ixI (ix_tupK K) (pvI 1) pe_intI (fun _ _ => rfl)) (pe_ixI (ix_tupK K) (pvI 1) pe_intI (fun _ _ => rfl)))) pa_nilI)))))) pss_nilI)
      (pss_consI (ps_asgI (pvI 0) (pg_lstKI (n := 3) K rfl (pgs_consI (pg_nameI (i := 3) sc_times_to_nought.nd rfl (by first | exact Or.inl rfl | exact Or.inr rfl)) (pgs_consI (pg_nameI (i := 4) sc_times_to_nought.nd rfl (by first | exact Or.inl rfl | exact Or.inr rfl)) (pgs_consI (pg_nameI (i := 5) sc_times_to_nought.nd rfl (by first | exact Or.inl rfl | exact Or.inr rfl)) pgs_nilI)))))
      (pss_oneI (ps_retI (pe_lstI (pa_consI (pe_fnI D_turn_between hr pass0 (pa_consI (pvI 4) (pa_consI (pvI 5) pa_nilI))) (pa_consI (pe_fnI D_turn_between hr pass0 (pa_consI (pvI 5) (pa_consI (pvI 3) pa_nilI))) (pa_consI (pe_fnI D_turn_between hr pass0 (pa_consI (pvI 3) (pa_consI (pvI 4) pa_nilI))) pa_nilI))))))))), ?_⟩
    have hwl := hS.len
    walk_at "rd"
    refine ite_dec (fun h => ?_) (fun h => ?_)
    · obtain ⟨r, rfl⟩ : ∃ r, ss = [r] := by
        match ss, l1, l3, h, hwl with
        | [r], _, _, _, _ => exact ⟨r, rfl⟩
        | [r, f], _, _, h, hwl => simp at h hwl; omega
        | [r, l, f], _, _, h, hwl => simp at h hwl; omega
      walk_at "rd"
      intro l hl
      exact k l _ (Same.new hl) hl upd_same
    walk_at "rd"
    refine ite_dec (fun h2 => ?_) (fun h2 => ?_)
    · obtain ⟨r, f, rfl⟩ : ∃ r f, ss = [r, f] := by
        match ss, l1, l3, h2, hwl with
        | [r], _, _, h, hwl => simp at h hwl; omega
        | [r, f], _, _, h, hwl => exact ⟨r, f, rfl⟩
        | [r, l, f], _, _, h, hwl => simp at h hwl; omega
      obtain ⟨v0, v1, rfl⟩ := len2 (l := ws) hwl
      obtain ⟨a0, e0, g0⟩ := hS.at (i := 0) rfl
      obtain ⟨a1, e1, g1⟩ := hS.at (i := 1) rfl
      cases e0; cases e1
      have z0 := zs r (by simp)
      have z1 := zs f (by simp)
      have z2 := z0.1
      have z3 := z0.2
      have z4 := z1.1
      have z5 := z1.2
      walk_at "rd"
      refine ⟨a, _, rfl, SqL.of ha, rfl, _, _, rfl, _, _, rfl, rfl, ?_⟩
      walk_at "rd"
      intro l hl
      exact k l _ (Same.new hl) hl upd_same
    obtain ⟨r, l, f, rfl⟩ : ∃ r l f, ss = [r, l, f] := by
      match ss, l1, l3, h, h2, hwl with
      | [r], _, _, h, h2, hwl => simp at h hwl; omega
      | [r, f], _, _, h, h2, hwl => simp at h2 hwl; omega
      | [r, l, f], _, _, h, h2, hwl => exact ⟨r, l, f, rfl⟩
    obtain ⟨v0, v1, v2, rfl⟩ := len3 (l := ws) hwl
    obtain ⟨a0, e0, g0⟩ := hS.at (i := 0) rfl
    obtain ⟨a1, e1, g1⟩ := hS.at (i := 1) rfl
    obtain ⟨a2, e2, g2⟩ := hS.at (i := 2) rfl
    cases e0; cases e1; cases e2
    have z0 := zs r (by simp)
    have z1 := zs l (by simp)
    have z2 := zs f (by simp)
    walk_at "rd"
    refine ⟨a, _, rfl, SqL.of ha, rfl, _, _, rfl, _, _, rfl, _, _, rfl, rfl, ?_⟩
    walk_at "rd"
    refine ⟨a1, a2, l.1, f.1, _, _, _, _, rfl, g1, g2, z1, z2, ?_⟩
    walk_at "rd"
    refine ⟨a2, a0, f.1, r.1, _, _, _, _, rfl, g2, g0, z2, z0, ?_⟩
    walk_at "rd"
    refine ⟨a0, a1, r.1, l.1, _, _, _, _, rfl, g0, g1, z0, z1, ?_⟩
    walk_at "rd"
    intro l9 hl
    exact k l9 _ (Same.new hl) hl upd_same
theorem ok_whole_places (F : FunAt K mg "whole_places" s_whole_places ["points"]) (B : Blt mg) {A_PLAIN_WAYS B1_PLAIN_WAYS B2_PLAIN_WAYS B3_PLAIN_WAYS B4_PLAIN_WAYS : Addr} (G : Cst K mg A_PLAIN_WAYS B1_PLAIN_WAYS B2_PLAIN_WAYS B3_PLAIN_WAYS B4_PLAIN_WAYS) (D_axes : DefOk P w K mg base CX0 4 "axes" ["points"] (spAxesD K)) : DefOk P w K mg base CX0 5 "whole_places" ["points"] (spWholeP K) := by
  refine def_okI F sc_whole_places (fun vs H Q E h => ?_) (fun f cdv A outer s H vs Q E hr h => ?_)
  · obtain ⟨a, ws, ps, D, n, z, rfl, _⟩ := h; rfl
  · obtain ⟨a, ws, ps, D, n, z, rfl, ha, hP, hD, zD, hz, hn, hov, hl, k⟩ := h
    have hu := hr.units
    refine ⟨_, (pss_consI (ps_asgI (pe_fnI D_axes hr pass0 (pa_consI (pvI 0) pa_nilI)) (pg_tupKI (n := 2) K rfl (pgs_consI (pg_nameI (i := 1) sc_whole_places.nd rfl (by first | exact Or.inl rfl | exact Or.inr rfl)) (pgs_consI (pg_nameI (i := 2) sc_whole_places.nd rfl (by first | exact Or.inl rfl | exact Or.inr rfl)) pgs_nilI))))
      (pss_oneI (ps_retI (show PEi _ _ (tZipL K _) from (pe_listzipI rfl B.list rfl B.zip (pa_consI (pe_ixI (ix_tupK K) (pvI 1) pe_intI (fun _ _ => rfl)) (pa_consI (pe_ixI (ix_tupK K) (pvI 2) pe_intI (fun _ _ => rfl)) pa_nilI))))))), ?_⟩
    walk_at "rd"
    refine ⟨a, ws, ps, D, max n z, rfl, SqL.of ha, hP, hD, zD.mono (by omega), fun p hp => ?_, by omega, by omega, fun c x y t1 b1 t2 b2 H1 s1 hc A1 A2 e1 e2 n1 n2 g1 g2 => ?_⟩
    · obtain ⟨o1, o2⟩ := hov p hp
      obtain ⟨b1, b2⟩ := ovp_bd4 hD zD ⟨o1, o2⟩ (max n z) (by omega) (by omega)
      exact ⟨⟨den_dvd o1, b1⟩, den_dvd o2, b2⟩
    refine ⟨c, _, rfl, SqT.of hc, rfl, _, _, rfl, _, _, rfl, rfl, ?_⟩
    have W1 : 0 < prodI b1 := by obtain ⟨_, _, _, _, _, _, _, _, zz, _⟩ := id A1; exact prodI_pos fun b hb => (zz b hb).1
    have W2 : 0 < prodI b2 := by obtain ⟨_, _, _, _, _, _, _, _, zz, _⟩ := id A2; exact prodI_pos fun b hb => (zz b hb).1
    have T1 : ∀ x ∈ t1, Sz n x := tops_sz W1 hD g1 e1 fun q hq => by obtain ⟨p, hp, rfl⟩ := List.mem_map.mp hq; exact (hov p hp).1
    have T2 : ∀ x ∈ t2, Sz n x := tops_sz W2 hD g2 e2 fun q hq => by obtain ⟨p, hp, rfl⟩ := List.mem_map.mp hq; exact (hov p hp).2
    obtain ⟨a1, lt1, lb1, rfl, h1, ht1, hb1, zt1, gt1, nn1, mm1⟩ := A1
    obtain ⟨a2, lt2, lb2, rfl, h2, ht2, hb2, zt2, gt2, nn2, mm2⟩ := A2
    walk_at "rd"
    refine ⟨lt1, lt2, _, _, rfl, SqL.of ht1, SqL.of ht2, by rw [List.length_map]; omega, fun l us H2 hl0 s2 hl2 hul hpr => ?_⟩
    refine k l us (t1.zip t2) (prodI b1) (prodI b2) H2 (s1.trans s2) (s1.free hl0) hl2 (pls_zip hul hpr) (zip_sz T1 T2) ⟨W1, W2, zip_toP e1 e2⟩ g1 g2
theorem ok_common_shares (F : FunAt K mg "common_shares" s_common_shares ["one", "other", "steps"]) (B : Blt mg) {A_PLAIN_WAYS B1_PLAIN_WAYS B2_PLAIN_WAYS B3_PLAIN_WAYS B4_PLAIN_WAYS : Addr} (G : Cst K mg A_PLAIN_WAYS B1_PLAIN_WAYS B2_PLAIN_WAYS B3_PLAIN_WAYS B4_PLAIN_WAYS) (D_share : DefOk P w K mg base CX0 2 "share" ["top", "bottom"] spShare) (D_step_across : DefOk P w K mg base CX0 1 "step_across" ["ones", "others", "i", "j"] (spStepA K)) (D_times_to_nought : DefOk P w K mg base CX0 2 "times_to_nought" ["steps"] (spTTN K)) (D_whole_places : DefOk P w K mg base CX0 5 "whole_places" ["points"] (spWholeP K)) : DefOk P w K mg base CX0 6 "common_shares" ["one", "other", "steps"] (spComSh K) := by
  refine def_okI F sc_common_shares (fun vs H Q E h => ?_) (fun f cdv A outer s H vs Q E hr h => ?_)
  · obtain ⟨a, b, e, ws, us, zs, ps, qs, ss, D, X, Y, n, z, rfl, _⟩ := h; rfl
  · obtain ⟨a, b, e, ws, us, zs, ps, qs, ss, D, X, Y, n, z, rfl, ha, hP, hb, hQ, he, hZ, hD, zD, hz, hn, ov1, ov2, p1, p20, q1, q20, hX, hY, hsel, hS, k⟩ := h
    have hu := hr.units
    refine ⟨_, (pss_consI (ps_setI (i := 3) sc_common_shares.nd rfl (by first | exact Or.inl rfl | exact Or.inr rfl) (pe_callBI (call_lenK K) (by rfl) B.len PySem.boot_len (pa_consI (pvI 2) pa_nilI)))
      (pss_consI (ps_setI (i := 4) sc_common_shares.nd rfl (by first | exact Or.inl rfl | exact Or.inr rfl) (pe_fnI D_whole_places hr pass0 (pa_consI (pe_opI op_cat (pe_compSI (os := ["x", "y", "i", "j"]) (caps := [(0, "one")]) ["one", "other", "steps", "many", "places", "often", "ones", "others", "x", "y", "i", "j", "much", "whole"] (defScope s_common_shares) (pi_listKI K (pvI 2)) (fun _ _ _ _ _ => (pg_tupKI (n := 4) K rfl (pgs_consI (pg_nameI (i := 0) (show List.Nodup (["x", "y", "i", "j", "one"] : List Str) from by decide +kernel) rfl (by first | exact Or.inl rfl | exact Or.inr rfl)) (pgs_consI (pg_nameI (i := 1) (show List.Nodup (["x", "y", "i", "j", "one"] : List Str) from by decide +kernel) rfl (by first | exact Or.inl rfl | exact Or.inr rfl)) (pgs_consI (pg_nameI (i := 2) (show List.Nodup (["x", "y", "i", "j", "one"] : List Str) from by decide +kernel) rfl (by first | exact Or.inl rfl | exact Or.inr rfl)) (pgs_consI (pg_nameI (i := 3) (show List.Nodup (["x", "y", "i", "j", "one"] : List Str) from by decide +kernel) rfl (by first | exact Or.inl rfl | exact Or.inr rfl)) pgs_nilI)))))) (fun _ _ _ _ _ => (pe_ixI (ix_listK K) (pvI 4) (pvI 2) (fun _ _ => rfl))) (by decide +kernel)) (pe_compSI (os := ["x", "y", "i", "j"]) (caps := [(1, "other")]) ["one", "other", "steps", "many", "places", "often", "ones", "others", "x", "y", "i", "j", "much", "whole"] (defScope s_common_shares) (pi_listKI K (pvI 2)) (fun _ _ _ _ _ => (pg_tupKI (n := 4) K rfl (pgs_consI (pg_nameI (i := 0) (show List.Nodup (["x", "y", "i", "j", "other"] : List Str) from by decide +kernel) rfl (by first | exact Or.inl rfl | exact Or.inr rfl)) (pgs_consI (pg_nameI (i := 1) (show List.Nodup (["x", "y", "i", "j", "other"] : List Str) from by decide +kernel) rfl (by first | exact Or.inl rfl | exact Or.inr rfl)) (pgs_consI (pg_nameI (i := 2) (show List.Nodup (["x", "y", "i", "j", "other"] : List Str) from by decide +kernel) rfl (by first | exact Or.inl rfl | exact Or.inr rfl)) (pgs_consI (pg_nameI (i := 3) (show List.Nodup (["x", "y", "i", "j", "other"] : List Str) from by decide +kernel) rfl (by first | exact Or.inl rfl | exact Or.inr rfl)) pgs_nilI)))))) (fun _ _ _ _ _ => (pe_ixI (ix_listK K) (pvI 4) (pvI 3) (fun _ _ => rfl))) (by decide +kernel))) pa_nilI)))
      (pss_consI (ps_setI (i := 5) sc_common_shares.nd rfl (by first | exact Or.inl rfl | exact Or.inr rfl) (pe_fnI D_times_to_nought hr pass0 (pa_consI (pe_compSI (os := ["k"]) (caps := [(4, "places"), (3, "many")]) ["one", "other", "steps", "many", "places", "often", "ones", "others", "x", "y", "i", "j", "much", "whole"] (defScope s_common_shares) (pi_range1I rfl B.range (pa_consI (pvI 3) pa_nilI)) (fun _ _ _ _ _ => (pg_nameI (i := 0) (show List.Nodup (["k", "places", "many"] : List Str) from by decide +kernel) rfl (by first | exact Or.inl rfl | exact Or.inr rfl))) (fun _ _ _ _ _ => (pe_fnI D_step_across hr pass0 (pa_consI (pe_sliceI (sl_listK K) (pvI 1) po_noneI (po_someI (pvI 2))) (pa_consI (pe_sliceI (sl_listK K) (pvI 1) (po_someI (pvI 2)) po_noneI) (pa_consI (pvI 0) (pa_consI (pvI 0) pa_nilI)))))) (by decide +kernel)) pa_nilI)))
      (pss_consI (ps_parI (i := 6) (j := 7) rfl sc_common_shares.nd rfl rfl (by decide) rfl rfl (pa_consI (pe_opI op_rep (pe_lstI (pa_consI pe_intI pa_nilI)) (pe_callBI (call_lenK K) (by rfl) B.len PySem.boot_len (pa_consI (pvI 0) pa_nilI))) (pa_consI (pe_opI op_rep (pe_lstI (pa_consI pe_intI pa_nilI)) (pe_callBI (call_lenK K) (by rfl) B.len PySem.boot_len (pa_consI (pvI 1) pa_nilI))) pa_nilI)) rfl)
      (pss_consI (ps_forI PassesOwn.never rfl (show PIi _ _ _ (iZip K _) from (pi_zipI rfl B.zip (pa_consI (pvI 2) (pa_consI (pvI 5) pa_nilI)))) (pg_tupKI (n := 2) K rfl (pgs_consI (pg_tupKI (n := 4) K rfl (pgs_consI (pg_nameI (i := 8) sc_common_shares.nd rfl (by first | exact Or.inl rfl | exact Or.inr rfl)) (pgs_consI (pg_nameI (i := 9) sc_common_shares.nd rfl (by first | exact Or.inl rfl | exact Or.inr rfl)) (pgs_consI (pg_nameI (i := 10) sc_common_shares.nd rfl (by first | exact Or.inl rfl | exact Or.inr rfl)) (pgs_consI (pg_nameI (i := 11) sc_common_shares.nd rfl (by first | exact Or.inl rfl | exact Or.inr rfl)) pgs_nilI))))) (pgs_consI (pg_nameI (i := 12) sc_common_shares.nd rfl (by first | exact Or.inl rfl | exact Or.inr rfl)) pgs_nilI)))
      (pss_consI (ps_augSI (pvI 6) (pvI 10) (get_listK K) (pvI 12) ip_add set_list)
      (pss_oneI (ps_augSI (pvI 7) (pvI 11) (get_listK K) (pvI 12) ip_add set_list))))
      (pss_consI (ps_setI (i := 13) sc_common_shares.nd rfl (by first | exact Or.inl rfl | exact Or.inr rfl) (pe_callBI (call_sumL rfl) (by rfl) B.sum PyProof.Rows.boot_sum (pa_consI (pvI 5) pa_nilI)))
      (pss_oneI (ps_retI (pe_tupI (pa_consI (pe_compSI (os := ["much"]) (caps := [(13, "whole")]) ["one", "other", "steps", "many", "places", "often", "ones", "others", "x", "y", "i", "j", "much", "whole"] (defScope s_common_shares) (pi_listKI K (pvI 6)) (fun _ _ _ _ _ => (pg_nameI (i := 0) (show List.Nodup (["much", "whole"] : List Str) from by decide +kernel) rfl (by first | exact Or.inl rfl | exact Or.inr rfl))) (fun _ _ _ _ _ => (pe_fnI D_share hr pass0 (pa_consI (pvI 0) (pa_consI (pvI 1) pa_nilI)))) (by decide +kernel)) (pa_consI (pe_compSI (os := ["much"]) (caps := [(13, "whole")]) ["one", "other", "steps", "many", "places", "often", "ones", "others", "x", "y", "i", "j", "much", "whole"] (defScope s_common_shares) (pi_listKI K (pvI 7)) (fun _ _ _ _ _ => (pg_nameI (i := 0) (show List.Nodup (["much", "whole"] : List Str) from by decide +kernel) rfl (by first | exact Or.inl rfl | exact Or.inr rfl))) (fun _ _ _ _ _ => (pe_fnI D_share hr pass0 (pa_consI (pvI 0) (pa_consI (pvI 1) pa_nilI)))) (by decide +kernel)) pa_nilI))))))))))), ?_⟩
    have hzl := hZ.len
    obtain ⟨ts, htl, hts⟩ := sel_list hsel
    have hm3 : 1 ≤ ss.length ∧ ss.length ≤ 3 := by rcases hS with ⟨r, rfl, _⟩ | ⟨r, f, rfl, _⟩ | ⟨r, l, f, rfl, _⟩ <;> simp
    obtain ⟨m1, m3⟩ := hm3
    walk_at "rd"
    obtain ⟨fa, J1, T1⟩ := plain_sts (SqL.of (K := K) he) hZ
    refine ⟨⟨_, SqL.of he⟩, comp4 J1 T1 (by omega) (fun i v H => ∀ t, ts[i]? = some t → PtV H v t.2.1.1 t.2.1.2) (fun _ _ _ _ tt h t e => (h t e).tup tt) (fun i H2 kk hi s2 hk => ?_) (fun D1 ys1 H1 hD1 s1 hd1 hl1 hr1 => ?_)⟩
    · have es : ss[i]? = some (ss[i]'hi) := List.getElem?_eq_getElem _
      have et : ts[i]? = some (ts[i]'(by omega)) := List.getElem?_eq_getElem _
      have st := hts i _ _ es et
      rw [es]
      generalize ts[i]'(by omega) = t at *
      generalize ss[i]'hi = sx at *
      obtain ⟨v, hv, gv⟩ := hP.at st.i
      have e2 : sx.2.1 = (t.1.1 : Int) := by rw [st.ij]
      walk_at "rd"
      refine ⟨a, _, _, v, rfl, rfl, SqL.of (s2 _ _ ha), by show atI ws sx.2.1 = some v; rw [e2]; exact atI_nat' (j := t.1.1) rfl hv, ?_⟩
      refine hk _ _ (L2.Same.refl _) fun t' e' => ?_
      rw [et] at e'; cases e'
      exact gv.same s2
    have P1 : PtsV H1 ys1 (ts.map (·.2.1)) := pts_of_sel (by omega) hr1
    replace ha := s1 _ _ ha
    replace hb := s1 _ _ hb
    replace he := s1 _ _ he
    replace hP := hP.same s1
    replace hQ := hQ.same s1
    replace hZ := hZ.same s1
    clear hr1 J1 T1
    obtain ⟨fa, J1, T1⟩ := plain_sts (SqL.of (K := K) he) hZ
    walk_at "rd"
    refine ⟨⟨_, SqL.of he⟩, comp4 J1 T1 (by omega) (fun i v H => ∀ t, ts[i]? = some t → PtV H v t.2.2.1 t.2.2.2) (fun _ _ _ _ tt h t e => (h t e).tup tt) (fun i H2 kk hi s2 hk => ?_) (fun D2 ys2 H2 hD2 s2 hd2 hl2 hr2 => ?_)⟩
    · have es : ss[i]? = some (ss[i]'hi) := List.getElem?_eq_getElem _
      have et : ts[i]? = some (ts[i]'(by omega)) := List.getElem?_eq_getElem _
      have st := hts i _ _ es et
      rw [es]
      generalize ts[i]'(by omega) = t at *
      generalize ss[i]'hi = sx at *
      obtain ⟨v, hv, gv⟩ := hQ.at st.j
      have e2 : sx.2.2 = (t.1.2 : Int) := by rw [st.ij]
      walk_at "rd"
      refine ⟨b, _, _, v, rfl, rfl, SqL.of (s2 _ _ hb), by show atI us sx.2.2 = some v; rw [e2]; exact atI_nat' (j := t.1.2) rfl hv, ?_⟩
      refine hk _ _ (L2.Same.refl _) fun t' e' => ?_
      rw [et] at e'; cases e'
      exact gv.same s2
    have P2 : PtsV H2 ys2 (ts.map (·.2.2)) := pts_of_sel (by omega) hr2
    replace ha := s2 _ _ ha
    replace hb := s2 _ _ hb
    replace he := s2 _ _ he
    replace hP := hP.same s2
    replace hQ := hQ.same s2
    replace hZ := hZ.same s2
    replace P1 := P1.same s2
    replace hd1 := s2 _ _ hd1
    have sA := s1.trans s2
    clear hr2 J1 T1 s1 s2
    refine ⟨D1, D2, ys1, ys2, rfl, rfl, hd1, hd2, Nat.le_of_lt (small_line (by omega)), fun D3 hD3 => ?_⟩
    have s3 := Same.new (o := .lst (ys1 ++ ys2)) hD3
    have ovs : ∀ p ∈ ts.map (·.2.1) ++ ts.map (·.2.2), OvP D n p := fun p hp => by
      rcases List.mem_append.mp hp with hp | hp
      · obtain ⟨t, ht, rfl⟩ := List.mem_map.mp hp
        obtain ⟨k', ek⟩ := List.mem_iff_getElem?.mp ht
        have hk' : k' < ts.length := (List.getElem?_eq_some_iff.mp ek).1
        exact ov1 _ (List.mem_of_getElem? (hts k' _ t (List.getElem?_eq_getElem (show k' < ss.length by omega)) ek).i)
      · obtain ⟨t, ht, rfl⟩ := List.mem_map.mp hp
        obtain ⟨k', ek⟩ := List.mem_iff_getElem?.mp ht
        have hk' : k' < ts.length := (List.getElem?_eq_some_iff.mp ek).1
        exact ov2 _ (List.mem_of_getElem? (hts k' _ t (List.getElem?_eq_getElem (show k' < ss.length by omega)) ek).j)
    walk_at "rd"
    refine ⟨D3, ys1 ++ ys2, ts.map (·.2.1) ++ ts.map (·.2.2), D, n, z, rfl, upd_same, (P1.same s3).append (P2.same s3), hD, zD, hz, by omega, ovs, by rw [List.length_append, List.length_map, List.length_map]; omega, fun lp ups plc X' Y' H4 s4 hlp0 hlp hPc zc hOv dX dY => ?_⟩
    have s34 := s3.trans s4
    replace ha := s34 _ _ ha
    replace hb := s34 _ _ hb
    replace he := s34 _ _ he
    replace hP := hP.same s34
    replace hQ := hQ.same s34
    replace hZ := hZ.same s34
    replace sA := sA.trans s34
    clear P1 P2 hd1 hd2 hlp0 s3 s34 s4 hl1 hl2
    have hcl : plc.length = 2 * ss.length := by
      have := congrArg List.length hOv.eq
      rw [toP_len, List.length_append, List.length_map, List.length_map] at this
      omega
    have hul : ups.length = plc.length := hPc.len
    walk_at "rd"
    refine ⟨by omega, by omega, comp1 (plain_range 0 ((zs.length : Int)).toNat _) (by omega) (fun i v H => ∀ s, (newSt (plc.take ss.length) (plc.drop ss.length) ss.length)[i]? = some s → StV H v s) (fun _ _ _ _ tt h s e => (h s e).tup tt) (fun i H5 kk hi s5 hk => ?_) (fun lo yo H5 hlo0 s5 hlo hyl hr => ?_)⟩
    · have hi' : i < ss.length := by omega
      have et : ts[i]? = some (ts[i]'(by omega)) := List.getElem?_eq_getElem _
      obtain ⟨f, g, f1, g1, f2, g2⟩ := new_pl htl hts hOv et
      have en := newSt_at hi' f1 g1
      walk_at "rd"
      refine ⟨lp, _, rfl, SqL.of (s5 _ _ hlp), fun c1 hc1 => ?_⟩
      rw [cut_to ups _ ss.length (by omega)]
      have w1 := Same.new (o := .lst (ups.take ss.length)) hc1
      walk_at "rd"
      refine ⟨lp, _, rfl, SqL.of (w1 _ _ (s5 _ _ hlp)), fun c2 hc2 => ?_⟩
      rw [cut_dropV ups _ ss.length (by omega) (by omega)]
      have w2 := Same.new (o := .lst (ups.drop ss.length)) hc2
      walk_at "rd"
      refine ⟨c1, c2, _, _, _, _, i, i, f, g, by rw [Int.zero_add], w2 _ _ upd_same, (((hPc.take ss.length).same s5).same w1).same w2, upd_same, (((hPc.drop ss.length).same s5).same w1).same w2, f1, g1, fun c3 H6 s6 h6 => ?_⟩
      refine hk _ _ ((w1.trans w2).trans s6) fun s' e' => ?_
      rw [en] at e'
      cases e'
      exact ⟨c3, rfl, h6⟩
    have hN := new_holds hX hY htl hts hOv hS
    have zN := new_sz (m := ss.length) zc
    have hNl := newSt_len (plc.take ss.length) (plc.drop ss.length) ss.length
    have fin := fun (ms1 ms2 : List Int) => mean_fin (ms1 := ms1) (ms2 := ms2) hX hY htl hts hOv hS
    have hTl := tn_len hN
    have tnn := tn_nn hN
    have tps := tn_pos hN
    have tsz := tn_sz zN
    generalize newSt (plc.take ss.length) (plc.drop ss.length) ss.length = S at *
    have hSo : StsV H5 yo S := ⟨by omega, fun i v s e1 e2 => hr i v e1 s e2⟩
    walk_at "rd"
    refine ⟨lo, yo, S, rfl, hlo, hSo, fun s hs => ⟨(zN s hs).1.mono (by omega), (zN s hs).2.mono (by omega)⟩, by omega, by omega, fun lt H6 s6 hlt0 hlt => ?_⟩
    have s56 := s5.trans s6
    replace ha := s56 _ _ ha
    replace hb := s56 _ _ hb
    replace he := s56 _ _ he
    replace hP := hP.same s56
    replace hQ := hQ.same s56
    replace hZ := hZ.same s56
    replace sA := sA.trans s56
    clear hr hSo hlo hlo0 hlt0 s5 s6 s56 hlp hPc zc ovs dX dY
    have hPl := hP.len
    have hQl := hQ.len
    walk_at "rd"
    intro g1 hg1
    have w1 := Same.new (o := .lst [.int 0]) hg1
    walk_at "rd"
    refine ⟨g1, _, _, rfl, rfl, upd_same, by omega, by omega, Nat.le_of_lt (small_line (by simp; omega)), fun l1 hl1 => ?_⟩
    rw [zeros_flat]
    have w2 := Same.new (o := .lst ((List.replicate ws.length (0 : Int)).map V.int)) hl1
    have n1 : H6 l1 = none := w1.free hl1
    walk_at "rd"
    intro g2 hg2
    have w3 := Same.new (o := .lst [.int 0]) hg2
    walk_at "rd"
    refine ⟨g2, _, _, rfl, rfl, upd_same, by omega, by omega, Nat.le_of_lt (small_line (by simp; omega)), fun l2 hl2 => ?_⟩
    rw [zeros_flat]
    have w4 := Same.new (o := .lst ((List.replicate us.length (0 : Int)).map V.int)) hl2
    have n2 : H6 l2 = none := w1.free (w2.free (w3.free hl2))
    have hl1' := w4 _ _ (w3 _ _ (upd_same (H := upd H6 g1 (.lst [.int 0])) (a := l1) (o := .lst ((List.replicate ws.length (0 : Int)).map V.int))))
    have hl2' := upd_same (H := upd (upd (upd H6 g1 (.lst [.int 0])) l1 (.lst ((List.replicate ws.length (0 : Int)).map V.int))) g2 (.lst [.int 0])) (a := l2) (o := .lst ((List.replicate us.length (0 : Int)).map V.int))
    have n12 : l1 ≠ l2 := ne_of_none (w3 _ _ upd_same) hl2
    have w6 := ((w1.trans w2).trans w3).trans w4
    clear w1 w2 w3 w4 hg1 hl1 hg2 hl2
    generalize upd (upd (upd (upd H6 g1 (.lst [.int 0])) l1 (.lst ((List.replicate ws.length (0 : Int)).map V.int))) g2 (.lst [.int 0])) l2 (.lst ((List.replicate us.length (0 : Int)).map V.int)) = H7 at *
    refine ⟨_, _, rfl, ?_⟩
    walk_at "rd"
    refine ⟨_, _, rfl, ⟨_, SqL.of (w6 _ _ he)⟩, ⟨_, SqL.of (w6 _ _ hlt)⟩, for_zip (xs := zs) (ys := (tnI S).map V.int) (fun i σ H' => ∃ (ms1 ms2 : List Int) (y8 y9 y10 y11 y12 : Option V), σ = [some (.ref a), some (.ref b), some (.ref e), some (.int (zs.length : Int)), some (.ref lp), some (.ref lt), some (.ref l1), some (.ref l2), y8, y9, y10, y11, y12, none] ∧ Same H6 H' ∧ H' l1 = some (.lst (ms1.map V.int)) ∧ H' l2 = some (.lst (ms2.map V.int)) ∧ ms1.length = ps.length ∧ ms2.length = qs.length ∧ (∀ m ∈ ms1, 0 ≤ m ∧ m ≤ ((tnI S).take i).sum) ∧ (∀ m ∈ ms2, 0 ≤ m ∧ m ≤ ((tnI S).take i).sum) ∧
      (∀ cs : List Rat, cs.length = ps.length → dotR ms1 cs = accS cs ((tnI S).take i) ((ts.map (·.1.1)).take i)) ∧ (∀ cs : List Rat, cs.length = qs.length → dotR ms2 cs = accS cs ((tnI S).take i) ((ts.map (·.1.2)).take i)))
      ⟨_, _, none, none, none, none, none, rfl, w6, hl1', hl2', by rw [List.length_replicate]; omega, by rw [List.length_replicate]; omega, zeros_ok _, zeros_ok _, fun cs _ => by rw [dotR_zero]; rfl, fun cs _ => by rw [dotR_zero]; rfl⟩ ?_ ?_ ?_⟩
    · rintro i σ H8 ⟨ms1, ms2, y8, y9, y10, y11, y12, rfl, s8, h1, h2, _⟩
      exact ⟨SqL.of (s8 _ _ he), SqL.of (s8 _ _ hlt)⟩
    · rintro i g σ H8 H9 hi ⟨ms1, ms2, y8, y9, y10, y11, y12, rfl, s8, h1, h2, q1', q2', q3, q4, q5, q6⟩ s89 hg
      rw [List.length_map, hTl, hNl] at hi
      have hi1 : i < ss.length := by omega
      have es : ss[i]? = some (ss[i]'hi1) := List.getElem?_eq_getElem _
      have et : ts[i]? = some (ts[i]'(by omega)) := List.getElem?_eq_getElem _
      have em : (tnI S)[i]? = some ((tnI S)[i]'(by omega)) := List.getElem?_eq_getElem _
      have st := hts i _ _ es et
      obtain ⟨az, ez, gz⟩ := hZ.at es
      have t0 := tnn _ (List.mem_of_getElem? em)
      rw [ez, int_at em] at hg
      generalize ts[i]'(by omega) = t at *
      generalize ss[i]'hi1 = sx at *
      generalize (tnI S)[i]'(by omega) = mu at *
      have s9 := s8.trans s89
      replace h1 := s89 _ _ h1
      replace h2 := s89 _ _ h2
      refine ⟨g, _, rfl, hg, rfl, _, _, rfl, az, _, rfl, SqT.of (s9 _ _ gz), rfl, _, _, rfl, _, _, rfl, _, _, rfl, _, _, rfl, rfl, _, _, rfl, rfl, ?_⟩
      clear hg s89 s8
      have j1 := (List.getElem?_eq_some_iff.mp st.i).1
      have j2 := (List.getElem?_eq_some_iff.mp st.j).1
      have e21 : sx.2.1 = (t.1.1 : Int) := by rw [st.ij]
      have e22 : sx.2.2 = (t.1.2 : Int) := by rw [st.ij]
      rw [e21, e22]
      have a1 : ms1[t.1.1]? = some (ms1[t.1.1]'(by omega)) := List.getElem?_eq_getElem _
      have a2 : ms2[t.1.2]? = some (ms2[t.1.2]'(by omega)) := List.getElem?_eq_getElem _
      walk_at "rd"
      refine ⟨l1, _, t.1.1, _, rfl, rfl, SqL.of h1, int_at' a1, ?_⟩
      walk_at "rd"
      refine ⟨l1, _, _, t.1.1, rfl, rfl, h1, ixN_of (by omega) (by rw [List.length_map]; omega), ?_⟩
      have u1 : Same H6 (upd H9 l1 (.lst ((ms1.map V.int).set t.1.1 (.int (ms1[t.1.1]'(by omega) + mu))))) := same_upd n1 s9
      have u2 : (upd H9 l1 (.lst ((ms1.map V.int).set t.1.1 (.int (ms1[t.1.1]'(by omega) + mu))))) l2 = some (.lst (ms2.map V.int)) := by rw [upd_ne n12.symm]; exact h2
      have u3 : (upd H9 l1 (.lst ((ms1.map V.int).set t.1.1 (.int (ms1[t.1.1]'(by omega) + mu))))) l1 = some (.lst ((ms1.set t.1.1 (ms1[t.1.1]'(by omega) + mu)).map V.int)) := by rw [upd_same, List.map_set]
      generalize upd H9 l1 (.lst ((ms1.map V.int).set t.1.1 (.int (ms1[t.1.1]'(by omega) + mu)))) = H10 at *
      walk_at "rd"
      refine ⟨l2, _, t.1.2, _, rfl, rfl, SqL.of u2, int_at' a2, ?_⟩
      walk_at "rd"
      refine ⟨l2, _, _, t.1.2, rfl, rfl, u2, ixN_of (by omega) (by rw [List.length_map]; omega), ?_⟩
      refine ⟨ms1.set t.1.1 (ms1[t.1.1]'(by omega) + mu), ms2.set t.1.2 (ms2[t.1.2]'(by omega) + mu), _, _, _, _, _, rfl, same_upd n2 u1, by rw [upd_ne n12]; exact u3, by rw [upd_same, List.map_set], by rw [List.length_set]; exact q1', by rw [List.length_set]; exact q2', set_ok a1 em t0 q3, set_ok a2 em t0 q4, fun cs hcs => ?_, fun cs hcs => ?_⟩
      · have ec : cs[t.1.1]? = some (cs[t.1.1]'(by omega)) := List.getElem?_eq_getElem _
        rw [dotR_set ms1 cs _ _ mu _ a1 ec, q5 cs hcs, accS_take cs (tnI S) (ts.map (·.1.1)) i mu t.1.1 em (by rw [List.getElem?_map, et]; rfl), List.getD_eq_getElem?_getD, ec]; rfl
      · have ec : cs[t.1.2]? = some (cs[t.1.2]'(by omega)) := List.getElem?_eq_getElem _
        rw [dotR_set ms2 cs _ _ mu _ a2 ec, q6 cs hcs, accS_take cs (tnI S) (ts.map (·.1.2)) i mu t.1.2 em (by rw [List.getElem?_map, et]; rfl), List.getD_eq_getElem?_getD, ec]; rfl
    rintro σ H8 ⟨ms1, ms2, y8, y9, y10, y11, y12, rfl, s8, h1, h2, q1', q2', q3, q4, q5, q6⟩
    have eI : min zs.length ((tnI S).map V.int).length = ss.length := by rw [List.length_map]; omega
    rw [eI] at q3 q4 q5 q6
    rw [List.take_of_length_le (show (tnI S).length ≤ ss.length by omega)] at q3 q4
    have q5' : ∀ cs : List Rat, cs.length = ps.length → dotR ms1 cs = accS cs (tnI S) (ts.map (·.1.1)) := fun cs hc => by
      have := q5 cs hc
      rw [List.take_of_length_le (by omega), List.take_of_length_le (by rw [List.length_map]; omega)] at this
      exact this
    have q6' : ∀ cs : List Rat, cs.length = qs.length → dotR ms2 cs = accS cs (tnI S) (ts.map (·.1.2)) := fun cs hc => by
      have := q6 cs hc
      rw [List.take_of_length_le (by omega), List.take_of_length_le (by rw [List.length_map]; omega)] at this
      exact this
    have mean := fin ms1 ms2 q1' q2' (fun m hm => (q3 m hm).1) (fun m hm => (q4 m hm).1) q5' q6'
    have zW : Sz (2 * n + 6) (tnI S).sum := (sum3_sz tsz (by omega)).mono (by omega)
    clear q5 q6 q5' q6' fin eI
    walk_at "rd"
    refine ⟨lt, tnI S, rfl, SqL.of (s8 _ _ hlt), ?_⟩
    generalize (tnI S).sum = W at *
    have wz : Sz 9000 W := zW.mono (by omega)
    have szm : ∀ m : Int, 0 ≤ m ∧ m ≤ W → Sz (2 * n + 6) m := fun m hm => zW.le (by omega)
    walk_at "rd"
    refine ⟨⟨_, SqL.of h1⟩, comp1 (plain_list (SqL.of h1)) (by rw [List.length_map]; omega) (fun i v H => ∀ m, ms1[i]? = some m → ShV H v (Rat.divInt m W)) (fun _ _ _ _ tt h m e => (h m e).tup tt) (fun i H9 kk hi s9 hk => ?_) (fun c1 yc1 H9 hc10 s9 hc1 hy1 hr1 => ?_)⟩
    · rw [List.length_map] at hi
      have em : ms1[i]? = some (ms1[i]'hi) := List.getElem?_eq_getElem _
      rw [int_at em]
      walk_at "rd"
      refine ⟨_, W, rfl, by omega, wz, fun v H10 s10 hv => ?_⟩
      refine hk _ _ s10 fun m e => ?_
      rw [em] at e; cases e
      exact hv
    have S1 : ShL H9 yc1 (ms1.map fun m => Rat.divInt m W) := shl_ints (by rw [List.length_map] at hy1; exact hy1) hr1
    walk_at "rd"
    refine ⟨⟨_, SqL.of (s9 _ _ h2)⟩, comp1 (plain_list (SqL.of (s9 _ _ h2))) (by rw [List.length_map]; omega) (fun i v H => ∀ m, ms2[i]? = some m → ShV H v (Rat.divInt m W)) (fun _ _ _ _ tt h m e => (h m e).tup tt) (fun i H10 kk hi s10 hk => ?_) (fun c2 yc2 H10 hc20 s10 hc2 hy2 hr2 => ?_)⟩
    · rw [List.length_map] at hi
      have em : ms2[i]? = some (ms2[i]'hi) := List.getElem?_eq_getElem _
      rw [int_at em]
      walk_at "rd"
      refine ⟨_, W, rfl, by omega, wz, fun v H11 s11 hv => ?_⟩
      refine hk _ _ s11 fun m e => ?_
      rw [em] at e; cases e
      exact hv
    have S2 : ShL H10 yc2 (ms2.map fun m => Rat.divInt m W) := shl_ints (by rw [List.length_map] at hy2; exact hy2) hr2
    walk_at "rd"
    intro c hc
    have wc := Same.new (o := .tup [.ref c1, .ref c2]) hc
    have sF := ((sA.trans s8).trans s9).trans s10
    have bdm : ∀ ms : List Int, (∀ m ∈ ms, 0 ≤ m ∧ m ≤ W) → ∀ r ∈ ms.map (fun m => Rat.divInt m W), Bd (2 * n + 10) r := fun ms hm r hr => by
      obtain ⟨m, h1, rfl⟩ := List.mem_map.mp hr
      exact (Bd.of (szm m (hm m h1)) zW (by omega)).mono (by omega)
    exact k c c1 c2 yc1 yc2 _ _ _ (sF.trans wc) upd_same ((sA.trans s8).free hc10) (((sA.trans s8).trans s9).free hc20) (fun e => by subst e; rw [hc1] at hc20; cases hc20) (wc _ _ (s10 _ _ hc1)) (wc _ _ hc2) ((S1.same s10).same wc) (S2.same wc) (bdm ms1 q3) (bdm ms2 q4) mean
theorem ok_along (F : FunAt K mg "along" s_along ["places", "way"]) (B : Blt mg) {A_PLAIN_WAYS B1_PLAIN_WAYS B2_PLAIN_WAYS B3_PLAIN_WAYS B4_PLAIN_WAYS : Addr} (G : Cst K mg A_PLAIN_WAYS B1_PLAIN_WAYS B2_PLAIN_WAYS B3_PLAIN_WAYS B4_PLAIN_WAYS) : DefOk P w K mg base CX0 1 "along" ["places", "way"] (spAlong K) := by
  refine def_okI F sc_along (fun vs H Q E h => ?_) (fun f cdv A outer s H vs Q E hr h => ?_)
  · obtain ⟨a, b, ws, pl, w, rfl, _⟩ := h; rfl
  · obtain ⟨a, b, ws, pl, w, rfl, ha, hP, hw, zp, zw, hl, k⟩ := h
    have hu := hr.units
    refine ⟨_, (pss_oneI (ps_retI (pe_compSI (os := ["x", "y"]) (caps := [(1, "way")]) ["places", "way"] (defScope s_along) (pi_listKI K (pvI 0)) (fun _ _ _ _ _ => (pg_tupKI (n := 2) K rfl (pgs_consI (pg_nameI (i := 0) (show List.Nodup (["x", "y", "way"] : List Str) from by decide +kernel) rfl (by first | exact Or.inl rfl | exact Or.inr rfl)) (pgs_consI (pg_nameI (i := 1) (show List.Nodup (["x", "y", "way"] : List Str) from by decide +kernel) rfl (by first | exact Or.inl rfl | exact Or.inr rfl)) pgs_nilI)))) (fun _ _ _ _ _ => (pe_opI op_add (pe_opI op_mulA (pvI 0) (pe_ixI (ix_tupK K) (pvI 2) pe_intI (fun _ _ => rfl))) (pe_opI op_mulA (pvI 1) (pe_ixI (ix_tupK K) (pvI 2) pe_intI (fun _ _ => rfl))))) (by decide +kernel)))), ?_⟩
    have z3 := zw.1
    have z4 := zw.2
    have hwl := hP.len
    walk_at "rd"
    refine ⟨⟨_, SqL.of ha⟩, comp2 (plain_pls (SqL.of ha) hP) (by omega) (fun i v _ => v = V.int (dt w ((pl[i]?).getD (0, 0)))) (fun _ _ _ _ _ h => h) (fun i H2 kk hi s2 hk => ?_) (fun E us H2 hE s2 hE2 hlu hr => ?_)⟩
    · have hw2 := SqT.same' hw s2
      have ep : pl[i]? = some (pl[i]'(by omega)) := List.getElem?_eq_getElem _
      have zi := zp _ (List.getElem_mem (show i < pl.length by omega))
      rw [ep] at hk ⊢
      generalize pl[i]'(by omega) = p at *
      have z1 := zi.1
      have z2 := zi.2
      walk_at "rd"
      refine hk _ _ (L2.Same.refl _) ?_
      show V.int (p.1 * w.1 + p.2 * w.2) = V.int (dt w p)
      unfold dt
      rw [Int.mul_comm p.1, Int.mul_comm p.2]
    rw [ints_dt hlu hr] at hE2
    walk_at "rd"
    exact k E H2 s2 hE hE2
theorem ok_reach (F : FunAt K mg "reach" s_reach ["ones", "others", "way"]) (B : Blt mg) {A_PLAIN_WAYS B1_PLAIN_WAYS B2_PLAIN_WAYS B3_PLAIN_WAYS B4_PLAIN_WAYS : Addr} (G : Cst K mg A_PLAIN_WAYS B1_PLAIN_WAYS B2_PLAIN_WAYS B3_PLAIN_WAYS B4_PLAIN_WAYS) (D_step_across : DefOk P w K mg base CX0 1 "step_across" ["ones", "others", "i", "j"] (spStepA K)) (D_along : DefOk P w K mg base CX0 1 "along" ["places", "way"] (spAlong K)) : DefOk P w K mg base CX0 2 "reach" ["ones", "others", "way"] (spReach K) := by
  refine def_okI F sc_reach (fun vs H Q E h => ?_) (fun f cdv A outer s H vs Q E hr h => ?_)
  · obtain ⟨a, b, d, ws, us, pl, ql, w, rfl, _⟩ := h; rfl
  · obtain ⟨a, b, d, ws, us, pl, ql, w, rfl, ha, hP, hb, hQ, hd, zp, zq, zw, p1, q1, pM, qM, k⟩ := h
    have hu := hr.units
    refine ⟨_, (pss_consI (ps_parI (i := 3) (j := 4) rfl sc_reach.nd rfl rfl (by decide) rfl rfl (pa_consI (pe_fnI D_along hr pass0 (pa_consI (pvI 0) (pa_consI (pvI 2) pa_nilI))) (pa_consI (pe_fnI D_along hr pass0 (pa_consI (pvI 1) (pa_consI (pvI 2) pa_nilI))) pa_nilI)) rfl)
      (pss_consI (ps_parI (i := 5) (j := 6) rfl sc_reach.nd rfl rfl (by decide) rfl rfl (pa_consI (pe_callBI (call_maxL rfl) (by rfl) B.max PyProof.Rows.boot_max (pa_consI (pvI 3) pa_nilI)) (pa_consI (pe_callBI (call_minL rfl) (by rfl) B.min PyProof.Rows.boot_min (pa_consI (pvI 4) pa_nilI)) pa_nilI)) rfl)
      (pss_oneI (ps_retI (pe_tupI (pa_consI (pvI 5) (pa_consI (pvI 6) (pa_consI (pe_fnI D_step_across hr pass0 (pa_consI (pvI 0) (pa_consI (pvI 1) (pa_consI (show PEi _ _ (tBM K _ _ _ _) from (pe_bmI PySem.F.plainAttrs_list PySem.F.slot_list_index PySem.F.type_list_index mt_index (pvI 3) (pa_consI (pvI 5) pa_nilI))) (pa_consI (show PEi _ _ (tBM K _ _ _ _) from (pe_bmI PySem.F.plainAttrs_list PySem.F.slot_list_index PySem.F.type_list_index mt_index (pvI 4) (pa_consI (pvI 6) pa_nilI))) pa_nilI))))) pa_nilI)))))))), ?_⟩
    walk_at "rd"
    refine ⟨a, d, ws, pl, w, rfl, ha, hP, hd, zp, zw, pM, fun l1 H1 s1 h10 h1 => ?_⟩
    walk_at "rd"
    refine ⟨b, d, us, ql, w, rfl, s1 _ _ hb, hQ.same s1, SqT.same' hd s1, zq, zw, qM, fun l2 H2 s2 h20 h2 => ?_⟩
    replace h1 := s2 _ _ h1
    have s12 := s1.trans s2
    replace ha := s12 _ _ ha
    replace hb := s12 _ _ hb
    replace hP := hP.same s12
    replace hQ := hQ.same s12
    refine ⟨_, _, rfl, ?_⟩
    walk_at "rd"
    refine ⟨l1, pl.map (dt w), rfl, SqL.of h1, by rw [List.length_map]; omega, fun M hM hmax => ?_⟩
    walk_at "rd"
    refine ⟨l2, ql.map (dt w), rfl, SqL.of h2, by rw [List.length_map]; omega, fun N hN hmin => ?_⟩
    refine ⟨_, _, rfl, ?_⟩
    obtain ⟨i, ei, ni⟩ := first_at hM
    obtain ⟨j, ej, nj⟩ := first_at hN
    have ei' := ei
    have ej' := ej
    rw [List.getElem?_map] at ei' ej'
    obtain ⟨p, ep, rfl⟩ := Option.map_eq_some_iff.mp ei'
    obtain ⟨q, eq, rfl⟩ := Option.map_eq_some_iff.mp ej'
    walk_at "rd"
    refine ⟨.inl ⟨rfl, _, SqL.of h1⟩, ?_⟩
    walk_at "rd"
    refine ⟨ni, ?_⟩
    refine ⟨_, rfl, .inl ⟨rfl, _, SqL.of h2⟩, ?_⟩
    walk_at "rd"
    refine ⟨nj, ?_⟩
    refine ⟨a, b, ws, us, pl, ql, i, j, p, q, rfl, ha, hP, hb, hQ, ep, eq, fun f0 H3 s3 hf => ?_⟩
    walk_at "rd"
    intro c hc
    exact k c f0 i j p q _ ((s12.trans s3).trans (Same.new hc)) upd_same ((Same.new hc) _ _ hf) ep eq (fun p' hp' => hmax _ (List.mem_map.mpr ⟨p', hp', rfl⟩)) (fun q' hq' => hmin _ (List.mem_map.mpr ⟨q', hq', rfl⟩))
theorem ok_way_amid (F : FunAt K mg "way_amid" s_way_amid ["right", "left"]) (B : Blt mg) {A_PLAIN_WAYS B1_PLAIN_WAYS B2_PLAIN_WAYS B3_PLAIN_WAYS B4_PLAIN_WAYS : Addr} (G : Cst K mg A_PLAIN_WAYS B1_PLAIN_WAYS B2_PLAIN_WAYS B3_PLAIN_WAYS B4_PLAIN_WAYS) : DefOk P w K mg base CX0 1 "way_amid" ["right", "left"] (spAmid K) := by
  refine def_okI F sc_way_amid (fun vs H Q E h => ?_) (fun f cdv A outer s H vs Q E hr h => ?_)
  · obtain ⟨x, y, r, l, rfl, _⟩ := h; rfl
  · obtain ⟨_, _, r, l, rfl, ⟨ar, rfl, hR0⟩, ⟨al, rfl, hL0⟩, k⟩ := h
    have hu := hr.units
    refine ⟨_, (pss_consI (ps_ifI (pt_cmpRI (op_eqDK K hu) (pvI 0) (pvI 1) (nomark _)) (pss_oneI (ps_retI (pe_sliceI (sl_tupK K) (pvI 0) po_noneI (po_someI pe_intI)))) pss_nilI)
      (pss_oneI (ps_retI (pe_tupI (pa_consI (pe_opI op_sub (pe_ixI (ix_tupK K) (pvI 1) pe_intI (fun _ _ => rfl)) (pe_ixI (ix_tupK K) (pvI 0) pe_intI (fun _ _ => rfl))) (pa_consI (pe_opI op_sub (pe_ixI (ix_tupK K) (pvI 0) pe_intI (fun _ _ => rfl)) (pe_ixI (ix_tupK K) (pvI 1) pe_intI (fun _ _ => rfl))) pa_nilI)))))), ?_⟩
    walk_at "rd"
    refine ⟨datSt r, datSt l, dnSt ⟨ar, rfl, hR0⟩, dnSt ⟨al, rfl, hL0⟩, datSt_ok _ 6, datSt_ok _ 6, fun b0 hb0 => ?_⟩
    refine ⟨_, rfl, ?_⟩
    by_cases e : r = l
    · obtain rfl := hb0.mpr (datSt_inj.mpr e)
      refine iteT ?_
      walk_at "rd"
      refine ⟨ar, _, rfl, SqT.of hR0, show ¬ (HT.sIx 4 0 none = 0 ∧ HT.sIx 4 4 (some 2) = 4) by decide, fun c hc => ?_⟩
      have e2 : wayA r l = r.1 := if_pos e
      exact k c _ (Same.new hc) (by rw [upd_same, e2]; rfl)
    · have hf : b0 = false := by
        cases b0 with
        | false => rfl
        | true => exact absurd (datSt_inj.mp (hb0.mp rfl)) e
      subst hf
      refine iteF ?_
      have e2 : wayA r l = amid r.1 l.1 := if_neg e
      walk_at "rd"
      intro c hc
      exact k c _ (Same.new hc) (by rw [upd_same, e2]; rfl)
theorem ok_parted (F : FunAt K mg "parted" s_parted ["ones", "others"]) (B : Blt mg) {A_PLAIN_WAYS B1_PLAIN_WAYS B2_PLAIN_WAYS B3_PLAIN_WAYS B4_PLAIN_WAYS : Addr} (G : Cst K mg A_PLAIN_WAYS B1_PLAIN_WAYS B2_PLAIN_WAYS B3_PLAIN_WAYS B4_PLAIN_WAYS) (D_step_across : DefOk P w K mg base CX0 1 "step_across" ["ones", "others", "i", "j"] (spStepA K)) (D_turn_between : DefOk P w K mg base CX0 1 "turn_between" ["one", "other"] (spTurnB K)) (D_reach : DefOk P w K mg base CX0 2 "reach" ["ones", "others", "way"] (spReach K)) (D_way_amid : DefOk P w K mg base CX0 1 "way_amid" ["right", "left"] (spAmid K)) : DefOk P w K mg base CX0 3 "parted" ["ones", "others"] (spParted K) := by
  refine def_okI F sc_parted (fun vs H Q E h => ?_) (fun f cdv A outer s H vs Q E hr h => ?_)
  · obtain ⟨a, b, ws, us, pl, ql, n, rfl, _⟩ := h; rfl
  · obtain ⟨a, b, ws, us, pl, ql, n, rfl, ha, hP, hb, hQ, zp0, zq0, hn1, hn, p1, q1, pM, qM, k1, k2⟩ := h
    have hu := hr.units
    refine ⟨_, (pss_consI (ps_forI PassesOwn.never rfl (pi_tupKI K (pe_globI (v := .ref A_PLAIN_WAYS) rfl G.PLAIN_WAYS rfl)) (pg_nameI (i := 2) sc_parted.nd rfl (by first | exact Or.inl rfl | exact Or.inr rfl))
      (pss_consI (ps_asgI (pe_fnI D_reach hr pass0 (pa_consI (pvI 0) (pa_consI (pvI 1) (pa_consI (pvI 2) pa_nilI)))) (pg_tupKI (n := 3) K rfl (pgs_consI (pg_nameI (i := 3) sc_parted.nd rfl (by first | exact Or.inl rfl | exact Or.inr rfl)) (pgs_consI (pg_nameI (i := 4) sc_parted.nd rfl (by first | exact Or.inl rfl | exact Or.inr rfl)) (pgs_consI (pg_nameI (i := 5) sc_parted.nd rfl (by first | exact Or.inl rfl | exact Or.inr rfl)) pgs_nilI)))))
      (pss_oneI (ps_ifI (pt_cmpRI op_lt (pvI 3) (pvI 4) (nomark _)) (pss_oneI (ps_retI (pe_tupI (pa_consI (pe_opI (op_catTK K) (pvI 2) (pe_tupI (pa_consI (pe_opI op_add (pvI 3) (pvI 4)) pa_nilI))) (pa_consI (pe_lstI pa_nilI) pa_nilI))))) pss_nilI))))
      (pss_consI (ps_asg2I (pe_fnI D_step_across hr pass0 (pa_consI (pvI 0) (pa_consI (pvI 1) (pa_consI pe_intI (pa_consI pe_intI pa_nilI))))) (pg_nameI (i := 6) sc_parted.nd rfl (by first | exact Or.inl rfl | exact Or.inr rfl)) (pg_nameI (i := 7) sc_parted.nd rfl (by first | exact Or.inl rfl | exact Or.inr rfl)))
      (pss_consI (ps_ifI (pt_cmpRI (op_eqDK K hu) (pe_sliceI (sl_tupK K) (pvI 6) po_noneI (po_someI pe_intI)) (pe_tupI (pa_consI pe_intI (pa_consI pe_intI pa_nilI))) (nomark _)) (pss_oneI (ps_retI (pe_tupI (pa_consI pe_nonI (pa_consI (pe_lstI (pa_consI (pvI 6) pa_nilI)) pa_nilI))))) pss_nilI)
      (pss_oneI (ps_whileI PassesOwn.never (pt_valI pe_blI) (pss_consI (ps_setI (i := 2) sc_parted.nd rfl (by first | exact Or.inl rfl | exact Or.inr rfl) (pe_fnI D_way_amid hr pass0 (pa_consI (pvI 6) (pa_consI (pvI 7) pa_nilI))))
      (pss_consI (ps_asgI (pe_fnI D_reach hr pass0 (pa_consI (pvI 0) (pa_consI (pvI 1) (pa_consI (pvI 2) pa_nilI)))) (pg_tupKI (n := 3) K rfl (pgs_consI (pg_nameI (i := 3) sc_parted.nd rfl (by first | exact Or.inl rfl | exact Or.inr rfl)) (pgs_consI (pg_nameI (i := 4) sc_parted.nd rfl (by first | exact Or.inl rfl | exact Or.inr rfl)) (pgs_consI (pg_nameI (i := 5) sc_parted.nd rfl (by first | exact Or.inl rfl | exact Or.inr rfl)) pgs_nilI)))))
      (pss_consI (ps_ifI (pt_cmpRI op_lt (pvI 3) (pvI 4) (nomark _)) (pss_oneI (ps_retI (pe_tupI (pa_consI (pe_opI (op_catTK K) (pvI 2) (pe_tupI (pa_consI (pe_opI op_add (pvI 3) (pvI 4)) pa_nilI))) (pa_consI (pe_lstI pa_nilI) pa_nilI))))) pss_nilI)
      (pss_oneI (ps_ifI (pt_cmpRI op_gt (pe_fnI D_turn_between hr pass0 (pa_consI (pvI 6) (pa_consI (pvI 5) pa_nilI))) pe_intI (nomark _)) (pss_oneI (ps_setI (i := 7) sc_parted.nd rfl (by first | exact Or.inl rfl | exact Or.inr rfl) (pvI 5))) (pss_oneI (ps_ifI (pt_cmpRI op_gt (pe_fnI D_turn_between hr pass0 (pa_consI (pvI 5) (pa_consI (pvI 7) pa_nilI))) pe_intI (nomark _)) (pss_oneI (ps_setI (i := 6) sc_parted.nd rfl (by first | exact Or.inl rfl | exact Or.inr rfl) (pvI 5))) (pss_oneI (ps_retI (pe_tupI (pa_consI pe_nonI (pa_consI (pe_ifExpI (pt_cmpRI (op_eqDK K hu) (pvI 6) (pvI 7) (nomark _)) (pe_lstI (pa_consI (pvI 6) (pa_consI (pvI 5) pa_nilI))) (pe_lstI (pa_consI (pvI 6) (pa_consI (pvI 7) (pa_consI (pvI 5) pa_nilI))))) pa_nilI))))))))))))))))), ?_⟩
    have zp := zp0.mono hn
    have zq := zq0.mono hn
    walk_at "rd"
    refine ⟨⟨_, G.pPLAIN_WAYS H⟩, for_tup (xs := [.ref B1_PLAIN_WAYS, .ref B2_PLAIN_WAYS, .ref B3_PLAIN_WAYS, .ref B4_PLAIN_WAYS]) (fun i σ H' => ∃ (y2 y3 y4 y5 : Option V), σ = [some (.ref a), some (.ref b), y2, y3, y4, y5, none, none] ∧ Same H H') ⟨none, none, none, none, rfl, L2.Same.refl _⟩ (fun i σ H' _ _ => G.pPLAIN_WAYS H') ?_ ?_⟩
    · rintro i v σ H2 hv ⟨y2, y3, y4, y5, rfl, s2⟩
      obtain ⟨B0, w, rfl, hw, zw⟩ : ∃ (B0 : Addr) (w : Pl), v = .ref B0 ∧ (∀ H, SqT K H B0 [.int w.1, .int w.2]) ∧ SzW (n + 2) w := by
        have o : Sz (n + 2) 1 := Sz.mono Sz.one (by omega)
        have z : Sz (n + 2) 0 := Sz.mono Sz.zero (by omega)
        match i, hv with
        | 0, hv => cases hv; exact ⟨_, (1, 0), rfl, fun H => (G.wPLAIN_WAYS H).1, o, z⟩
        | 1, hv => cases hv; exact ⟨_, (-1, 0), rfl, fun H => (G.wPLAIN_WAYS H).2.1, o.neg, z⟩
        | 2, hv => cases hv; exact ⟨_, (0, 1), rfl, fun H => (G.wPLAIN_WAYS H).2.2.1, z, o⟩
        | 3, hv => cases hv; exact ⟨_, (0, -1), rfl, fun H => (G.wPLAIN_WAYS H).2.2.2, z, o.neg⟩
        | i + 4, hv => exact absurd (List.getElem?_eq_some_iff.mp hv).1 (by simp)
      walk_at "rd"
      refine ⟨a, b, B0, ws, us, pl, ql, w, rfl, s2 _ _ ha, hP.same s2, s2 _ _ hb, hQ.same s2, hw _, zp, zq, ⟨zw.1.mono (by omega), zw.2.mono (by omega)⟩, p1, q1, pM, qM, fun c f0 i1 j1 p q H3 s3 hc hf ei ej hmax hmin => ?_⟩
      refine ⟨c, _, rfl, SqT.of hc, rfl, _, _, rfl, _, _, rfl, _, _, rfl, rfl, ?_⟩
      walk_at "rd"
      by_cases h : dt w p < dt w q
      · refine ifT (by simpa using h) ?_
        walk_at "rd"
        intro g hg
        have wg := Same.new (o := .tup [.int (dt w p + dt w q)]) hg
        refine ⟨B0, g, _, _, rfl, rfl, hw _, SqT.of upd_same, by simp, by show 3 ≤ sizeLine; decide, fun z => (nomatch z), fun _ d hd => ?_⟩
        have wd := Same.new (o := .tup ([.int w.1, .int w.2] ++ [.int (dt w p + dt w q)])) hd
        walk_at "rd"
        intro e he
        have we := Same.new (o := .lst []) he
        walk_at "rd"
        intro c2 hc2
        have wc := Same.new (o := .tup [.ref d, .ref e]) hc2
        exact k1 c2 d e w p q _ (((((s2.trans s3).trans wg).trans wd).trans we).trans wc) upd_same (wc _ _ (we _ _ upd_same)) (wc _ _ upd_same) zw (List.mem_of_getElem? ei) (List.mem_of_getElem? ej) h hmax hmin
      · refine ifF (by simpa using h) ?_
        exact ⟨_, _, _, _, rfl, s2.trans s3⟩
    rintro σ H2 ⟨y2, y3, y4, y5, rfl, s2⟩
    walk_at "rd"
    refine ⟨a, b, ws, us, pl, ql, 0, 0, _, _, rfl, s2 _ _ ha, hP.same s2, s2 _ _ hb, hQ.same s2, List.getElem?_eq_getElem (show 0 < pl.length by omega), List.getElem?_eq_getElem (show 0 < ql.length by omega), fun c H3 s3 hc => ?_⟩
    have s23 := s2.trans s3
    obtain ⟨r0, hr0⟩ : ∃ r0 : Stp, r0 = ((((ql[0]'(by omega)).1 - (pl[0]'(by omega)).1, (ql[0]'(by omega)).2 - (pl[0]'(by omega)).2) : Pl), (((0 : Nat) : Int), ((0 : Nat) : Int))) := ⟨_, rfl⟩
    have hc0 : H3 c = some (.tup [.int r0.1.1, .int r0.1.2, .int r0.2.1, .int r0.2.2]) := by rw [hr0]; exact hc
    have ac0 : Across pl ql r0 := ⟨0, 0, _, _, List.getElem?_eq_getElem (show 0 < pl.length by omega), List.getElem?_eq_getElem (show 0 < ql.length by omega), hr0⟩
    clear hc hr0
    walk_at "rd"
    refine ⟨c, _, rfl, SqT.of hc0, show ¬ (HT.sIx 4 0 none = 0 ∧ HT.sIx 4 4 (some 2) = 4) by decide, fun g hg => ?_⟩
    have wg : Same H3 (upd H3 g (.tup (cutV [.int r0.1.1, .int r0.1.2, .int r0.2.1, .int r0.2.2] none (some 2)))) := Same.new hg
    have hg2 : (upd H3 g (.tup (cutV [.int r0.1.1, .int r0.1.2, .int r0.2.1, .int r0.2.2] none (some 2)))) g = some (.tup [.int r0.1.1, .int r0.1.2]) := upd_same
    generalize upd H3 g (.tup (cutV [.int r0.1.1, .int r0.1.2, .int r0.2.1, .int r0.2.2] none (some 2))) = H4 at *
    walk_at "rd"
    intro g2 hn2
    have wg2 : Same H4 (upd H4 g2 (.tup [.int 0, .int 0])) := Same.new hn2
    have hz2 : (upd H4 g2 (.tup [.int 0, .int 0])) g2 = some (.tup [.int 0, .int 0]) := upd_same
    generalize upd H4 g2 (.tup [.int 0, .int 0]) = H5 at *
    refine ⟨.tuple [.int r0.1.1, .int r0.1.2], .tuple [.int 0, .int 0], dnPl2 (SqT.of (wg2 _ _ hg2)), dnPl2 (SqT.of hz2), datPl2 _ _ 6, datPl2 _ _ 6, fun b0 hb0 => ?_⟩
    have hc5 := wg2 _ _ (wg _ _ hc0)
    have s5 : Same H H5 := (s23.trans wg).trans wg2
    clear hc0 hg2 hz2 wg wg2 s23 s2 s3 hn2 hg
    refine ⟨_, rfl, ?_⟩
    by_cases e0 : r0.1 = (0, 0)
    · have hb1 : b0 = true := hb0.mpr (by rw [e0])
      subst hb1
      refine iteT ?_
      walk_at "rd"
      intro e he
      have we := Same.new (o := .lst [.ref c]) he
      walk_at "rd"
      intro c2 hc2
      have wc := Same.new (o := .tup [.non, .ref e]) hc2
      refine k2 c2 e [.ref c] [r0] _ ((s5.trans we).trans wc) upd_same (wc _ _ upd_same) ⟨rfl, fun i v s e1 e2 => ?_⟩ (fun s hs => by cases List.mem_singleton.mp hs; exact ac0) (.inl ⟨r0, rfl, e0⟩)
      match i, e1, e2 with
      | 0, e1, e2 => cases e1; cases e2; exact ⟨c, rfl, wc _ _ (we _ _ hc5)⟩
      | i + 1, e1, e2 => simp at e1
    have hb1 : b0 = false := by
      cases b0 with
      | false => rfl
      | true =>
        have := hb0.mp rfl
        simp at this
        exact absurd (Prod.ext this.1 this.2) e0
    subst hb1
    refine iteF ?_
    walk_at "rd"
    refine while_gh (fun m σ H' => ∃ (ar al : Addr) (r l : Stp) (y2 y3 y4 y5 : Option V), σ = [some (.ref a), some (.ref b), y2, y3, y4, y5, some (.ref ar), some (.ref al)] ∧ Same H H' ∧ H' ar = some (.tup [.int r.1.1, .int r.1.2, .int r.2.1, .int r.2.2]) ∧ H' al = some (.tup [.int l.1.1, .int l.1.2, .int l.2.1, .int l.2.2]) ∧ Across pl ql r ∧ Across pl ql l ∧ RLok r l ∧ m = mS (allSt pl ql) r l) ⟨c, c, r0, r0, _, _, _, _, rfl, s5, hc5, hc5, ac0, ac0, .inl ⟨rfl, e0⟩, rfl⟩ ?_ ?_
    · rintro m σ H6 ⟨ar, al, r, l, y2, y3, y4, y5, rfl, s6, hr6, hl6, acr, acl, hrl, rfl⟩
      have zr := acr.sz zp0 zq0
      have zl := acl.sz zp0 zq0
      have zw := wayA_sz zr zl
      refine ⟨_, rfl, ?_⟩
      refine iteT ?_
      walk_at "rd"
      refine ⟨_, _, r, l, rfl, ⟨ar, rfl, hr6⟩, ⟨al, rfl, hl6⟩, fun w0 H7 s7 hw7 => ?_⟩
      have s67 := s6.trans s7
      walk_at "rd"
      refine ⟨a, b, w0, ws, us, pl, ql, wayA r l, rfl, s67 _ _ ha, hP.same s67, s67 _ _ hb, hQ.same s67, SqT.of hw7, zp, zq, ⟨zw.1.mono (by omega), zw.2.mono (by omega)⟩, p1, q1, pM, qM, fun c8 f0 i1 j1 p q H8 s8 hc8 hf ei ej hmax hmin => ?_⟩
      have hw8 := s8 _ _ hw7
      have hr8 := s8 _ _ (s7 _ _ hr6)
      have hl8 := s8 _ _ (s7 _ _ hl6)
      have s68 := s67.trans s8
      clear hr6 hl6 hw7 s6 s67 s7 s8
      refine ⟨c8, _, rfl, SqT.of hc8, rfl, _, _, rfl, _, _, rfl, _, _, rfl, rfl, ?_⟩
      obtain ⟨f, hfe⟩ : ∃ f : Stp, f = ((q.1 - p.1, q.2 - p.2), ((i1 : Int), (j1 : Int))) := ⟨_, rfl⟩
      have acf : Across pl ql f := ⟨i1, j1, p, q, ei, ej, hfe⟩
      have hf8 : H8 f0 = some (.tup [.int f.1.1, .int f.1.2, .int f.2.1, .int f.2.2]) := by rw [hfe]; exact hf
      have hdt : dt (wayA r l) f.1 = dt (wayA r l) q - dt (wayA r l) p := by rw [hfe]; exact dt_sub _ _ _
      have zf := acf.sz zp0 zq0
      clear hf hfe
      walk_at "rd"
      by_cases h : dt (wayA r l) p < dt (wayA r l) q
      · refine ifT (by simpa using h) ?_
        walk_at "rd"
        intro g hg
        have wg := Same.new (o := .tup [.int (dt (wayA r l) p + dt (wayA r l) q)]) hg
        refine ⟨w0, g, _, _, rfl, rfl, SqT.of (wg _ _ hw8), SqT.of upd_same, by simp, by show 3 ≤ sizeLine; decide, fun z => (nomatch z), fun _ d hd => ?_⟩
        have wd := Same.new (o := .tup ([.int (wayA r l).1, .int (wayA r l).2] ++ [.int (dt (wayA r l) p + dt (wayA r l) q)])) hd
        walk_at "rd"
        intro e he
        have we := Same.new (o := .lst []) he
        walk_at "rd"
        intro c2 hc2
        have wc := Same.new (o := .tup [.ref d, .ref e]) hc2
        exact k1 c2 d e (wayA r l) p q _ ((((s68.trans wg).trans wd).trans we).trans wc) upd_same (wc _ _ (we _ _ upd_same)) (wc _ _ upd_same) zw (List.mem_of_getElem? ei) (List.mem_of_getElem? ej) h hmax hmin
      refine ifF (by simpa using h) ?_
      have hw0 : dt (wayA r l) f.1 ≤ 0 := by omega
      walk_at "rd"
      refine ⟨ar, f0, r.1, f.1, _, _, _, _, rfl, hr8, hf8, ⟨zr.1.mono (by omega), zr.2.mono (by omega)⟩, ⟨zf.1.mono (by omega), zf.2.mono (by omega)⟩, ?_⟩
      walk_at "rd"
      by_cases h1 : 0 < cr r.1 f.1
      · refine ifT (by simpa using h1) ?_
        walk_at "rd"
        obtain ⟨z1, z2⟩ := step_left acf.mem hrl hw0 h1
        exact ⟨_, z2, ar, f0, r, f, _, _, _, _, rfl, s68, hr8, hf8, acr, acf, z1, rfl⟩
      refine ifF (by simpa using h1) ?_
      walk_at "rd"
      refine ⟨f0, al, f.1, l.1, _, _, _, _, rfl, hf8, hl8, ⟨zf.1.mono (by omega), zf.2.mono (by omega)⟩, ⟨zl.1.mono (by omega), zl.2.mono (by omega)⟩, ?_⟩
      walk_at "rd"
      by_cases h2 : 0 < cr f.1 l.1
      · refine ifT (by simpa using h2) ?_
        walk_at "rd"
        obtain ⟨z1, z2⟩ := step_right acf.mem hrl hw0 h2
        exact ⟨_, z2, f0, al, f, l, _, _, _, _, rfl, s68, hf8, hl8, acf, acl, z1, rfl⟩
      refine ifF (by simpa using h2) ?_
      walk_at "rd"
      refine ⟨datSt r, datSt l, dnSt ⟨ar, rfl, hr8⟩, dnSt ⟨al, rfl, hl8⟩, datSt_ok _ 6, datSt_ok _ 6, fun b0 hb0 => ?_⟩
      refine ⟨_, rfl, ?_⟩
      by_cases e : r = l
      · obtain rfl := hb0.mpr (datSt_inj.mpr e)
        subst e
        refine iteT ?_
        walk_at "rd"
        intro e1 he
        have we := Same.new (o := .lst [.ref ar, .ref f0]) he
        walk_at "rd"
        intro c2 hc2
        have wc := Same.new (o := .tup [.non, .ref e1]) hc2
        refine k2 c2 e1 [.ref ar, .ref f0] [r, f] _ ((s68.trans we).trans wc) upd_same (wc _ _ upd_same) ⟨rfl, fun i v s e3 e4 => ?_⟩ (fun s hs => by simp at hs; rcases hs with rfl | rfl <;> assumption) (end_two hrl hw0 h1 h2)
        match i, e3, e4 with
        | 0, e3, e4 => cases e3; cases e4; exact ⟨ar, rfl, wc _ _ (we _ _ hr8)⟩
        | 1, e3, e4 => cases e3; cases e4; exact ⟨f0, rfl, wc _ _ (we _ _ hf8)⟩
        | i + 2, e3, e4 => simp at e3
      · have hf9 : b0 = false := by
          cases b0 with
          | false => rfl
          | true => exact absurd (datSt_inj.mp (hb0.mp rfl)) e
        subst hf9
        refine iteF ?_
        walk_at "rd"
        intro e1 he
        have we := Same.new (o := .lst [.ref ar, .ref al, .ref f0]) he
        walk_at "rd"
        intro c2 hc2
        have wc := Same.new (o := .tup [.non, .ref e1]) hc2
        refine k2 c2 e1 [.ref ar, .ref al, .ref f0] [r, l, f] _ ((s68.trans we).trans wc) upd_same (wc _ _ upd_same) ⟨rfl, fun i v s e3 e4 => ?_⟩ (fun s hs => by simp at hs; rcases hs with rfl | rfl | rfl <;> assumption) (end_three hrl e h1 h2)
        match i, e3, e4 with
        | 0, e3, e4 => cases e3; cases e4; exact ⟨ar, rfl, wc _ _ (we _ _ hr8)⟩
        | 1, e3, e4 => cases e3; cases e4; exact ⟨al, rfl, wc _ _ (we _ _ hl8)⟩
        | 2, e3, e4 => cases e3; cases e4; exact ⟨f0, rfl, wc _ _ (we _ _ hf8)⟩
        | i + 3, e3, e4 => simp at e3
    · rintro σ H1 Q1 Q2 hq ⟨b1, h1, h2⟩
      exact ⟨b1, h1, hq _ _ h2⟩
theorem ok_told_line (F : FunAt K mg "told_line" s_told_line ["line", "x_bottom", "y_bottom", "room"]) (B : Blt mg) {A_PLAIN_WAYS B1_PLAIN_WAYS B2_PLAIN_WAYS B3_PLAIN_WAYS B4_PLAIN_WAYS : Addr} (G : Cst K mg A_PLAIN_WAYS B1_PLAIN_WAYS B2_PLAIN_WAYS B3_PLAIN_WAYS B4_PLAIN_WAYS) (D_share : DefOk P w K mg base CX0 2 "share" ["top", "bottom"] spShare) : DefOk P w K mg base CX0 3 "told_line" ["line", "x_bottom", "y_bottom", "room"] spToldLine := by
  refine def_okI F sc_told_line (fun vs H Q E h => ?_) (fun f cdv A outer s H vs Q E hr h => ?_)
  · obtain ⟨d, w, c, bx, bY, rm, rfl, _⟩ := h; rfl
  · obtain ⟨d, w, c, bx, bY, rm, rfl, hd, zw, zx, zy, zr, r0, k⟩ := h
    have hu := hr.units
    refine ⟨_, (pss_consI (ps_asgI (pvI 0) (pg_tupKI (n := 3) K rfl (pgs_consI (pg_nameI (i := 4) sc_told_line.nd rfl (by first | exact Or.inl rfl | exact Or.inr rfl)) (pgs_consI (pg_nameI (i := 5) sc_told_line.nd rfl (by first | exact Or.inl rfl | exact Or.inr rfl)) (pgs_consI (pg_nameI (i := 6) sc_told_line.nd rfl (by first | exact Or.inl rfl | exact Or.inr rfl)) pgs_nilI)))))
      (pss_oneI (ps_retI (pe_tupI (pa_consI (pe_tupI (pa_consI (pe_opI op_mulA (pvI 4) (pvI 1)) (pa_consI pe_intI pa_nilI))) (pa_consI (pe_tupI (pa_consI (pe_opI op_mulA (pvI 5) (pvI 2)) (pa_consI pe_intI pa_nilI))) (pa_consI (pe_fnI D_share hr pass0 (pa_consI (pvI 6) (pa_consI (pe_opI op_mulA pe_intI (pvI 3)) pa_nilI))) pa_nilI))))))), ?_⟩
    have z1 := zw.1
    have z2 := zw.2
    walk_at "rd"
    refine ⟨d, _, rfl, SqT.of hd, rfl, _, _, rfl, _, _, rfl, _, _, rfl, rfl, ?_⟩
    walk_at "rd"
    intro g1 hg1
    have w1 := Same.new (o := .tup [.int (w.1 * bx), .int 1]) hg1
    walk_at "rd"
    intro g2 hg2
    have w2 := Same.new (o := .tup [.int (w.2 * bY), .int 1]) hg2
    walk_at "rd"
    refine ⟨c, 2 * rm, rfl, by omega, (Sz.mul (n := 2) (m := 8000) ⟨by decide⟩ zr).mono (by decide), fun v3 H3 s3 hv3 => ?_⟩
    walk_at "rd"
    intro t ht
    have wt := Same.new (o := .tup [.ref g1, .ref g2, v3]) ht
    refine k t _ _ _ _ (((w1.trans w2).trans s3).trans wt) upd_same ⟨g1, rfl, ?_⟩ ⟨g2, rfl, ?_⟩ (hv3.same wt)
    · rw [Rat.num_intCast, Rat.den_intCast]; exact wt _ _ (s3 _ _ (w2 _ _ upd_same))
    · rw [Rat.num_intCast, Rat.den_intCast]; exact wt _ _ (s3 _ _ upd_same)
theorem ok_parting (F : FunAt K mg "parting" s_parting ["one", "other"]) (B : Blt mg) {A_PLAIN_WAYS B1_PLAIN_WAYS B2_PLAIN_WAYS B3_PLAIN_WAYS B4_PLAIN_WAYS : Addr} (G : Cst K mg A_PLAIN_WAYS B1_PLAIN_WAYS B2_PLAIN_WAYS B3_PLAIN_WAYS B4_PLAIN_WAYS) (D_product : DefOk P w K mg base CX0 1 "product" ["numbers"] (spProduct K)) (D_axes : DefOk P w K mg base CX0 4 "axes" ["points"] (spAxesD K)) (D_common_shares : DefOk P w K mg base CX0 6 "common_shares" ["one", "other", "steps"] (spComSh K)) (D_parted : DefOk P w K mg base CX0 3 "parted" ["ones", "others"] (spParted K)) (D_told_line : DefOk P w K mg base CX0 3 "told_line" ["line", "x_bottom", "y_bottom", "room"] spToldLine) : DefOk P w K mg base CX0 7 "parting" ["one", "other"] (spParting K) := by
  refine def_okI F sc_parting (fun vs H Q E h => ?_) (fun f cdv A outer s H vs Q E hr h => ?_)
  · obtain ⟨a, b, ws, us, ps, qs, D, n, z, rfl, _⟩ := h; rfl
  · obtain ⟨a, b, ws, us, ps, qs, D, n, z, rfl, ha, hP, hb, hQ, hD, zD, hz, hn1, hn, ov1, ov2, p1, p20, q1, q20, k1, k2⟩ := h
    have hu := hr.units
    refine ⟨_, (pss_consI (ps_asgI (pe_fnI D_axes hr pass0 (pa_consI (pe_opI op_cat (pvI 0) (pvI 1)) pa_nilI)) (pg_tupKI (n := 2) K rfl (pgs_consI (pg_nameI (i := 2) sc_parting.nd rfl (by first | exact Or.inl rfl | exact Or.inr rfl)) (pgs_consI (pg_nameI (i := 3) sc_parting.nd rfl (by first | exact Or.inl rfl | exact Or.inr rfl)) pgs_nilI))))
      (pss_consI (ps_setI (i := 4) sc_parting.nd rfl (by first | exact Or.inl rfl | exact Or.inr rfl) (show PEi _ _ (tZipL K _) from (pe_listzipI rfl B.list rfl B.zip (pa_consI (pe_ixI (ix_tupK K) (pvI 2) pe_intI (fun _ _ => rfl)) (pa_consI (pe_ixI (ix_tupK K) (pvI 3) pe_intI (fun _ _ => rfl)) pa_nilI)))))
      (pss_consI (ps_asgI (pe_fnI D_parted hr pass0 (pa_consI (pe_sliceI (sl_listK K) (pvI 4) po_noneI (po_someI (pe_callBI (call_lenK K) (by rfl) B.len PySem.boot_len (pa_consI (pvI 0) pa_nilI)))) (pa_consI (pe_sliceI (sl_listK K) (pvI 4) (po_someI (pe_callBI (call_lenK K) (by rfl) B.len PySem.boot_len (pa_consI (pvI 0) pa_nilI))) po_noneI) pa_nilI))) (pg_tupKI (n := 2) K rfl (pgs_consI (pg_nameI (i := 5) sc_parting.nd rfl (by first | exact Or.inl rfl | exact Or.inr rfl)) (pgs_consI (pg_nameI (i := 6) sc_parting.nd rfl (by first | exact Or.inl rfl | exact Or.inr rfl)) pgs_nilI))))
      (pss_consI (ps_ifI (pt_cmpRI op_isN (pvI 5) pe_nonI (nomark _)) (pss_oneI (ps_retI (pe_opI (op_catTK K) (pe_tupI (pa_consI pe_strI pa_nilI)) (pe_fnI D_common_shares hr pass0 (pa_consI (pvI 0) (pa_consI (pvI 1) (pa_consI (pvI 6) pa_nilI))))))) pss_nilI)
      (pss_oneI (ps_retI (pe_opI (op_catTK K) (pe_tupI (pa_consI pe_strI pa_nilI)) (pe_fnI D_told_line hr pass0 (pa_consI (pvI 5) (pa_consI (pe_fnI D_product hr pass0 (pa_consI (pe_ixI (ix_tupK K) (pvI 2) pe_intI (fun _ _ => rfl)) pa_nilI)) (pa_consI (pe_fnI D_product hr pass0 (pa_consI (pe_ixI (ix_tupK K) (pvI 3) pe_intI (fun _ _ => rfl)) pa_nilI)) (pa_consI pe_intI pa_nilI)))))))))))), ?_⟩
    have hwl := hP.len
    have hul := hQ.len
    walk_at "rd"
    refine ⟨Nat.le_of_lt (small_line (by omega)), fun c0 hc0 => ?_⟩
    have s0 := Same.new (o := .lst (ws ++ us)) hc0
    have ovs : ∀ p ∈ ps ++ qs, OvP D n p := fun p hp => (List.mem_append.mp hp).elim (ov1 p) (ov2 p)
    walk_at "rd"
    refine ⟨c0, ws ++ us, ps ++ qs, D, max n z, rfl, SqL.of upd_same, (hP.same s0).append (hQ.same s0), hD, zD.mono (by omega), fun p hp => ?_, by omega, by rw [List.length_append]; omega, fun c x y t1 b1 t2 b2 H1 s1 hc A1 A2 e1 e2 n1 n2 g1 g2 => ?_⟩
    · obtain ⟨o1, o2⟩ := ovs p hp
      obtain ⟨b1, b2⟩ := ovp_bd4 hD zD ⟨o1, o2⟩ (max n z) (by omega) (by omega)
      exact ⟨⟨den_dvd o1, b1⟩, den_dvd o2, b2⟩
    refine ⟨c, _, rfl, SqT.of hc, rfl, _, _, rfl, _, _, rfl, rfl, ?_⟩
    have W1 : 0 < prodI b1 := by obtain ⟨_, _, _, _, _, _, _, _, zz, _⟩ := id A1; exact prodI_pos fun b hb => (zz b hb).1
    have W2 : 0 < prodI b2 := by obtain ⟨_, _, _, _, _, _, _, _, zz, _⟩ := id A2; exact prodI_pos fun b hb => (zz b hb).1
    have T1 : ∀ x ∈ t1, Sz n x := tops_sz W1 hD g1 e1 fun q hq => by obtain ⟨p, hp, rfl⟩ := List.mem_map.mp hq; exact (ovs p hp).1
    have T2 : ∀ x ∈ t2, Sz n x := tops_sz W2 hD g2 e2 fun q hq => by obtain ⟨p, hp, rfl⟩ := List.mem_map.mp hq; exact (ovs p hp).2
    have hO : Over (ps ++ qs) (t1.zip t2) (prodI b1) (prodI b2) := ⟨W1, W2, zip_toP e1 e2⟩
    have zZ := zip_sz T1 T2
    have zb1 := dvd_sz W1 hD g1 zD
    have zb2 := dvd_sz W2 hD g2 zD
    obtain ⟨a1, lt1, lb1, rfl, h1, ht1, hb1, zt1, gt1, nn1, mm1⟩ := A1
    obtain ⟨a2, lt2, lb2, rfl, h2, ht2, hb2, zt2, gt2, nn2, mm2⟩ := A2
    have hOl := hO.len
    rw [List.length_append] at hOl
    walk_at "rd"
    refine ⟨lt1, lt2, _, _, rfl, SqL.of ht1, SqL.of ht2, by rw [List.length_map]; omega, fun lp ups H2 hl0 s2 hlp hupl hpr => ?_⟩
    have hPz := pls_zip hupl hpr
    have hpl := hPz.len
    generalize t1.zip t2 = zl at *
    have s02 := (s0.trans s1).trans s2
    replace ha := s02 _ _ ha
    replace hb := s02 _ _ hb
    replace hP := hP.same s02
    replace hQ := hQ.same s02
    replace h1 := s2 _ _ h1
    replace h2 := s2 _ _ h2
    replace hb1 := s2 _ _ hb1
    replace hb2 := s2 _ _ hb2
    clear hpr hupl T1 T2 ht1 ht2 zt1 zt2 e1 e2 hc s0 s1 s2 hl0 hc0 g1 g2 ovs
    walk_at "rd"
    refine ⟨lp, _, rfl, SqL.of hlp, fun c1 hc1 => ?_⟩
    rw [cut_to ups _ ps.length (by omega)]
    have w1 := Same.new (o := .lst (ups.take ps.length)) hc1
    walk_at "rd"
    refine ⟨lp, _, rfl, SqL.of (w1 _ _ hlp), fun c2 hc2 => ?_⟩
    rw [cut_dropV ups _ ps.length (by omega) (by omega)]
    have w2 := Same.new (o := .lst (ups.drop ps.length)) hc2
    have O1 := hO.fst
    have O2 := hO.snd
    have P1 := ((hPz.take ps.length).same w1).same w2
    have P2 := ((hPz.drop ps.length).same w1).same w2
    have z1 : SzQ n (zl.take ps.length) := fun p hp => zZ p (List.mem_of_mem_take hp)
    have z2 : SzQ n (zl.drop ps.length) := fun p hp => zZ p (List.mem_of_mem_drop hp)
    have l1 := O1.len
    have l2 := O2.len
    generalize zl.take ps.length = pl at *
    generalize zl.drop ps.length = ql at *
    have w12 := w1.trans w2
    walk_at "rd"
    refine ⟨c1, c2, _, _, pl, ql, n, rfl, w2 _ _ upd_same, P1, upd_same, P2, z1, z2, hn1, hn, by omega, by omega, by omega, by omega, ?_, ?_⟩
    · intro c3 d e w p q H3 s3 hc3 hd he zw hp hq hlt hmx hmn
      refine ⟨c3, _, rfl, SqT.of hc3, rfl, _, _, rfl, _, _, rfl, rfl, ?_⟩
      walk_at "rd"
      intro g0 hg0
      have v0 := Same.new (o := .tup [.str "line"]) hg0
      have s3a := (w12.trans s3).trans v0
      have hd3 := v0 _ _ hd
      have hA1 := s3a _ _ h1
      have hA2 := s3a _ _ h2
      have hB1 := s3a _ _ hb1
      have hB2 := s3a _ _ hb2
      have hg0' : (upd H3 g0 (.tup [.str "line"])) g0 = some (.tup [.str "line"]) := upd_same
      generalize upd H3 g0 (.tup [.str "line"]) = H4 at *
      walk_at "rd"
      refine ⟨lb1, b1, rfl, SqL.of hB1, gt1, nn1, ?_⟩
      walk_at "rd"
      refine ⟨lb2, b2, rfl, SqL.of hB2, gt2, nn2, ?_⟩
      walk_at "rd"
      have zd : Sz (2 * n + 4) (dt w p + dt w q) := (Sz.add (dt_sz zw (z1 p hp).1 (z1 p hp).2) (dt_sz zw (z2 q hq).1 (z2 q hq).2)).mono (by omega)
      refine ⟨d, w, dt w p + dt w q, prodI b1, prodI b2, 1, rfl, hd3, ⟨zw.1.mono (by omega), zw.2.mono (by omega)⟩, zb1.mono (by omega), zb2.mono (by omega), Sz.one.mono (by decide), by decide, fun t v1 v2 v3 H5 s5 ht g1 g2 g3 => ?_⟩
      refine ⟨g0, t, _, _, rfl, rfl, SqT.of (s5 _ _ hg0'), SqT.of ht, by simp, by show 4 ≤ sizeLine; decide, fun zz => (nomatch zz), fun _ c9 hc9 => ?_⟩
      have w9 := Same.new (o := .tup ([.str "line"] ++ [v1, v2, v3])) hc9
      refine k1 c9 v1 v2 v3 _ _ _ _ (((s02.trans s3a).trans s5).trans w9) upd_same (g1.same w9) (g2.same w9) (g3.same w9) ?_ ?_ ?_ ?_ ?_
      · exact bd_int ((Sz.mul zw.1 zb1).mono (by omega)) (by omega)
      · exact bd_int ((Sz.mul zw.2 zb2).mono (by omega)) (by omega)
      · exact (Bd.of (m := 2) zd ⟨by decide⟩ (by decide)).mono (by omega)
      · intro x hx
        obtain ⟨X, hX, e⟩ := O1.line w hx
        rw [e]
        exact half_lo hlt (hmx X hX)
      · intro x hx
        obtain ⟨X, hX, e⟩ := O2.line w hx
        rw [e]
        exact half_hi hlt (hmn X hX)
    · intro c3 e vs ss H3 s3 hc3 he hSs hac h0
      refine ⟨c3, _, rfl, SqT.of hc3, rfl, _, _, rfl, _, _, rfl, rfl, ?_⟩
      walk_at "rd"
      intro g0 hg0
      have v0 := Same.new (o := .tup [.str "common"]) hg0
      have s3a := (w12.trans s3).trans v0
      have hg0' : (upd H3 g0 (.tup [.str "common"])) g0 = some (.tup [.str "common"]) := upd_same
      generalize upd H3 g0 (.tup [.str "common"]) = H4 at *
      walk_at "rd"
      refine ⟨a, b, e, ws, us, vs, ps, qs, ss, D, prodI b1, prodI b2, n, z, rfl, s3a _ _ ha, hP.same s3a, s3a _ _ hb, hQ.same s3a, v0 _ _ he, hSs.same v0, hD, zD, by omega, hn, ov1, ov2, p1, p20, q1, q20, W1, W2, fun s hs => ?_, h0.s, fun c9 l1 l2 v1 v2 r1 r2 H5 s5 hc9 f1 f2 f12 g1 g2 S1 S2 b1' b2' mq => ?_⟩
      · obtain ⟨i, j, p, q, ei, ej, rfl⟩ := hac s hs
        refine ⟨i, j, _, _, O1.at ei, O2.at ej, rfl, ?_, ?_⟩
        · have a := dv_mul (x := p.1) W1
          have b := dv_mul (x := q.1) W1
          show ((q.1 - p.1 : Int) : Rat) = _
          rw [Rat.intCast_sub, ← a, ← b]; grind
        · have a := dv_mul (x := p.2) W2
          have b := dv_mul (x := q.2) W2
          show ((q.2 - p.2 : Int) : Rat) = _
          rw [Rat.intCast_sub, ← a, ← b]; grind
      refine ⟨g0, c9, _, _, rfl, rfl, SqT.of (s5 _ _ hg0'), SqT.of hc9, by simp, by show 3 ≤ sizeLine; decide, fun zz => (nomatch zz), fun _ c10 hc10 => ?_⟩
      have w9 := Same.new (o := .tup ([.str "common"] ++ [.ref l1, .ref l2])) hc10
      have fr : ∀ x, H4 x = none → H x = none := fun x hx => s02.free (s3a.free hx)
      exact k2 c10 l1 l2 v1 v2 r1 r2 _ (((s02.trans s3a).trans s5).trans w9) upd_same (fr _ f1) (fr _ f2) f12 (w9 _ _ g1) (w9 _ _ g2) (S1.same w9) (S2.same w9) b1' b2' mq
theorem ok_law (F : FunAt K mg "law" s_law ["_law_script"]) (B : Blt mg) {A_PLAIN_WAYS B1_PLAIN_WAYS B2_PLAIN_WAYS B3_PLAIN_WAYS B4_PLAIN_WAYS : Addr} (G : Cst K mg A_PLAIN_WAYS B1_PLAIN_WAYS B2_PLAIN_WAYS B3_PLAIN_WAYS B4_PLAIN_WAYS) (D_l_cell_at : DefOk P w K mg base CX0 1 "_law_cell_at" ["_law_script", "_law_k"] (spCell K)) (D_l_stream : DefOk P w K mg base CX0 1 "_law_stream" ["_law_cell", "_law_place"] spStream) (D_l_drawn_two : DefOk P w K mg base CX0 3 "_law_drawn_two" ["_law_script", "_law_most"] (spDTwo K)) (D_l_kind : DefOk P w K mg base CX0 4 "_law_kind" ["_law_told", "_law_some", "_law_others"] (spKind K)) (D_l_meeting : DefOk P w K mg base CX0 4 "_law_meeting" ["_law_some", "_law_others", "_law_s"] (spMeeting K)) (D_l_parted : DefOk P w K mg base CX0 4 "_law_parted" ["_law_some", "_law_others", "_law_s"] (spLPart K)) (D_parting : DefOk P w K mg base CX0 7 "parting" ["one", "other"] (spParting K)) : DefOk P w K mg base CX0 8 "law" ["_law_script"] (spLaw K) := by
  refine def_okI F sc_law (fun vs H Q E h => ?_) (fun f cdv A outer s H vs Q E hr h => ?_)
  · obtain ⟨a, ns, rfl, _⟩ := h; rfl
  · obtain ⟨a, ns, rfl, hS, hlen, k⟩ := h
    have hu := hr.units
    refine ⟨_, (pss_consI (ps_asgI (pe_fnI D_l_drawn_two hr pass0 (pa_consI (pvI 0) (pa_consI pe_intI pa_nilI))) (pg_lstKI (n := 2) K rfl (pgs_consI (pg_nameI (i := 1) sc_law.nd rfl (by first | exact Or.inl rfl | exact Or.inr rfl)) (pgs_consI (pg_nameI (i := 2) sc_law.nd rfl (by first | exact Or.inl rfl | exact Or.inr rfl)) pgs_nilI))))
      (pss_consI (ps_setI (i := 3) sc_law.nd rfl (by first | exact Or.inl rfl | exact Or.inr rfl) (pe_fnI D_l_stream hr pass0 (pa_consI (pe_fnI D_l_cell_at hr pass0 (pa_consI (pvI 0) (pa_consI pe_intI pa_nilI))) (pa_consI pe_intI pa_nilI))))
      (pss_consI (ps_ifI (pt_cmpRI op_eq (pe_opI op_mod (pe_ixI (ix_listK K) (pvI 3) pe_intI (fun _ _ => rfl)) pe_intI) pe_intI (nomark _)) (pss_consI (ps_setI (i := 2) sc_law.nd rfl (by first | exact Or.inl rfl | exact Or.inr rfl) (pe_fnI D_l_meeting hr pass0 (pa_consI (pvI 1) (pa_consI (pvI 2) (pa_consI (pvI 3) pa_nilI)))))
      (pss_oneI (ps_retI (pe_cmpRI op_eq (pe_fnI D_l_kind hr pass0 (pa_consI (pe_fnI D_parting hr pass0 (pa_consI (pe_callTyI (call_list_ofKH K) rfl B.list PyProof.Rows.boot_list (pa_consI (pvI 1) pa_nilI)) (pa_consI (pe_callTyI (call_list_ofKH K) rfl B.list PyProof.Rows.boot_list (pa_consI (pvI 2) pa_nilI)) pa_nilI))) (pa_consI (pvI 1) (pa_consI (pvI 2) pa_nilI)))) pe_strI (nomark _))))) pss_nilI)
      (pss_consI (ps_setI (i := 2) sc_law.nd rfl (by first | exact Or.inl rfl | exact Or.inr rfl) (pe_fnI D_l_parted hr pass0 (pa_consI (pvI 1) (pa_consI (pvI 2) (pa_consI (pvI 3) pa_nilI)))))
      (pss_oneI (ps_retI (pe_cmpRI op_eq (pe_fnI D_l_kind hr pass0 (pa_consI (pe_fnI D_parting hr pass0 (pa_consI (pe_callTyI (call_list_ofKH K) rfl B.list PyProof.Rows.boot_list (pa_consI (pvI 1) pa_nilI)) (pa_consI (pe_callTyI (call_list_ofKH K) rfl B.list PyProof.Rows.boot_list (pa_consI (pvI 2) pa_nilI)) pa_nilI))) (pa_consI (pvI 1) (pa_consI (pvI 2) pa_nilI)))) pe_strI (nomark _)))))))), ?_⟩
    walk_at "rd"
    refine ⟨a, ns, 8, rfl, hS, by decide, by decide, fun lb l0 l1 w0 w1 p0 p1 BB H1 s1 hlb0 hlb c0 c1 B1' B3 => ?_⟩
    refine ⟨lb, _, rfl, SqL.of hlb, rfl, _, _, rfl, _, _, rfl, rfl, ?_⟩
    have hS1 : SqL K H1 a (ns.map V.int) := SqL.same' hS s1
    walk_at "rd"
    refine ⟨a, ns, 1, rfl, hS1, by decide, fun z => ?_⟩
    walk_at "rd"
    refine ⟨_, _, rfl, fun ls xs H2 s2 hx hxl hnn => ?_⟩
    have T : TwoL H2 l0 l1 ls w0 w1 p0 p1 BB xs := ⟨s2 _ _ c0.lst, c0.pts.same s2, s2 _ _ c1.lst, c1.pts.same s2, hx, c0.ov, c1.ov, B1', B3, c0.l1, c0.l2, c1.l1, c1.l2, hxl, hnn⟩
    clear hlb hlb0 s1 hS1 hS c0 c1 s2
    have hx1 : SqL K H2 ls (xs.map V.int) := SqL.of hx
    have n20 : 0 ≤ xs.getD (Int.toNat 20) 0 := getD_nn hnn 20
    have t1 := T.a1
    have t8 := T.p8
    have t2 := T.q1
    have t9 := T.q8
    have y1 : p0.length * (3 * 200 + 11) ≤ 8900 := Nat.le_trans (Nat.mul_le_mul_right _ t8) (by decide)
    walk_at "rd"
    refine ifB (fun _ => ?_) (fun _ => ?_)
    · walk_at "rd"
      refine ⟨l0, l1, ls, w0, w1, p0, p1, BB, xs, rfl, T, fun d us H3 x y D r1 r2 s3 hd0 hd hU both mean => ?_⟩
      have ml : (mvP x y p1).length = p1.length := by unfold mvP; rw [List.length_map]
      generalize mvP x y p1 = q1 at *
      have y2 : q1.length * (3 * 200 + 11) ≤ 8900 := Nat.le_trans (Nat.mul_le_mul_right _ (show q1.length ≤ 8 by omega)) (by decide)
      have T3 := T.same s3
      have hA3 := T3.a
      walk_at "rd"
      intro a0 ha0
      have u1 := Same.new (o := .lst w0) ha0
      walk_at "rd"
      intro a1 ha1
      have u2 := Same.new (o := .lst us) ha1
      have uA := u1.trans u2
      have A0 := u2 _ _ (upd_same (H := H3) (a := a0) (o := .lst w0))
      have A1 := upd_same (H := upd H3 a0 (.lst w0)) (a := a1) (o := .lst us)
      generalize upd (upd H3 a0 (.lst w0)) a1 (.lst us) = H4 at *
      walk_at "rd"
      dsimp only [tNil]
      refine part_one (n := 200) (z := 30) A0 (T3.P.same uA) A1 (hU.same uA) both.d0 both.dz (by decide) (by decide) (by decide) both.o0 both.o1 t1 (by omega) (by omega) (by omega) fun c e1 e2 bo H5 s5 fr hK => ?_
      walk_at "rd"
      dsimp only [tNil]
      refine kind_one (n := 200) (z := 30) (s5 _ _ (uA _ _ hA3)) ((T3.P.same uA).same s5) (s5 _ _ (uA _ _ hd)) ((hU.same uA).same s5) hK both.d0 both.dz (by decide) (by decide) (by decide) both.o0 both.o1 y1 y2 fun H6 s6 => ?_
      obtain rfl := hK.mean mean
      have e6 : wd false = V.str "common" := rfl
      rw [e6]
      walk_at "rd"
      exact k _
    · walk_at "rd"
      refine ⟨l0, l1, ls, w0, w1, p0, p1, BB, xs, rfl, T, fun d us H3 x y D r1 r2 r3 s3 hd0 hd hU both line => ?_⟩
      have ml : (mvP x y p1).length = p1.length := by unfold mvP; rw [List.length_map]
      generalize mvP x y p1 = q1 at *
      have y2 : q1.length * (3 * 200 + 11) ≤ 8900 := Nat.le_trans (Nat.mul_le_mul_right _ (show q1.length ≤ 8 by omega)) (by decide)
      have T3 := T.same s3
      have hA3 := T3.a
      walk_at "rd"
      intro a0 ha0
      have u1 := Same.new (o := .lst w0) ha0
      walk_at "rd"
      intro a1 ha1
      have u2 := Same.new (o := .lst us) ha1
      have uA := u1.trans u2
      have A0 := u2 _ _ (upd_same (H := H3) (a := a0) (o := .lst w0))
      have A1 := upd_same (H := upd H3 a0 (.lst w0)) (a := a1) (o := .lst us)
      generalize upd (upd H3 a0 (.lst w0)) a1 (.lst us) = H4 at *
      walk_at "rd"
      dsimp only [tNil]
      refine part_one (n := 200) (z := 30) A0 (T3.P.same uA) A1 (hU.same uA) both.d0 both.dz (by decide) (by decide) (by decide) both.o0 both.o1 t1 (by omega) (by omega) (by omega) fun c e1 e2 bo H5 s5 fr hK => ?_
      walk_at "rd"
      dsimp only [tNil]
      refine kind_one (n := 200) (z := 30) (s5 _ _ (uA _ _ hA3)) ((T3.P.same uA).same s5) (s5 _ _ (uA _ _ hd)) ((hU.same uA).same s5) hK both.d0 both.dz (by decide) (by decide) (by decide) both.o0 both.o1 y1 y2 fun H6 s6 => ?_
      obtain rfl := hK.line line
      have e6 : wd true = V.str "line" := rfl
      rw [e6]
      walk_at "rd"
      exact k _
end
theorem all_mk {w : World} {K : PySem.W.Frag} {h : Heap} {mg : Str → Option Value} {fa : Addr} (KX : K.In h) (GN : h.Ns mainGlobals mg) (hfa : mg "law" = some (.ref fa))
    {f0 : Addr} {od0 an0 : Option Addr} {sl0 : Array (Option Value)} {oc0 kV0 dc0 pm0 cd0 ct0 : Value}
    {f1 : Addr} {od1 an1 : Option Addr} {sl1 : Array (Option Value)} {oc1 kV1 dc1 pm1 cd1 ct1 : Value}
    {f2 : Addr} {od2 an2 : Option Addr} {sl2 : Array (Option Value)} {oc2 kV2 dc2 pm2 cd2 ct2 : Value}
    {f3 : Addr} {od3 an3 : Option Addr} {sl3 : Array (Option Value)} {oc3 kV3 dc3 pm3 cd3 ct3 : Value}
    {f4 : Addr} {od4 an4 : Option Addr} {sl4 : Array (Option Value)} {oc4 kV4 dc4 pm4 cd4 ct4 : Value}
    {f5 : Addr} {od5 an5 : Option Addr} {sl5 : Array (Option Value)} {oc5 kV5 dc5 pm5 cd5 ct5 : Value}
    {f6 : Addr} {od6 an6 : Option Addr} {sl6 : Array (Option Value)} {oc6 kV6 dc6 pm6 cd6 ct6 : Value}
    {f7 : Addr} {od7 an7 : Option Addr} {sl7 : Array (Option Value)} {oc7 kV7 dc7 pm7 cd7 ct7 : Value}
    {f8 : Addr} {od8 an8 : Option Addr} {sl8 : Array (Option Value)} {oc8 kV8 dc8 pm8 cd8 ct8 : Value}
    {f9 : Addr} {od9 an9 : Option Addr} {sl9 : Array (Option Value)} {oc9 kV9 dc9 pm9 cd9 ct9 : Value}
    {f10 : Addr} {od10 an10 : Option Addr} {sl10 : Array (Option Value)} {oc10 kV10 dc10 pm10 cd10 ct10 : Value}
    {f11 : Addr} {od11 an11 : Option Addr} {sl11 : Array (Option Value)} {oc11 kV11 dc11 pm11 cd11 ct11 : Value}
    {f12 : Addr} {od12 an12 : Option Addr} {sl12 : Array (Option Value)} {oc12 kV12 dc12 pm12 cd12 ct12 : Value}
    {f13 : Addr} {od13 an13 : Option Addr} {sl13 : Array (Option Value)} {oc13 kV13 dc13 pm13 cd13 ct13 : Value}
    {f14 : Addr} {od14 an14 : Option Addr} {sl14 : Array (Option Value)} {oc14 kV14 dc14 pm14 cd14 ct14 : Value}
    {f15 : Addr} {od15 an15 : Option Addr} {sl15 : Array (Option Value)} {oc15 kV15 dc15 pm15 cd15 ct15 : Value}
    {f16 : Addr} {od16 an16 : Option Addr} {sl16 : Array (Option Value)} {oc16 kV16 dc16 pm16 cd16 ct16 : Value}
    {f17 : Addr} {od17 an17 : Option Addr} {sl17 : Array (Option Value)} {oc17 kV17 dc17 pm17 cd17 ct17 : Value}
    {f18 : Addr} {od18 an18 : Option Addr} {sl18 : Array (Option Value)} {oc18 kV18 dc18 pm18 cd18 ct18 : Value}
    {f19 : Addr} {od19 an19 : Option Addr} {sl19 : Array (Option Value)} {oc19 kV19 dc19 pm19 cd19 ct19 : Value}
    {f20 : Addr} {od20 an20 : Option Addr} {sl20 : Array (Option Value)} {oc20 kV20 dc20 pm20 cd20 ct20 : Value}
    {f21 : Addr} {od21 an21 : Option Addr} {sl21 : Array (Option Value)} {oc21 kV21 dc21 pm21 cd21 ct21 : Value}
    {f22 : Addr} {od22 an22 : Option Addr} {sl22 : Array (Option Value)} {oc22 kV22 dc22 pm22 cd22 ct22 : Value}
    {f23 : Addr} {od23 an23 : Option Addr} {sl23 : Array (Option Value)} {oc23 kV23 dc23 pm23 cd23 ct23 : Value}
    {f24 : Addr} {od24 an24 : Option Addr} {sl24 : Array (Option Value)} {oc24 kV24 dc24 pm24 cd24 ct24 : Value}
    {f25 : Addr} {od25 an25 : Option Addr} {sl25 : Array (Option Value)} {oc25 kV25 dc25 pm25 cd25 ct25 : Value}
    {f26 : Addr} {od26 an26 : Option Addr} {sl26 : Array (Option Value)} {oc26 kV26 dc26 pm26 cd26 ct26 : Value}
    {f27 : Addr} {od27 an27 : Option Addr} {sl27 : Array (Option Value)} {oc27 kV27 dc27 pm27 cd27 ct27 : Value}
    {f28 : Addr} {od28 an28 : Option Addr} {sl28 : Array (Option Value)} {oc28 kV28 dc28 pm28 cd28 ct28 : Value}
    {f29 : Addr} {od29 an29 : Option Addr} {sl29 : Array (Option Value)} {oc29 kV29 dc29 pm29 cd29 ct29 : Value}
    {f30 : Addr} {od30 an30 : Option Addr} {sl30 : Array (Option Value)} {oc30 kV30 dc30 pm30 cd30 ct30 : Value}
    {f31 : Addr} {od31 an31 : Option Addr} {sl31 : Array (Option Value)} {oc31 kV31 dc31 pm31 cd31 ct31 : Value}
    {f32 : Addr} {od32 an32 : Option Addr} {sl32 : Array (Option Value)} {oc32 kV32 dc32 pm32 cd32 ct32 : Value}
    (a0 : PySem.W.nsIn K mainGlobals "_law_cell_at" = some (some (.ref f0))) (l0 : K.lookup f0 = some ⟨oc0, od0, .func (PySem.W.fnOf "_law_cell_at" "_law_cell_at" (defArgs s_l_cell_at) (defBody s_l_cell_at) (defScope s_l_cell_at) .none kV0 dc0 pm0 an0 cd0 ct0), sl0⟩) (c0 : PySem.W.codeIn K cd0 "_law_cell_at" = true) (k0 : PySem.W.keepIn K (.ref f0) = true)
    (a1 : PySem.W.nsIn K mainGlobals "_law_part" = some (some (.ref f1))) (l1 : K.lookup f1 = some ⟨oc1, od1, .func (PySem.W.fnOf "_law_part" "_law_part" (defArgs s_l_part) (defBody s_l_part) (defScope s_l_part) .none kV1 dc1 pm1 an1 cd1 ct1), sl1⟩) (c1 : PySem.W.codeIn K cd1 "_law_part" = true) (k1 : PySem.W.keepIn K (.ref f1) = true)
    (a2 : PySem.W.nsIn K mainGlobals "_law_share" = some (some (.ref f2))) (l2 : K.lookup f2 = some ⟨oc2, od2, .func (PySem.W.fnOf "_law_share" "_law_share" (defArgs s_l_share) (defBody s_l_share) (defScope s_l_share) .none kV2 dc2 pm2 an2 cd2 ct2), sl2⟩) (c2 : PySem.W.codeIn K cd2 "_law_share" = true) (k2 : PySem.W.keepIn K (.ref f2) = true)
    (a3 : PySem.W.nsIn K mainGlobals "_law_stream" = some (some (.ref f3))) (l3 : K.lookup f3 = some ⟨oc3, od3, .func (PySem.W.fnOf "_law_stream" "_law_stream" (defArgs s_l_stream) (defBody s_l_stream) (defScope s_l_stream) .none kV3 dc3 pm3 an3 cd3 ct3), sl3⟩) (c3 : PySem.W.codeIn K cd3 "_law_stream" = true) (k3 : PySem.W.keepIn K (.ref f3) = true)
    (a4 : PySem.W.nsIn K mainGlobals "_law_drawn_two" = some (some (.ref f4))) (l4 : K.lookup f4 = some ⟨oc4, od4, .func (PySem.W.fnOf "_law_drawn_two" "_law_drawn_two" (defArgs s_l_drawn_two) (defBody s_l_drawn_two) (defScope s_l_drawn_two) .none kV4 dc4 pm4 an4 cd4 ct4), sl4⟩) (c4 : PySem.W.codeIn K cd4 "_law_drawn_two" = true) (k4 : PySem.W.keepIn K (.ref f4) = true)
    (a5 : PySem.W.nsIn K mainGlobals "_law_whole" = some (some (.ref f5))) (l5 : K.lookup f5 = some ⟨oc5, od5, .func (PySem.W.fnOf "_law_whole" "_law_whole" (defArgs s_l_whole) (defBody s_l_whole) (defScope s_l_whole) .none kV5 dc5 pm5 an5 cd5 ct5), sl5⟩) (c5 : PySem.W.codeIn K cd5 "_law_whole" = true) (k5 : PySem.W.keepIn K (.ref f5) = true)
    (a6 : PySem.W.nsIn K mainGlobals "_law_is_share" = some (some (.ref f6))) (l6 : K.lookup f6 = some ⟨oc6, od6, .func (PySem.W.fnOf "_law_is_share" "_law_is_share" (defArgs s_l_is_share) (defBody s_l_is_share) (defScope s_l_is_share) .none kV6 dc6 pm6 an6 cd6 ct6), sl6⟩) (c6 : PySem.W.codeIn K cd6 "_law_is_share" = true) (k6 : PySem.W.keepIn K (.ref f6) = true)
    (a7 : PySem.W.nsIn K mainGlobals "_law_is_line" = some (some (.ref f7))) (l7 : K.lookup f7 = some ⟨oc7, od7, .func (PySem.W.fnOf "_law_is_line" "_law_is_line" (defArgs s_l_is_line) (defBody s_l_is_line) (defScope s_l_is_line) .none kV7 dc7 pm7 an7 cd7 ct7), sl7⟩) (c7 : PySem.W.codeIn K cd7 "_law_is_line" = true) (k7 : PySem.W.keepIn K (.ref f7) = true)
    (a8 : PySem.W.nsIn K mainGlobals "_law_mean" = some (some (.ref f8))) (l8 : K.lookup f8 = some ⟨oc8, od8, .func (PySem.W.fnOf "_law_mean" "_law_mean" (defArgs s_l_mean) (defBody s_l_mean) (defScope s_l_mean) .none kV8 dc8 pm8 an8 cd8 ct8), sl8⟩) (c8 : PySem.W.codeIn K cd8 "_law_mean" = true) (k8 : PySem.W.keepIn K (.ref f8) = true)
    (a9 : PySem.W.nsIn K mainGlobals "_law_kind" = some (some (.ref f9))) (l9 : K.lookup f9 = some ⟨oc9, od9, .func (PySem.W.fnOf "_law_kind" "_law_kind" (defArgs s_l_kind) (defBody s_l_kind) (defScope s_l_kind) .none kV9 dc9 pm9 an9 cd9 ct9), sl9⟩) (c9 : PySem.W.codeIn K cd9 "_law_kind" = true) (k9 : PySem.W.keepIn K (.ref f9) = true)
    (a10 : PySem.W.nsIn K mainGlobals "_law_less" = some (some (.ref f10))) (l10 : K.lookup f10 = some ⟨oc10, od10, .func (PySem.W.fnOf "_law_less" "_law_less" (defArgs s_l_less) (defBody s_l_less) (defScope s_l_less) .none kV10 dc10 pm10 an10 cd10 ct10), sl10⟩) (c10 : PySem.W.codeIn K cd10 "_law_less" = true) (k10 : PySem.W.keepIn K (.ref f10) = true)
    (a11 : PySem.W.nsIn K mainGlobals "_law_moved" = some (some (.ref f11))) (l11 : K.lookup f11 = some ⟨oc11, od11, .func (PySem.W.fnOf "_law_moved" "_law_moved" (defArgs s_l_moved) (defBody s_l_moved) (defScope s_l_moved) .none kV11 dc11 pm11 an11 cd11 ct11), sl11⟩) (c11 : PySem.W.codeIn K cd11 "_law_moved" = true) (k11 : PySem.W.keepIn K (.ref f11) = true)
    (a12 : PySem.W.nsIn K mainGlobals "_law_meeting" = some (some (.ref f12))) (l12 : K.lookup f12 = some ⟨oc12, od12, .func (PySem.W.fnOf "_law_meeting" "_law_meeting" (defArgs s_l_meeting) (defBody s_l_meeting) (defScope s_l_meeting) .none kV12 dc12 pm12 an12 cd12 ct12), sl12⟩) (c12 : PySem.W.codeIn K cd12 "_law_meeting" = true) (k12 : PySem.W.keepIn K (.ref f12) = true)
    (a13 : PySem.W.nsIn K mainGlobals "_law_by_way" = some (some (.ref f13))) (l13 : K.lookup f13 = some ⟨oc13, od13, .func (PySem.W.fnOf "_law_by_way" "_law_by_way" (defArgs s_l_by_way) (defBody s_l_by_way) (defScope s_l_by_way) .none kV13 dc13 pm13 an13 cd13 ct13), sl13⟩) (c13 : PySem.W.codeIn K cd13 "_law_by_way" = true) (k13 : PySem.W.keepIn K (.ref f13) = true)
    (a14 : PySem.W.nsIn K mainGlobals "_law_parted" = some (some (.ref f14))) (l14 : K.lookup f14 = some ⟨oc14, od14, .func (PySem.W.fnOf "_law_parted" "_law_parted" (defArgs s_l_parted) (defBody s_l_parted) (defScope s_l_parted) .none kV14 dc14 pm14 an14 cd14 ct14), sl14⟩) (c14 : PySem.W.codeIn K cd14 "_law_parted" = true) (k14 : PySem.W.keepIn K (.ref f14) = true)
    (a15 : PySem.W.nsIn K mainGlobals "greatest_common" = some (some (.ref f15))) (l15 : K.lookup f15 = some ⟨oc15, od15, .func (PySem.W.fnOf "greatest_common" "greatest_common" (defArgs s_greatest_common) (defBody s_greatest_common) (defScope s_greatest_common) .none kV15 dc15 pm15 an15 cd15 ct15), sl15⟩) (c15 : PySem.W.codeIn K cd15 "greatest_common" = true) (k15 : PySem.W.keepIn K (.ref f15) = true)
    (a16 : PySem.W.nsIn K mainGlobals "common_bottoms" = some (some (.ref f16))) (l16 : K.lookup f16 = some ⟨oc16, od16, .func (PySem.W.fnOf "common_bottoms" "common_bottoms" (defArgs s_common_bottoms) (defBody s_common_bottoms) (defScope s_common_bottoms) .none kV16 dc16 pm16 an16 cd16 ct16), sl16⟩) (c16 : PySem.W.codeIn K cd16 "common_bottoms" = true) (k16 : PySem.W.keepIn K (.ref f16) = true)
    (a17 : PySem.W.nsIn K mainGlobals "product" = some (some (.ref f17))) (l17 : K.lookup f17 = some ⟨oc17, od17, .func (PySem.W.fnOf "product" "product" (defArgs s_product) (defBody s_product) (defScope s_product) .none kV17 dc17 pm17 an17 cd17 ct17), sl17⟩) (c17 : PySem.W.codeIn K cd17 "product" = true) (k17 : PySem.W.keepIn K (.ref f17) = true)
    (a18 : PySem.W.nsIn K mainGlobals "axis" = some (some (.ref f18))) (l18 : K.lookup f18 = some ⟨oc18, od18, .func (PySem.W.fnOf "axis" "axis" (defArgs s_axis) (defBody s_axis) (defScope s_axis) .none kV18 dc18 pm18 an18 cd18 ct18), sl18⟩) (c18 : PySem.W.codeIn K cd18 "axis" = true) (k18 : PySem.W.keepIn K (.ref f18) = true)
    (a19 : PySem.W.nsIn K mainGlobals "axes" = some (some (.ref f19))) (l19 : K.lookup f19 = some ⟨oc19, od19, .func (PySem.W.fnOf "axes" "axes" (defArgs s_axes) (defBody s_axes) (defScope s_axes) .none kV19 dc19 pm19 an19 cd19 ct19), sl19⟩) (c19 : PySem.W.codeIn K cd19 "axes" = true) (k19 : PySem.W.keepIn K (.ref f19) = true)
    (a20 : PySem.W.nsIn K mainGlobals "share" = some (some (.ref f20))) (l20 : K.lookup f20 = some ⟨oc20, od20, .func (PySem.W.fnOf "share" "share" (defArgs s_share) (defBody s_share) (defScope s_share) .none kV20 dc20 pm20 an20 cd20 ct20), sl20⟩) (c20 : PySem.W.codeIn K cd20 "share" = true) (k20 : PySem.W.keepIn K (.ref f20) = true)
    (a21 : PySem.W.nsIn K mainGlobals "step_across" = some (some (.ref f21))) (l21 : K.lookup f21 = some ⟨oc21, od21, .func (PySem.W.fnOf "step_across" "step_across" (defArgs s_step_across) (defBody s_step_across) (defScope s_step_across) .none kV21 dc21 pm21 an21 cd21 ct21), sl21⟩) (c21 : PySem.W.codeIn K cd21 "step_across" = true) (k21 : PySem.W.keepIn K (.ref f21) = true)
    (a22 : PySem.W.nsIn K mainGlobals "turn_between" = some (some (.ref f22))) (l22 : K.lookup f22 = some ⟨oc22, od22, .func (PySem.W.fnOf "turn_between" "turn_between" (defArgs s_turn_between) (defBody s_turn_between) (defScope s_turn_between) .none kV22 dc22 pm22 an22 cd22 ct22), sl22⟩) (c22 : PySem.W.codeIn K cd22 "turn_between" = true) (k22 : PySem.W.keepIn K (.ref f22) = true)
    (a23 : PySem.W.nsIn K mainGlobals "times_to_nought" = some (some (.ref f23))) (l23 : K.lookup f23 = some ⟨oc23, od23, .func (PySem.W.fnOf "times_to_nought" "times_to_nought" (defArgs s_times_to_nought) (defBody s_times_to_nought) (defScope s_times_to_nought) .none kV23 dc23 pm23 an23 cd23 ct23), sl23⟩) (c23 : PySem.W.codeIn K cd23 "times_to_nought" = true) (k23 : PySem.W.keepIn K (.ref f23) = true)
    (a24 : PySem.W.nsIn K mainGlobals "whole_places" = some (some (.ref f24))) (l24 : K.lookup f24 = some ⟨oc24, od24, .func (PySem.W.fnOf "whole_places" "whole_places" (defArgs s_whole_places) (defBody s_whole_places) (defScope s_whole_places) .none kV24 dc24 pm24 an24 cd24 ct24), sl24⟩) (c24 : PySem.W.codeIn K cd24 "whole_places" = true) (k24 : PySem.W.keepIn K (.ref f24) = true)
    (a25 : PySem.W.nsIn K mainGlobals "common_shares" = some (some (.ref f25))) (l25 : K.lookup f25 = some ⟨oc25, od25, .func (PySem.W.fnOf "common_shares" "common_shares" (defArgs s_common_shares) (defBody s_common_shares) (defScope s_common_shares) .none kV25 dc25 pm25 an25 cd25 ct25), sl25⟩) (c25 : PySem.W.codeIn K cd25 "common_shares" = true) (k25 : PySem.W.keepIn K (.ref f25) = true)
    (a26 : PySem.W.nsIn K mainGlobals "along" = some (some (.ref f26))) (l26 : K.lookup f26 = some ⟨oc26, od26, .func (PySem.W.fnOf "along" "along" (defArgs s_along) (defBody s_along) (defScope s_along) .none kV26 dc26 pm26 an26 cd26 ct26), sl26⟩) (c26 : PySem.W.codeIn K cd26 "along" = true) (k26 : PySem.W.keepIn K (.ref f26) = true)
    (a27 : PySem.W.nsIn K mainGlobals "reach" = some (some (.ref f27))) (l27 : K.lookup f27 = some ⟨oc27, od27, .func (PySem.W.fnOf "reach" "reach" (defArgs s_reach) (defBody s_reach) (defScope s_reach) .none kV27 dc27 pm27 an27 cd27 ct27), sl27⟩) (c27 : PySem.W.codeIn K cd27 "reach" = true) (k27 : PySem.W.keepIn K (.ref f27) = true)
    (a28 : PySem.W.nsIn K mainGlobals "way_amid" = some (some (.ref f28))) (l28 : K.lookup f28 = some ⟨oc28, od28, .func (PySem.W.fnOf "way_amid" "way_amid" (defArgs s_way_amid) (defBody s_way_amid) (defScope s_way_amid) .none kV28 dc28 pm28 an28 cd28 ct28), sl28⟩) (c28 : PySem.W.codeIn K cd28 "way_amid" = true) (k28 : PySem.W.keepIn K (.ref f28) = true)
    (a29 : PySem.W.nsIn K mainGlobals "parted" = some (some (.ref f29))) (l29 : K.lookup f29 = some ⟨oc29, od29, .func (PySem.W.fnOf "parted" "parted" (defArgs s_parted) (defBody s_parted) (defScope s_parted) .none kV29 dc29 pm29 an29 cd29 ct29), sl29⟩) (c29 : PySem.W.codeIn K cd29 "parted" = true) (k29 : PySem.W.keepIn K (.ref f29) = true)
    (a30 : PySem.W.nsIn K mainGlobals "told_line" = some (some (.ref f30))) (l30 : K.lookup f30 = some ⟨oc30, od30, .func (PySem.W.fnOf "told_line" "told_line" (defArgs s_told_line) (defBody s_told_line) (defScope s_told_line) .none kV30 dc30 pm30 an30 cd30 ct30), sl30⟩) (c30 : PySem.W.codeIn K cd30 "told_line" = true) (k30 : PySem.W.keepIn K (.ref f30) = true)
    (a31 : PySem.W.nsIn K mainGlobals "parting" = some (some (.ref f31))) (l31 : K.lookup f31 = some ⟨oc31, od31, .func (PySem.W.fnOf "parting" "parting" (defArgs s_parting) (defBody s_parting) (defScope s_parting) .none kV31 dc31 pm31 an31 cd31 ct31), sl31⟩) (c31 : PySem.W.codeIn K cd31 "parting" = true) (k31 : PySem.W.keepIn K (.ref f31) = true)
    (a32 : PySem.W.nsIn K mainGlobals "law" = some (some (.ref f32))) (l32 : K.lookup f32 = some ⟨oc32, od32, .func (PySem.W.fnOf "law" "law" (defArgs s_law) (defBody s_law) (defScope s_law) .none kV32 dc32 pm32 an32 cd32 ct32), sl32⟩) (c32 : PySem.W.codeIn K cd32 "law" = true) (k32 : PySem.W.keepIn K (.ref f32) = true)
    (z_len : PySem.W.nsIn K mainGlobals "len" = some none)
    (z_abs : PySem.W.nsIn K mainGlobals "abs" = some none)
    (z_range : PySem.W.nsIn K mainGlobals "range" = some none)
    (z_max : PySem.W.nsIn K mainGlobals "max" = some none)
    (z_min : PySem.W.nsIn K mainGlobals "min" = some none)
    (z_any : PySem.W.nsIn K mainGlobals "any" = some none)
    (z_all : PySem.W.nsIn K mainGlobals "all" = some none)
    (z_sum : PySem.W.nsIn K mainGlobals "sum" = some none)
    (z_isinstance : PySem.W.nsIn K mainGlobals "isinstance" = some none)
    (z_int : PySem.W.nsIn K mainGlobals "int" = some none)
    (z_bool : PySem.W.nsIn K mainGlobals "bool" = some none)
    (z_tuple : PySem.W.nsIn K mainGlobals "tuple" = some none)
    (z_list : PySem.W.nsIn K mainGlobals "list" = some none)
    (z_str : PySem.W.nsIn K mainGlobals "str" = some none)
    (z_ValueError : PySem.W.nsIn K mainGlobals "ValueError" = some none)
    (z_zip : PySem.W.nsIn K mainGlobals "zip" = some none)
    (z_reversed : PySem.W.nsIn K mainGlobals "reversed" = some none)
    (z_enumerate : PySem.W.nsIn K mainGlobals "enumerate" = some none)
    (z_sorted : PySem.W.nsIn K mainGlobals "sorted" = some none)
    (z_dict : PySem.W.nsIn K mainGlobals "dict" = some none)
    {A_PLAIN_WAYS B1_PLAIN_WAYS B2_PLAIN_WAYS B3_PLAIN_WAYS B4_PLAIN_WAYS : Addr} {d0_PLAIN_WAYS d1_PLAIN_WAYS d2_PLAIN_WAYS d3_PLAIN_WAYS d4_PLAIN_WAYS : Option Addr} {s0_PLAIN_WAYS s1_PLAIN_WAYS s2_PLAIN_WAYS s3_PLAIN_WAYS s4_PLAIN_WAYS : Array (Option Value)} {n0_PLAIN_WAYS n1_PLAIN_WAYS n2_PLAIN_WAYS n3_PLAIN_WAYS n4_PLAIN_WAYS : Nat} {t1_PLAIN_WAYS t2_PLAIN_WAYS t3_PLAIN_WAYS t4_PLAIN_WAYS t5_PLAIN_WAYS t6_PLAIN_WAYS t7_PLAIN_WAYS t8_PLAIN_WAYS : Tok}
    (a_PLAIN_WAYS : PySem.W.nsIn K mainGlobals "PLAIN_WAYS" = some (some (.ref A_PLAIN_WAYS)))
    (lA_PLAIN_WAYS : K.lookup A_PLAIN_WAYS = some ⟨.type "tuple", d0_PLAIN_WAYS, .seq #[.ref B1_PLAIN_WAYS, .ref B2_PLAIN_WAYS, .ref B3_PLAIN_WAYS, .ref B4_PLAIN_WAYS] n0_PLAIN_WAYS, s0_PLAIN_WAYS⟩)
    (l1_PLAIN_WAYS : K.lookup B1_PLAIN_WAYS = some ⟨.type "tuple", d1_PLAIN_WAYS, .seq #[.int (1) t1_PLAIN_WAYS, .int (0) t2_PLAIN_WAYS] n1_PLAIN_WAYS, s1_PLAIN_WAYS⟩)
    (l2_PLAIN_WAYS : K.lookup B2_PLAIN_WAYS = some ⟨.type "tuple", d2_PLAIN_WAYS, .seq #[.int (-1) t3_PLAIN_WAYS, .int (0) t4_PLAIN_WAYS] n2_PLAIN_WAYS, s2_PLAIN_WAYS⟩)
    (l3_PLAIN_WAYS : K.lookup B3_PLAIN_WAYS = some ⟨.type "tuple", d3_PLAIN_WAYS, .seq #[.int (0) t5_PLAIN_WAYS, .int (1) t6_PLAIN_WAYS] n3_PLAIN_WAYS, s3_PLAIN_WAYS⟩)
    (l4_PLAIN_WAYS : K.lookup B4_PLAIN_WAYS = some ⟨.type "tuple", d4_PLAIN_WAYS, .seq #[.int (0) t7_PLAIN_WAYS, .int (-1) t8_PLAIN_WAYS] n4_PLAIN_WAYS, s4_PLAIN_WAYS⟩)
    : ∃ fd : FuncData, (∀ (s : Shared) (v : Value), BindsTo s fd ⟨[v], []⟩ [("_law_script", v)]) ∧ ∀ (P : Program) (base : Heap), K.In base → base.Ns mainGlobals mg → FnOk P w K mg base CX0 8 fa fd ["_law_script"] ((spLaw K)) := by
  have e := hfa.symm.trans (PySem.W.mg_of KX GN a32)
  cases e
  have B : Blt mg := ⟨PySem.W.mg_none_of KX GN z_len, PySem.W.mg_none_of KX GN z_abs, PySem.W.mg_none_of KX GN z_range, PySem.W.mg_none_of KX GN z_max, PySem.W.mg_none_of KX GN z_min, PySem.W.mg_none_of KX GN z_any, PySem.W.mg_none_of KX GN z_all, PySem.W.mg_none_of KX GN z_sum, PySem.W.mg_none_of KX GN z_isinstance, PySem.W.mg_none_of KX GN z_int, PySem.W.mg_none_of KX GN z_bool, PySem.W.mg_none_of KX GN z_tuple, PySem.W.mg_none_of KX GN z_list, PySem.W.mg_none_of KX GN z_str, PySem.W.mg_none_of KX GN z_ValueError, PySem.W.mg_none_of KX GN z_zip, PySem.W.mg_none_of KX GN z_reversed, PySem.W.mg_none_of KX GN z_enumerate, PySem.W.mg_none_of KX GN z_sorted, PySem.W.mg_none_of KX GN z_dict⟩
  have G : Cst K mg A_PLAIN_WAYS B1_PLAIN_WAYS B2_PLAIN_WAYS B3_PLAIN_WAYS B4_PLAIN_WAYS := ⟨PySem.W.mg_of KX GN a_PLAIN_WAYS, fun _ => kFour lA_PLAIN_WAYS, fun _ => ⟨kPair l1_PLAIN_WAYS, kPair l2_PLAIN_WAYS, kPair l3_PLAIN_WAYS, kPair l4_PLAIN_WAYS⟩⟩
  have F0 : FunAt K mg "_law_cell_at" s_l_cell_at ["_law_script", "_law_k"] := FunAt.mk' (PySem.W.mg_of KX GN a0) l0 c0 k0 fun _ _ _ _ _ _ us hl => uln2 (fun _ _ => rfl) us hl
  have F1 : FunAt K mg "_law_part" s_l_part ["_law_one", "_law_other"] := FunAt.mk' (PySem.W.mg_of KX GN a1) l1 c1 k1 fun _ _ _ _ _ _ us hl => uln2 (fun _ _ => rfl) us hl
  have F2 : FunAt K mg "_law_share" s_l_share ["_law_top", "_law_bottom"] := FunAt.mk' (PySem.W.mg_of KX GN a2) l2 c2 k2 fun _ _ _ _ _ _ us hl => uln2 (fun _ _ => rfl) us hl
  have F3 : FunAt K mg "_law_stream" s_l_stream ["_law_cell", "_law_place"] := FunAt.mk' (PySem.W.mg_of KX GN a3) l3 c3 k3 fun _ _ _ _ _ _ us hl => uln2 (fun _ _ => rfl) us hl
  have F4 : FunAt K mg "_law_drawn_two" s_l_drawn_two ["_law_script", "_law_most"] := FunAt.mk' (PySem.W.mg_of KX GN a4) l4 c4 k4 fun _ _ _ _ _ _ us hl => uln2 (fun _ _ => rfl) us hl
  have F5 : FunAt K mg "_law_whole" s_l_whole ["_law_found"] := FunAt.mk' (PySem.W.mg_of KX GN a5) l5 c5 k5 fun _ _ _ _ _ _ us hl => uln1 (fun _ => rfl) us hl
  have F6 : FunAt K mg "_law_is_share" s_l_is_share ["_law_found"] := FunAt.mk' (PySem.W.mg_of KX GN a6) l6 c6 k6 fun _ _ _ _ _ _ us hl => uln1 (fun _ => rfl) us hl
  have F7 : FunAt K mg "_law_is_line" s_l_is_line ["_law_told", "_law_some", "_law_others"] := FunAt.mk' (PySem.W.mg_of KX GN a7) l7 c7 k7 fun _ _ _ _ _ _ us hl => uln3 (fun _ _ _ => rfl) us hl
  have F8 : FunAt K mg "_law_mean" s_l_mean ["_law_parts", "_law_places"] := FunAt.mk' (PySem.W.mg_of KX GN a8) l8 c8 k8 fun _ _ _ _ _ _ us hl => uln2 (fun _ _ => rfl) us hl
  have F9 : FunAt K mg "_law_kind" s_l_kind ["_law_told", "_law_some", "_law_others"] := FunAt.mk' (PySem.W.mg_of KX GN a9) l9 c9 k9 fun _ _ _ _ _ _ us hl => uln3 (fun _ _ _ => rfl) us hl
  have F10 : FunAt K mg "_law_less" s_l_less ["_law_one", "_law_other"] := FunAt.mk' (PySem.W.mg_of KX GN a10) l10 c10 k10 fun _ _ _ _ _ _ us hl => uln2 (fun _ _ => rfl) us hl
  have F11 : FunAt K mg "_law_moved" s_l_moved ["_law_places", "_law_x", "_law_y"] := FunAt.mk' (PySem.W.mg_of KX GN a11) l11 c11 k11 fun _ _ _ _ _ _ us hl => uln3 (fun _ _ _ => rfl) us hl
  have F12 : FunAt K mg "_law_meeting" s_l_meeting ["_law_some", "_law_others", "_law_s"] := FunAt.mk' (PySem.W.mg_of KX GN a12) l12 c12 k12 fun _ _ _ _ _ _ us hl => uln3 (fun _ _ _ => rfl) us hl
  have F13 : FunAt K mg "_law_by_way" s_l_by_way ["_law_way", "_law_place"] := FunAt.mk' (PySem.W.mg_of KX GN a13) l13 c13 k13 fun _ _ _ _ _ _ us hl => uln2 (fun _ _ => rfl) us hl
  have F14 : FunAt K mg "_law_parted" s_l_parted ["_law_some", "_law_others", "_law_s"] := FunAt.mk' (PySem.W.mg_of KX GN a14) l14 c14 k14 fun _ _ _ _ _ _ us hl => uln3 (fun _ _ _ => rfl) us hl
  have F15 : FunAt K mg "greatest_common" s_greatest_common ["one", "other"] := FunAt.mk' (PySem.W.mg_of KX GN a15) l15 c15 k15 fun _ _ _ _ _ _ us hl => uln2 (fun _ _ => rfl) us hl
  have F16 : FunAt K mg "common_bottoms" s_common_bottoms ["shares"] := FunAt.mk' (PySem.W.mg_of KX GN a16) l16 c16 k16 fun _ _ _ _ _ _ us hl => uln1 (fun _ => rfl) us hl
  have F17 : FunAt K mg "product" s_product ["numbers"] := FunAt.mk' (PySem.W.mg_of KX GN a17) l17 c17 k17 fun _ _ _ _ _ _ us hl => uln1 (fun _ => rfl) us hl
  have F18 : FunAt K mg "axis" s_axis ["shares"] := FunAt.mk' (PySem.W.mg_of KX GN a18) l18 c18 k18 fun _ _ _ _ _ _ us hl => uln1 (fun _ => rfl) us hl
  have F19 : FunAt K mg "axes" s_axes ["points"] := FunAt.mk' (PySem.W.mg_of KX GN a19) l19 c19 k19 fun _ _ _ _ _ _ us hl => uln1 (fun _ => rfl) us hl
  have F20 : FunAt K mg "share" s_share ["top", "bottom"] := FunAt.mk' (PySem.W.mg_of KX GN a20) l20 c20 k20 fun _ _ _ _ _ _ us hl => uln2 (fun _ _ => rfl) us hl
  have F21 : FunAt K mg "step_across" s_step_across ["ones", "others", "i", "j"] := FunAt.mk' (PySem.W.mg_of KX GN a21) l21 c21 k21 fun _ _ _ _ _ _ us hl => uln4 (fun _ _ _ _ => rfl) us hl
  have F22 : FunAt K mg "turn_between" s_turn_between ["one", "other"] := FunAt.mk' (PySem.W.mg_of KX GN a22) l22 c22 k22 fun _ _ _ _ _ _ us hl => uln2 (fun _ _ => rfl) us hl
  have F23 : FunAt K mg "times_to_nought" s_times_to_nought ["steps"] := FunAt.mk' (PySem.W.mg_of KX GN a23) l23 c23 k23 fun _ _ _ _ _ _ us hl => uln1 (fun _ => rfl) us hl
  have F24 : FunAt K mg "whole_places" s_whole_places ["points"] := FunAt.mk' (PySem.W.mg_of KX GN a24) l24 c24 k24 fun _ _ _ _ _ _ us hl => uln1 (fun _ => rfl) us hl
  have F25 : FunAt K mg "common_shares" s_common_shares ["one", "other", "steps"] := FunAt.mk' (PySem.W.mg_of KX GN a25) l25 c25 k25 fun _ _ _ _ _ _ us hl => uln3 (fun _ _ _ => rfl) us hl
  have F26 : FunAt K mg "along" s_along ["places", "way"] := FunAt.mk' (PySem.W.mg_of KX GN a26) l26 c26 k26 fun _ _ _ _ _ _ us hl => uln2 (fun _ _ => rfl) us hl
  have F27 : FunAt K mg "reach" s_reach ["ones", "others", "way"] := FunAt.mk' (PySem.W.mg_of KX GN a27) l27 c27 k27 fun _ _ _ _ _ _ us hl => uln3 (fun _ _ _ => rfl) us hl
  have F28 : FunAt K mg "way_amid" s_way_amid ["right", "left"] := FunAt.mk' (PySem.W.mg_of KX GN a28) l28 c28 k28 fun _ _ _ _ _ _ us hl => uln2 (fun _ _ => rfl) us hl
  have F29 : FunAt K mg "parted" s_parted ["ones", "others"] := FunAt.mk' (PySem.W.mg_of KX GN a29) l29 c29 k29 fun _ _ _ _ _ _ us hl => uln2 (fun _ _ => rfl) us hl
  have F30 : FunAt K mg "told_line" s_told_line ["line", "x_bottom", "y_bottom", "room"] := FunAt.mk' (PySem.W.mg_of KX GN a30) l30 c30 k30 fun _ _ _ _ _ _ us hl => uln4 (fun _ _ _ _ => rfl) us hl
  have F31 : FunAt K mg "parting" s_parting ["one", "other"] := FunAt.mk' (PySem.W.mg_of KX GN a31) l31 c31 k31 fun _ _ _ _ _ _ us hl => uln2 (fun _ _ => rfl) us hl
  have F32 : FunAt K mg "law" s_law ["_law_script"] := FunAt.mk' (PySem.W.mg_of KX GN a32) l32 c32 k32 fun _ _ _ _ _ _ us hl => uln1 (fun _ => rfl) us hl
  refine ⟨PySem.W.fnOf "law" "law" (defArgs s_law) (defBody s_law) (defScope s_law) .none kV32 dc32 pm32 an32 cd32 ct32, fun s v => .of_eq rfl, fun P base _ _ => ?_⟩
  have D0 : DefOk P w K mg base CX0 1 "_law_cell_at" ["_law_script", "_law_k"] (spCell K) := ok_l_cell_at F0 B G
  have D1 : DefOk P w K mg base CX0 1 "_law_part" ["_law_one", "_law_other"] spPart := ok_l_part F1 B G
  have D2 : DefOk P w K mg base CX0 2 "_law_share" ["_law_top", "_law_bottom"] spLShare := ok_l_share F2 B G D1
  have D3 : DefOk P w K mg base CX0 1 "_law_stream" ["_law_cell", "_law_place"] spStream := ok_l_stream F3 B G
  have D4 : DefOk P w K mg base CX0 3 "_law_drawn_two" ["_law_script", "_law_most"] (spDTwo K) := ok_l_drawn_two F4 B G D0 D2 D3
  have D5 : DefOk P w K mg base CX0 1 "_law_whole" ["_law_found"] spWhole := ok_l_whole F5 B G
  have D6 : DefOk P w K mg base CX0 2 "_law_is_share" ["_law_found"] spIsShare := ok_l_is_share F6 B G D1 D5
  have D7 : DefOk P w K mg base CX0 3 "_law_is_line" ["_law_told", "_law_some", "_law_others"] (spIsLine K) := ok_l_is_line F7 B G D6
  have D8 : DefOk P w K mg base CX0 3 "_law_mean" ["_law_parts", "_law_places"] (spLMean K) := ok_l_mean F8 B G D2 D6
  have D9 : DefOk P w K mg base CX0 4 "_law_kind" ["_law_told", "_law_some", "_law_others"] (spKind K) := ok_l_kind F9 B G D7 D8
  have D10 : DefOk P w K mg base CX0 3 "_law_less" ["_law_one", "_law_other"] spLLess := ok_l_less F10 B G D2
  have D11 : DefOk P w K mg base CX0 3 "_law_moved" ["_law_places", "_law_x", "_law_y"] (spMoved K) := ok_l_moved F11 B G D2
  have D12 : DefOk P w K mg base CX0 4 "_law_meeting" ["_law_some", "_law_others", "_law_s"] (spMeeting K) := ok_l_meeting F12 B G D2 D8 D10 D11
  have D13 : DefOk P w K mg base CX0 3 "_law_by_way" ["_law_way", "_law_place"] spByWay := ok_l_by_way F13 B G D2
  have D14 : DefOk P w K mg base CX0 4 "_law_parted" ["_law_some", "_law_others", "_law_s"] (spLPart K) := ok_l_parted F14 B G D2 D10 D11 D13
  have D15 : DefOk P w K mg base CX0 1 "greatest_common" ["one", "other"] spGcd := ok_greatest_common F15 B G
  have D16 : DefOk P w K mg base CX0 2 "common_bottoms" ["shares"] (spCommon K) := ok_common_bottoms F16 B G D15
  have D17 : DefOk P w K mg base CX0 1 "product" ["numbers"] (spProduct K) := ok_product F17 B G
  have D18 : DefOk P w K mg base CX0 3 "axis" ["shares"] (spAxisD K) := ok_axis F18 B G D16 D17
  have D19 : DefOk P w K mg base CX0 4 "axes" ["points"] (spAxesD K) := ok_axes F19 B G D18
  have D20 : DefOk P w K mg base CX0 2 "share" ["top", "bottom"] spShare := ok_share F20 B G D15
  have D21 : DefOk P w K mg base CX0 1 "step_across" ["ones", "others", "i", "j"] (spStepA K) := ok_step_across F21 B G
  have D22 : DefOk P w K mg base CX0 1 "turn_between" ["one", "other"] (spTurnB K) := ok_turn_between F22 B G
  have D23 : DefOk P w K mg base CX0 2 "times_to_nought" ["steps"] (spTTN K) := ok_times_to_nought F23 B G D22
  have D24 : DefOk P w K mg base CX0 5 "whole_places" ["points"] (spWholeP K) := ok_whole_places F24 B G D19
  have D25 : DefOk P w K mg base CX0 6 "common_shares" ["one", "other", "steps"] (spComSh K) := ok_common_shares F25 B G D20 D21 D23 D24
  have D26 : DefOk P w K mg base CX0 1 "along" ["places", "way"] (spAlong K) := ok_along F26 B G
  have D27 : DefOk P w K mg base CX0 2 "reach" ["ones", "others", "way"] (spReach K) := ok_reach F27 B G D21 D26
  have D28 : DefOk P w K mg base CX0 1 "way_amid" ["right", "left"] (spAmid K) := ok_way_amid F28 B G
  have D29 : DefOk P w K mg base CX0 3 "parted" ["ones", "others"] (spParted K) := ok_parted F29 B G D21 D22 D27 D28
  have D30 : DefOk P w K mg base CX0 3 "told_line" ["line", "x_bottom", "y_bottom", "room"] spToldLine := ok_told_line F30 B G D20
  have D31 : DefOk P w K mg base CX0 7 "parting" ["one", "other"] (spParting K) := ok_parting F31 B G D17 D19 D25 D29 D30
  have D32 : DefOk P w K mg base CX0 8 "law" ["_law_script"] (spLaw K) := ok_law F32 B G D0 D3 D4 D9 D12 D14 D31
  exact D32.law l32 (PySem.W.mg_of KX GN a32)
end Cv
open PySem PySem.W PyProof.Rows
set_option maxHeartbeats 0 in
theorem PySem.Challenge.cw_curveseat_k51_whole_parted_or_not_holds : PySem.Challenge.rw_curveseat_k51_whole_parted_or_not.Holds := by
  w_on; o_law; k_head; (case hw => w_witness2)
  k_fill
  refine Cv.walk (l := PySem.Challenge.rw_curveseat_k51_whole_parted_or_not) (k := 8) (x := "_law_script") (CX := L2.CX0) (sp := fun K => (Cv.spLaw K)) rfl rfl ⟨rfl, by decide, by decide⟩ (fun w h Y => PySem.W.kIn_of Y) ?F (fun K H a ns h1 h2 h3 => ⟨a, ns, rfl, h3, h1, fun _ => rfl⟩) (fun _ _ _ _ z => z)
  case F =>
    intro w mg fa h KX G hmg
    refine' Cv.all_mk KX G hmg ?a0 ?l0 ?c0 ?k0 ?a1 ?l1 ?c1 ?k1 ?a2 ?l2 ?c2 ?k2 ?a3 ?l3 ?c3 ?k3 ?a4 ?l4 ?c4 ?k4 ?a5 ?l5 ?c5 ?k5 ?a6 ?l6 ?c6 ?k6 ?a7 ?l7 ?c7 ?k7 ?a8 ?l8 ?c8 ?k8 ?a9 ?l9 ?c9 ?k9 ?a10 ?l10 ?c10 ?k10 ?a11 ?l11 ?c11 ?k11 ?a12 ?l12 ?c12 ?k12 ?a13 ?l13 ?c13 ?k13 ?a14 ?l14 ?c14 ?k14 ?a15 ?l15 ?c15 ?k15 ?a16 ?l16 ?c16 ?k16 ?a17 ?l17 ?c17 ?k17 ?a18 ?l18 ?c18 ?k18 ?a19 ?l19 ?c19 ?k19 ?a20 ?l20 ?c20 ?k20 ?a21 ?l21 ?c21 ?k21 ?a22 ?l22 ?c22 ?k22 ?a23 ?l23 ?c23 ?k23 ?a24 ?l24 ?c24 ?k24 ?a25 ?l25 ?c25 ?k25 ?a26 ?l26 ?c26 ?k26 ?a27 ?l27 ?c27 ?k27 ?a28 ?l28 ?c28 ?k28 ?a29 ?l29 ?c29 ?k29 ?a30 ?l30 ?c30 ?k30 ?a31 ?l31 ?c31 ?k31 ?a32 ?l32 ?c32 ?k32 ?z_len ?z_abs ?z_range ?z_max ?z_min ?z_any ?z_all ?z_sum ?z_isinstance ?z_int ?z_bool ?z_tuple ?z_list ?z_str ?z_ValueError ?z_zip ?z_reversed ?z_enumerate ?z_sorted ?z_dict ?a_PLAIN_WAYS ?lA_PLAIN_WAYS ?l1_PLAIN_WAYS ?l2_PLAIN_WAYS ?l3_PLAIN_WAYS ?l4_PLAIN_WAYS
    (case a0 => k_is)
    (case l0 => k_is)
    (case c0 => k_is)
    (case k0 => k_is)
    (case a1 => k_is)
    (case l1 => k_is)
    (case c1 => k_is)
    (case k1 => k_is)
    (case a2 => k_is)
    (case l2 => k_is)
    (case c2 => k_is)
    (case k2 => k_is)
    (case a3 => k_is)
    (case l3 => k_is)
    (case c3 => k_is)
    (case k3 => k_is)
    (case a4 => k_is)
    (case l4 => k_is)
    (case c4 => k_is)
    (case k4 => k_is)
    (case a5 => k_is)
    (case l5 => k_is)
    (case c5 => k_is)
    (case k5 => k_is)
    (case a6 => k_is)
    (case l6 => k_is)
    (case c6 => k_is)
    (case k6 => k_is)
    (case a7 => k_is)
    (case l7 => k_is)
    (case c7 => k_is)
    (case k7 => k_is)
    (case a8 => k_is)
    (case l8 => k_is)
    (case c8 => k_is)
    (case k8 => k_is)
    (case a9 => k_is)
    (case l9 => k_is)
    (case c9 => k_is)
    (case k9 => k_is)
    (case a10 => k_is)
    (case l10 => k_is)
    (case c10 => k_is)
    (case k10 => k_is)
    (case a11 => k_is)
    (case l11 => k_is)
    (case c11 => k_is)
    (case k11 => k_is)
    (case a12 => k_is)
    (case l12 => k_is)
    (case c12 => k_is)
    (case k12 => k_is)
    (case a13 => k_is)
    (case l13 => k_is)
    (case c13 => k_is)
    (case k13 => k_is)
    (case a14 => k_is)
    (case l14 => k_is)
    (case c14 => k_is)
    (case k14 => k_is)
    (case a15 => k_is)
    (case l15 => k_is)
    (case c15 => k_is)
    (case k15 => k_is)
    (case a16 => k_is)
    (case l16 => k_is)
    (case c16 => k_is)
    (case k16 => k_is)
    (case a17 => k_is)
    (case l17 => k_is)
    (case c17 => k_is)
    (case k17 => k_is)
    (case a18 => k_is)
    (case l18 => k_is)
    (case c18 => k_is)
    (case k18 => k_is)
    (case a19 => k_is)
    (case l19 => k_is)
    (case c19 => k_is)
    (case k19 => k_is)
    (case a20 => k_is)
    (case l20 => k_is)
    (case c20 => k_is)
    (case k20 => k_is)
    (case a21 => k_is)
    (case l21 => k_is)
    (case c21 => k_is)
    (case k21 => k_is)
    (case a22 => k_is)
    (case l22 => k_is)
    (case c22 => k_is)
    (case k22 => k_is)
    (case a23 => k_is)
    (case l23 => k_is)
    (case c23 => k_is)
    (case k23 => k_is)
    (case a24 => k_is)
    (case l24 => k_is)
    (case c24 => k_is)
    (case k24 => k_is)
    (case a25 => k_is)
    (case l25 => k_is)
    (case c25 => k_is)
    (case k25 => k_is)
    (case a26 => k_is)
    (case l26 => k_is)
    (case c26 => k_is)
    (case k26 => k_is)
    (case a27 => k_is)
    (case l27 => k_is)
    (case c27 => k_is)
    (case k27 => k_is)
    (case a28 => k_is)
    (case l28 => k_is)
    (case c28 => k_is)
    (case k28 => k_is)
    (case a29 => k_is)
    (case l29 => k_is)
    (case c29 => k_is)
    (case k29 => k_is)
    (case a30 => k_is)
    (case l30 => k_is)
    (case c30 => k_is)
    (case k30 => k_is)
    (case a31 => k_is)
    (case l31 => k_is)
    (case c31 => k_is)
    (case k31 => k_is)
    (case a32 => k_is)
    (case l32 => k_is)
    (case c32 => k_is)
    (case k32 => k_is)
    (case z_len => k_is)
    (case z_abs => k_is)
    (case z_range => k_is)
    (case z_max => k_is)
    (case z_min => k_is)
    (case z_any => k_is)
    (case z_all => k_is)
    (case z_sum => k_is)
    (case z_isinstance => k_is)
    (case z_int => k_is)
    (case z_bool => k_is)
    (case z_tuple => k_is)
    (case z_list => k_is)
    (case z_str => k_is)
    (case z_ValueError => k_is)
    (case z_zip => k_is)
    (case z_reversed => k_is)
    (case z_enumerate => k_is)
    (case z_sorted => k_is)
    (case z_dict => k_is)
    (case a_PLAIN_WAYS => k_is)
    (case lA_PLAIN_WAYS => k_is)
    (case l1_PLAIN_WAYS => k_is)
    (case l2_PLAIN_WAYS => k_is)
    (case l3_PLAIN_WAYS => k_is)
    (case l4_PLAIN_WAYS => k_is)
#print axioms PySem.Challenge.cw_curveseat_k51_whole_parted_or_not_holds
