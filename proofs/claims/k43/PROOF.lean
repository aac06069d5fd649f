import PyProof.Rows.All
import Wide.All
import OpenK.AllK
import Wide.FinOn
import Lean
import PyProof.EqAt
import PyProof.EqKinds
import PyProof.TupleCall
import PySem.Challenge.RW_curveseat_k43_in_a_hull
set_option compiler.extract_closed false
set_option genSizeOfSpec false
namespace PySem.W.Fast
noncomputable def tw3081390704516187170:=()
noncomputable def tw5667754145565040657:=()
noncomputable def tw8817270110674349506:=()
noncomputable def tw5508718215385782034:=()
noncomputable def tw9526648780777697331:=()
noncomputable def tw4267710369945085144:=()
noncomputable def tw12954951296095067573:=()
noncomputable def tw425674141377420195:=()
noncomputable def tw8401148970132586382:=()
noncomputable def tw4883170224593325295:=()
noncomputable def tw6803800469939232222:=()
noncomputable def tw341607347151914056:=()
noncomputable def tw6012331573714803786:=()
noncomputable def tw291712744779007893:=()
noncomputable def tw2264518084816231697:=()
noncomputable def tw5709001833172942782:=()
noncomputable def tw18337773596600972991:=()
noncomputable def tw16671636487537209556:=()
noncomputable def tw8140316970165108644:=()
noncomputable def tw18163326318829594825:=()
noncomputable def tw9718906096235321616:=()
noncomputable def tw17589830486609751835:=()
noncomputable def tw11833479644693553958:=()
noncomputable def tw11634542008539542085:=()
noncomputable def tw8602514776402686612:=()
noncomputable def tw17092774203595992514:=()
noncomputable def tw9796531379840832729:=()
noncomputable def tw14941158970084836957:=()
noncomputable def tw4123979325880684219:=()
noncomputable def tw1448694799071062583:=()
noncomputable def tw11960285332333404603:=()
noncomputable def tw932213195531012905:=()
noncomputable def tw14476326102590725359:=()
noncomputable def tw9590640227497341235:=()
noncomputable def tw11088291074123176545:=()
noncomputable def tw18253411031250049769:=()
noncomputable def tw18253512458477936866:=()
noncomputable def tw508863505361408216:=()
noncomputable def tw2967361536899911635:=()
noncomputable def tw6373452880139308796:=()
noncomputable def tw3888099034244394765:=()
noncomputable def tw12257908034793750399:=()
noncomputable def tw17236039237125295399:=()
noncomputable def tw5618017114047453487:=()
noncomputable def tw13650560860200876875:=()
noncomputable def tw3740394635134654951:=()
noncomputable def tw1590014637059854277:=()
noncomputable def tw13362705628522594031:=()
noncomputable def tw17264056426074919583:=()
noncomputable def tw12099982600091245796:=()
noncomputable def tw9147106695196803128:=()
noncomputable def tw9424972866612360202:=()
noncomputable def tw18035573465532249393:=()
noncomputable def tw10729107585953332817:=()
noncomputable def tw13148284394239591347:=()
noncomputable def tw4231249577393067338:=()
noncomputable def tw2506723479637128164:=()
noncomputable def tw16803701396956888130:=()
noncomputable def tw5315726809134575977:=()
noncomputable def tw7815749926573204679:=()
noncomputable def tw15586562375427539236:=()
noncomputable def tw1085367132552038783:=()
noncomputable def tw15849763387519430839:=()
noncomputable def tw1869414229610689166:=()
noncomputable def tw3581940535104449708:=()
noncomputable def tw2600335631120553590:=()
noncomputable def tw7746771812603302807:=()
noncomputable def tw1856408176301873106:=()
noncomputable def tw12663702244315216081:=()
noncomputable def tw17223735680022385972:=()
noncomputable def tw849696981712792550:=()
noncomputable def tw9506685856801652214:=()
noncomputable def tw4785435292209658879:=()
noncomputable def tw10802498487640188527:=()
noncomputable def tw8541808086240924028:=()
noncomputable def tw14729745366557221497:=()
noncomputable def tw14216313148233865191:=()
noncomputable def tw8147077335848268487:=()
noncomputable def tw18052055598936647408:=()
noncomputable def tw4653676265439330491:=()
noncomputable def tw15859610627828246501:=()
noncomputable def tw3694246310682677806:=()
noncomputable def tw8459166415281783084:=()
noncomputable def tw15908149396557149833:=()
noncomputable def tw4668386869857778718:=()
noncomputable def tw16852851911436184400:=()
noncomputable def tw17884314515467846991:=()
noncomputable def tw9926427803212731154:=()
noncomputable def tw4501793470378902609:=()
noncomputable def tw7083519995959110738:=()
noncomputable def tw3215201046571523722:=()
noncomputable def tw12342774505846975722:=()
noncomputable def tw7405763736316502099:=()
noncomputable def tw8638297852648877314:=()
noncomputable def tw10954908307350055385:=()
noncomputable def tw10055777921365025650:=()
noncomputable def tw16439603382578116040:=()
noncomputable def tw17663016114450706925:=()
noncomputable def tw2725276589482777280:=()
noncomputable def tw17938983399695645502:=()
noncomputable def tw16440528023983227339:=()
noncomputable def tw13211121536495164196:=()
noncomputable def tw15156751407326250020:=()
noncomputable def tw3857139179419857085:=()
noncomputable def tw1498842152681567500:=()
noncomputable def tw16405885644797362602:=()
noncomputable def tw18433466062751503213:=()
noncomputable def tw14552976854280719157:=()
noncomputable def tw5241514294657564670:=()
noncomputable def tw14702396113056762394:=()
noncomputable def tw2606016267250334030:=()
noncomputable def tw2138834970143422615:=()
noncomputable def tw11391828614392754929:=()
noncomputable def tw8078203507809900747:=()
noncomputable def tw7109893955146087773:=()
noncomputable def tw11909587136017118258:=()
noncomputable def tw12814321043784656438:=()
noncomputable def tw8166328951115252619:=()
noncomputable def tw6406450688551814075:=()
noncomputable def tw15325417161868478023:=()
noncomputable def tw15209798451935944723:=()
noncomputable def tw9771994953918767884:=()
noncomputable def tw4236705599278902211:=()
noncomputable def tw12583338911387612340:=()
noncomputable def tw4666975945395083755:=()
noncomputable def tw4885828041272806475:=()
noncomputable def tw10605163157920591578:=()
noncomputable def tw13097129789771330150:=()
noncomputable def tw16708910311878972004:=()
noncomputable def tw7895432533567860916:=()
noncomputable def tw12525958782378713783:=()
noncomputable def tw10418106905962231204:=()
noncomputable def tw1418115306293808999:=()
end PySem.W.Fast
set_option maxHeartbeats 9999999
local macro_rules|`(tactic|omega)=>`(tactic|first|lia|omega (config:={}))
open PySem.W renaming Frag→b5h,mg_none_of→b5o,kqdOk→b5q,nsIn→b6b,kia_one→b6i,fnOf→b6m,Dat→b7e,kitOne→b7r,keepIn→b7s,codeIn→b7w,kqdP→b8a
open List renaming getElem?_eq_getElem→b5i,length_map→b5j,mem_append_right→b5m,size_toArray→b5p,getElem?_map→b5s,getElem?_eq_some_iff→b5t,length_append→b5u,getElem?_append_left→b5w,getElem?_append_right→b5y,getD_eq_getElem?_getD→b5z,mem_cons→b6a,length_cons→b6c,mem_singleton→b6d,mem_of_getElem?→b6e,lookup_cons→b6h,mem_cons_of_mem→b6j,not_mem_nil→b6k,mem_append→b6n,length_replicate→b6o,getElem?_eq_none→b6p,length_nil→b6x,getElem_of_mem→b6y,getElem_mem→b6z,zip_cons_cons→b7f,length_dropLast→b7h,range→b7l,map_cons→b7m,length_reverse→b7n,Nodup→b7o,replicate→b7p,forIn_cons→b7t,filterMap_cons→b7x,length_take→b7y,length_drop→b7z,mem_map→b8c,all_eq_true→b8e,of_mem_zip→b8g
open Nat renaming ne_of_lt→b5k,le_refl→b5n,lt_of_lt_of_le→b5v,mod_eq_of_lt→b6t,le_of_lt→b6u,lt_irrefl→b7a,zero_le→b7b,le_trans→b7j,mod_lt→b8b,ne_of_gt→b8d
open Rat renaming divInt→b5l,num_divInt_den→b7g,divInt_eq_div→b7i
open Bool renaming false_ne_true→b5r,false_eq_true→b6s,eq_iff_iff→b7u
open Int renaming gcd→b5x,fdiv_eq_ediv_of_nonneg→b6g,emod_nonneg→b6q,emod_lt_of_pos→b6r,toNat_natCast→b6w,toNat→b7c,mul_ediv_cancel_left→b7v
open Array renaming length_toList→b6f,getElem?_toList→b7d,getD_eq_getD_getElem?→b7q,getElem?_eq_getElem→b8f,size_map→b8k
open Option renaming some→b6l,getD→b8h
open PyProof.Rows renaming callWith_type1→b6v
open PySem.F renaming plainAttrs_list→b7k,slot_list_append→b8i,type_list_append→b8j
noncomputable section
set_option Elab.async false
set_option linter.all false
set_option maxRecDepth 100000
namespace L2
open PySem PySem.Spec PyProof.Rows
abbrev Key:=Sum Int Str
def keyIs:Key→Value→Bool
 | .inl k,v=>Value.isInt k v
 | .inr x,v=>Value.isStrOf x v
def keyH(w:World):Key→Int
 | .inl k=>hashInt k
 | .inr x=>hashStr w x
theorem a1f:∀ {k:Key} {v:Value},keyIs k v=true→(∃ i t,k=Sum.inl i∧v=Value.int i t)∨(∃ x t,k=Sum.inr x∧v=Value.str x t)
 | .inl i,v,h=>by
   obtain⟨t,e⟩:=Value.isInt_shape (k:=i) (v:=v) h
   exact .inl ⟨i,t,rfl,e⟩
 | .inr x,v,h=>by
   obtain⟨t,e⟩:=Value.isStrOf_shape (x:=x) (v:=v) h
   exact .inr ⟨x,t,rfl,e⟩
theorem key_ll(a b:Int):decide ((Sum.inl a:Key)=Sum.inl b)=(a == b):=by
 by_cases e:a=b
 · subst e;simp
 · have h:¬ (Sum.inl a:Key)=Sum.inl b:=fun q=>e (Sum.inl.inj q)
   rw[decide_eq_false h]
   exact (beq_eq_false_iff_ne.mpr e).symm
theorem key_rr(a b:Str):decide ((Sum.inr a:Key)=Sum.inr b)=decide (a=b):=by
 by_cases e:a=b
 · subst e;simp
 · have h:¬ (Sum.inr a:Key)=Sum.inr b:=fun q=>e (Sum.inr.inj q)
   rw[decide_eq_false h,decide_eq_false e]
theorem key_lr(a:Int)(b:Str):decide ((Sum.inl a:Key)=Sum.inr b)=false:=decide_eq_false (fun q=>nomatch q)
theorem key_rl(a:Str)(b:Int):decide ((Sum.inr a:Key)=Sum.inl b)=false:=decide_eq_false (fun q=>nomatch q)
def b3t(prog:Program)(w:World):PySem.KeyKind prog w Key where
 is:=keyIs
 hash:=keyH w
 inj:=fun v a b ha hb=>by
   rcases a1f ha with⟨i,t,rfl,rfl⟩ | ⟨x,t,rfl,rfl⟩
   · rcases a1f hb with⟨j,u,rfl,e⟩ | ⟨y,u,rfl,e⟩
     · injection e with e1 _;rw[e1]
     · exact nomatch e
   · rcases a1f hb with⟨j,u,rfl,e⟩ | ⟨y,u,rfl,e⟩
     · exact nomatch e
     · injection e with e1 _;rw[e1]
 byValue:=fun k v h=>by
   rcases a1f h with⟨i,t,rfl,rfl⟩ | ⟨x,t,rfl,rfl⟩<;>rfl
 pyHash:=fun hv h=>by
   rcases a1f hv with⟨i,t,rfl,rfl⟩ | ⟨x,t,rfl,rfl⟩
   · exact wpAny_pyHash_int h
   · exact wpAny_pyHash_str h
 eqBool:=fun hu hv h=>by
   rcases a1f hu with⟨i,t,rfl,rfl⟩ | ⟨x,t,rfl,rfl⟩
   · rcases a1f hv with⟨j,u,rfl,rfl⟩ | ⟨y,u,rfl,rfl⟩
     · rw[key_ll] at h;exact wpAny_eqBool_int h
     · rw[key_lr] at h;exact SeqAt.EqAt.int_str i t y u _ _ _ _ h
   · rcases a1f hv with⟨j,u,rfl,rfl⟩ | ⟨y,u,rfl,rfl⟩
     · rw[key_rl] at h;exact SeqAt.EqAt.str_int x t j u _ _ _ _ h
     · rw[key_rr] at h;exact wpAny_eqBool_str h
 «strs»:=fun k x t v h=>by
   rcases a1f h with⟨i,u,rfl,e⟩ | ⟨y,u,rfl,e⟩
   · exact nomatch e
   · injection e with e1 _
     subst e1
     cases v<;>rfl
end L2
namespace L2
open PySem PySem.Spec PyProof.Rows
inductive V where
 | non | bl (b:Bool) | int (i:Int) | str (x:Str) | byt (b:Array UInt8) | flt (b:UInt64) | ref (a:Addr) | ty (n:String)
 deriving DecidableEq
def RelV:V→Value→Prop
 | .non,u=>u=Value.none
 | .bl b,u=>u=Value.bool b
 | .int i,u=>∃ t,u=Value.int i t
 | .str x,u=>∃ t,u=Value.str x t
 | .byt b,u=>∃ t,u=Value.bytes b t
 | .flt b,u=>∃ t,u=Value.float b t
 | .ref a,u=>u=Value.ref a
 | .ty n,u=>u=Value.type n
abbrev Vals:List V→List Value→Prop:=Paired RelV
theorem Vals.length{xs:List V}{us:List Value}(r:Vals xs us):xs.length=us.length:=Paired.length r
theorem Vals.get:∀ {xs:List V} {us:List Value} {i:Nat} {x:V},Vals xs us→xs[i]?=some x→∃ u,us[i]?=some u∧RelV x u
 | _,_,_,_,.nil,e=>by simp at e
 | _,_,0,_,.cons r _,e=>by simp at e;subst e;exact⟨_,rfl,r⟩
 | _,_,i+1,x,.cons _ t,e=>by
   obtain⟨u,h1,h2⟩:=Vals.get (i:=i) (x:=x) t (by simpa using e)
   exact⟨u,by simpa using h1,h2⟩
theorem Vals.set{x:V}{u:Value}(r:RelV x u):∀ {xs:List V} {us:List Value} (i:Nat),Vals xs us→Vals (xs.set i x) (us.set i u)
 | _,_,_,.nil=>.nil
 | _,_,0,.cons _ t=>.cons r t
 | _,_,i+1,.cons q t=>.cons q (Vals.set r i t)
theorem Vals.append:∀ {xs ys:List V} {us ws:List Value},Vals xs us→Vals ys ws→Vals (xs++ys) (us++ws)
 | _,_,_,_,.nil,s=>s
 | _,_,_,_,.cons r t,s=>.cons r (Vals.append t s)
theorem Vals.take:∀ {xs:List V} {us:List Value} (n:Nat),Vals xs us→Vals (xs.take n) (us.take n)
 | _,_,0,_=>.nil
 | _,_,_+1,.nil=>.nil
 | _,_,n+1,.cons r t=>.cons r (Vals.take n t)
theorem Vals.drop:∀ {xs:List V} {us:List Value} (n:Nat),Vals xs us→Vals (xs.drop n) (us.drop n)
 | _,_,0,r=>r
 | _,_,_+1,.nil=>.nil
 | _,_,n+1,.cons _ t=>Vals.drop n t
theorem Vals.none_of:∀ {xs:List V} {us:List Value} {i:Nat},Vals xs us→xs[i]?=none→us[i]?=none:=fun {xs us i} r e=>by
 have h1:=r.length
 have h2:xs.length≤i:=List.getElem?_eq_none_iff.mp e
 exact List.getElem?_eq_none_iff.mpr (by omega)
def RelO:Option V→Option Value→Prop
 | some v,some u=>RelV v u
 | none,none=>True
 | _,_=>False
def KV{κ:Type}:List (κ×V)→List (κ×Value)→Prop:=Paired fun (p:κ×V) (q:κ×Value)=>p.1=q.1∧RelV p.2 q.2
def kV:Key→V
 | .inl i=>.int i
 | .inr x=>.str x
inductive HO where
 | lst (xs:List V)
 | tup (xs:List V)
 | dK (kvs:List (Key×V)) | dT (kvs:List (List Key×V))
 | set (S:Int→Bool) (n:Nat)
 | ins (C dx:Addr) (fs:List (Str×V))
 | own (x:Addr)
 | xd (fs:List (Str×V))
 | met (f x:Addr)
 | rng (lo hi:Int)
 | frz (o:Obj) (u:HO)
 | tbl (ps:Array Value)
 | ext (φ:Heap→Prop)
abbrev Hp:=Addr→Option HO
def upd(H:Hp)(a:Addr)(o:HO):Hp:=fun b=>if b=a then some o else H b
theorem a0f{H:Hp}{a:Addr}{o:HO}:upd H a o a=some o:=by unfold upd;rw[if_pos rfl]
theorem a0n{H:Hp}{a b:Addr}{o:HO}(h:b≠a):upd H a o b=H b:=by unfold upd;rw[if_neg h]
theorem a0p{H:Hp}{a b:Addr}{o:HO}(h:H a=some o)(h':H b=none):a≠b:=by
 intro e;subst e;rw[h] at h';cases h'
section
variable (P:Program) (w:World)
def a1s(H:Hp)(h:Heap)(a:Addr):HO→Prop
 | .lst xs=>xs.length≤sizeLine∧∃ (its:List Value) (n:Nat),Vals xs its∧h.get? a=some { cls:=.type "list",data:=.seq its.toArray n }
 | .tup xs=>xs.length≤sizeLine∧∃ its:List Value,Vals xs its∧IsTup h a its.toArray
 | .dK kvs=>kvs.length≤sizeLine∧(a == sysModules)=false∧∃ vs,KV kvs vs∧h.DictOf (b3t P w) a vs
 | .dT kvs=>kvs.length≤sizeLine∧(a == sysModules)=false∧∃ xs:List (List Key×Addr×Value),
     Paired (fun (p:List Key×V) (q:List Key×Addr×Value)=>p.1=q.1∧H q.2.1=some (.tup (p.1.map kV))∧RelV p.2 q.2.2) kvs xs∧
     ∃ o es ep,h.get? a=some o∧o.ExactDict∧o.data=.dict es ep∧es.toList=xs.map (entryOfKey (tupleKind (b3t P w)))∧(xs.map (·.1)).Nodup
 | .set S n=>h.SetOf (intKind P w) a S n
 | .ins C dx fs=>H dx=some (.own a)∧fs.length≤1000∧dx≠a∧h.get? a=some (PySem.W.instObj C dx)∧
     ∃ mA,h.Ns1 dx mA∧(∀ f,RelO (fs.lookup f) (mA f))∧PySem.Within mA (fs.map (·.1))
 | .own _=>∃ o,h.get? a=some o
 | .xd fs=>∃ mA,h.Ns1 a mA∧∀ f,RelO (fs.lookup f) (mA f)
 | .rng lo hi=>∃ t u v,h.get? a=some { cls:=.type "range",data:=.fields #[.int lo t,.int hi u,.int 1 v] }
 | .frz o u=>h.get? a=some o∧a1s H h a u
 | .tbl ps=>h.get? a=some { cls:=.none,data:=.fields ps }
 | .met f x=>h.get? a=some (PySem.W.methodObj (.ref f) (.ref x))
 | .ext φ=>φ h∧(∃ o,h.get? a=some o)∧∀ h1 h2:Heap,φ h1→(∀ o,h1.get? a=some o→h2.get? a=some o)→φ h2
def HOk(H:Hp)(h:Heap):Prop:=∀ a o,H a=some o→a1s P w H h a o
end
section
variable {P:Program} {w:World} {H H':Hp} {h h':Heap} {a:Addr} {o:HO}
theorem a1s.lt(x:a1s P w H h a o):a<h.objs.size:=by
 cases o with
 | lst xs=>obtain⟨_,_,_,_,e⟩:=x;exact Heap.lt_size e
 | tup xs=>obtain⟨_,_,_,p⟩:=x;exact p.lt
 | dK kvs=>obtain⟨_,_,_,_,o,_,_,e,_⟩:=x;exact Heap.lt_size e
 | dT kvs=>obtain⟨_,_,_,_,o,_,_,e,_⟩:=x;exact Heap.lt_size e
 | set S n=>obtain⟨o,_,_,_,e,_⟩:=x;exact Heap.lt_size e
 | ins C dx fs=>obtain⟨_,_,_,e,_⟩:=x;exact Heap.lt_size e
 | own y=>obtain⟨_,e⟩:=x;exact Heap.lt_size e
 | xd fs=>obtain⟨_,⟨_,_,_,e,_⟩,_⟩:=x;exact Heap.lt_size e
 | rng lo hi=>obtain⟨_,_,_,e⟩:=x;exact Heap.lt_size e
 | frz ob u=>obtain⟨e,_⟩:=x;exact Heap.lt_size e
 | tbl ps=>exact Heap.lt_size (show h.get? a=some _ from x)
 | met f y=>exact Heap.lt_size (show h.get? a=some _ from x)
 | ext φ=>obtain⟨_,⟨_,e⟩,_⟩:=x;exact Heap.lt_size e
theorem Paired.mapP{α β:Type}{F G:α→β→Prop}:∀ {l₁:List α} {l₂:List β},Paired F l₁ l₂→(∀ a b,F a b→G a b)→Paired G l₁ l₂
 | _,_,.nil,_=>.nil
 | _,_,.cons r t,f=>.cons (f _ _ r) (Paired.mapP t f)
theorem a1s.stay(x:a1s P w H h a o)(k:∀ b u,(b=a∨H b=some (.own a))→h.get? b=some u→h'.get? b=some u)(ho:∀ b,H b=some (.own a)→H' b=some (.own a))(ht:∀ b xs,H b=some (.tup xs)→H' b=some (.tup xs)):a1s P w H' h' a o:=by
 induction o with
 | lst xs=>obtain⟨z,its,n,r,e⟩:=x;exact⟨z,its,n,r,k _ _ (.inl rfl) e⟩
 | tup xs=>obtain⟨z,its,r,ob,e,c⟩:=x;exact⟨z,its,r,ob,k _ _ (.inl rfl) e,c⟩
 | dK kvs=>obtain⟨z,y,vs,r,ob,es,ep,e,c⟩:=x;exact⟨z,y,vs,r,ob,es,ep,k _ _ (.inl rfl) e,c⟩
 | dT kvs=>
   obtain⟨z,y,xs,r,ob,es,ep,e,c⟩:=x
   exact⟨z,y,xs,Paired.mapP r fun p q z=>⟨z.1,ht _ _ z.2.1,z.2.2⟩,ob,es,ep,k _ _ (.inl rfl) e,c⟩
 | set S n=>obtain⟨ob,es,ep,t,e,c⟩:=x;exact⟨ob,es,ep,t,k _ _ (.inl rfl) e,c⟩
 | ins C dx fs=>
   obtain⟨d,z,ne,e,mA,⟨od,es,ep,e2,c⟩,r⟩:=x
   exact⟨ho _ d,z,ne,k _ _ (.inl rfl) e,mA,⟨od,es,ep,k _ _ (.inr d) e2,c⟩,r⟩
 | own y=>obtain⟨ob,e⟩:=x;exact⟨ob,k _ _ (.inl rfl) e⟩
 | xd fs=>obtain⟨mA,⟨od,es,ep,e,c⟩,r⟩:=x;exact⟨mA,⟨od,es,ep,k _ _ (.inl rfl) e,c⟩,r⟩
 | rng lo hi=>obtain⟨t,u,v,e⟩:=x;exact⟨t,u,v,k _ _ (.inl rfl) e⟩
 | frz ob u ih=>obtain⟨e,q⟩:=x;exact⟨k _ _ (.inl rfl) e,ih q⟩
 | tbl ps=>
   have e:h.get? a=some { cls:=.none,data:=.fields ps }:=x
   show h'.get? a=some { cls:=.none,data:=.fields ps }
   exact k a _ (.inl rfl) e
 | met f y=>
   have e:h.get? a=some (PySem.W.methodObj (.ref f) (.ref y)):=x
   show h'.get? a=some (PySem.W.methodObj (.ref f) (.ref y))
   exact k a _ (.inl rfl) e
 | ext φ=>obtain⟨p,⟨o,e⟩,st⟩:=x;exact⟨st _ _ p fun o q=>k _ _ (.inl rfl) q,⟨o,k _ _ (.inl rfl) e⟩,st⟩
theorem HOk.lt(x:HOk P w H h)(e:H a=some o):a<h.objs.size:=(x a o e).lt
theorem HOk.fresh(x:HOk P w H h)(e:h.objs.size≤a):H a=none:=by
 cases q:H a with
 | none=>rfl
 | some u=>exact absurd (b5v (x.lt q) e) (b7a _)
theorem HOk.kept(x:HOk P w H h)(k:∀ b u,h.get? b=some u→h'.get? b=some u):HOk P w H h':=fun a o e=>
 (x a o e).stay (fun b u _ q=>k b u q) (fun _ q=>q) fun _ _ q=>q
theorem HOk.laid(x:HOk P w H h)(k:∀ b u,h.get? b=some u→h'.get? b=some u)(hp:h.objs.size≤a)(new:a1s P w (upd H a o) h' a o):HOk P w (upd H a o) h':=fun b u e=>by
 have hn:=x.fresh hp
 by_cases hb:b=a
 · subst hb;rw[a0f] at e;cases e;exact new
 · rw[a0n hb] at e
   exact (x b u e).stay (fun c v _ q=>k c v q) (fun c q=>by rw[a0n (a0p q hn)];exact q) fun c xs q=>by rw[a0n (a0p q hn)];exact q
end
def Rd(H:Hp)(a:Addr)(u:HO):Prop:=H a=some u∨∃ o,H a=some (.frz o u)
theorem Rd.ok{P:Program}{w:World}{H:Hp}{h:Heap}{a:Addr}{u:HO}(r:Rd H a u)(x:HOk P w H h):a1s P w H h a u:=by
 rcases r with r | ⟨o,r⟩
 · exact x a u r
 · obtain⟨_,q⟩:=x a _ r
   exact q
def Mut:Option HO→Prop
 | some (.lst _)=>True
 | some (.dK _)=>True
 | some (.dT _)=>True
 | some (.set _ _)=>True
 | some (.ins _ _ _)=>True
 | some (.ext _)=>True
 | _=>False
section
variable {P:Program} {w:World} {H:Hp} {h h':Heap} {x e:Addr} {o':HO}
theorem HOk.write(ok:HOk P w H h)(mu:Mut (H x))(he:e=x∨H e=some (.own x))(k:∀ b u,b≠e→h.get? b=some u→h'.get? b=some u)(heo:∃ u,h'.get? e=some u)(new:a1s P w (upd H x o') h' x o'):HOk P w (upd H x o') h':=fun b u q=>by
 have nown:∀ c y,H c=some (.own y)→c≠x:=fun c y r z=>by subst z;rw[r] at mu;exact mu
 have ntup:∀ c xs,H c=some (.tup xs)→c≠x:=fun c xs r z=>by subst z;rw[r] at mu;exact mu
 by_cases hb:b=x
 · subst hb;rw[a0f] at q;cases q;exact new
 · rw[a0n hb] at q
   by_cases hbe:b=e
   · have q':H b=some (.own x):=by
       rcases he with z | z
       · exact absurd (hbe.trans z) hb
       · rw[hbe];exact z
     rw[q] at q';cases q'
     obtain⟨v,hv⟩:=heo
     exact⟨v,by rw[hbe];exact hv⟩
   · refine (ok b u q).stay (fun c v hc r=>k c v ?_ r) (fun c r=>by rw[a0n (nown c b r)];exact r) fun c xs r=>by rw[a0n (ntup c xs r)];exact r
     rcases hc with rfl | hc
     · exact hbe
     · rintro rfl
       rcases he with z | z
       · exact nown c b hc z
       · rw[hc] at z;cases z;exact hb rfl
end
structure Un(fs ex:List Addr)(H H':Hp)(h h':Heap):Prop where
 keep:∀ b o,h.get? b=some o→H b=none→b∉fs→b∉ex→h'.get? b=some o
 slot:∀ b o,h.get? b=some o→H b=none→b∈fs→b∉ex→∃ sl,h'.get? b=some { o with slots:=sl }
 free:∀ b o,h.get? b=some o→H b=none→b∉ex→H' b=none
 there:∀ b o,h.get? b=some o→b∉ex→∃ o',h'.get? b=some o'
 tups:∀ b xs,H b=some (.tup xs)→H' b=some (.tup xs)
 frzs:∀ b o u,H b=some (.frz o u)→H' b=some (.frz o u)
 tbls:∀ b ps,H b=some (.tbl ps)→∃ more,H' b=some (.tbl (ps++more))
section
variable {fs fs' ex ex':List Addr} {H H1 H2:Hp} {h h1 h2 h':Heap} {a x e:Addr} {o:HO}
theorem Un.any(u:Un fs ex H H1 h h1){b:Addr}{ob:Obj}(q:h.get? b=some ob)(n:H b=none)(hx:b∉ex):∃ sl,h1.get? b=some { ob with slots:=sl }:=by
 by_cases hb:b∈fs
 · exact u.slot b ob q n hb hx
 · exact⟨ob.slots,u.keep b ob q n hb hx⟩
theorem Un.kept(k:∀ b u,h.get? b=some u→h'.get? b=some u):Un fs ex H H h h':=
 ⟨fun b ob q _ _ _=>k b ob q,fun b ob q _ _ _=>⟨ob.slots,k b ob q⟩,fun _ _ _ n _=>n,fun b ob q _=>⟨ob,k b ob q⟩,fun _ _ q=>q,fun _ _ _ q=>q,fun _ ps q=>⟨#[],by rw[q];simp⟩⟩
theorem Un.refl:Un fs ex H H h h:=Un.kept fun _ _ q=>q
theorem Un.laid(k:∀ b u,h.get? b=some u→h'.get? b=some u)(hp:h.objs.size≤a)(hn:H a=none):Un fs ex H (upd H a o) h h' where
 keep:=fun b u q _ _ _=>k b u q
 slot:=fun b u q _ _ _=>⟨u.slots,k b u q⟩
 free:=fun b u q n _=>by rw[a0n (b5k (b5v (Heap.lt_size q) hp))];exact n
 there:=fun b u q _=>⟨u,k b u q⟩
 tups:=fun b xs q=>by rw[a0n (a0p q hn)];exact q
 frzs:=fun b u xs q=>by rw[a0n (a0p q hn)];exact q
 tbls:=fun b ps q=>⟨#[],by rw[a0n (a0p q hn),q];simp⟩
theorem Un.write(mu:Mut (H x))(he:e=x∨H e=some (.own x))(k:∀ b u,b≠e→h.get? b=some u→h'.get? b=some u)(heo:∃ u,h'.get? e=some u):Un fs ex H (upd H x o) h h':=by
 have hx:∀ b,H b=none→b≠x:=fun b n z=>by subst z;rw[n] at mu;exact mu
 have hb:∀ b,H b=none→b≠e:=fun b n z=>by
   subst z
   rcases he with r | r
   · exact hx b n r
   · rw[n] at r;cases r
 have hm:∀ b u,H b=some u→¬ Mut (some u)→b≠x:=fun b u q nm z=>by subst z;rw[q] at mu;exact nm mu
 refine⟨fun b u q n _ _=>k b u (hb b n) q,fun b u q n _ _=>⟨u.slots,k b u (hb b n) q⟩,fun b u q n _=>by rw[a0n (hx b n)];exact n,fun b u q _=>?_,
   fun b xs q=>by rw[a0n (hm b _ q fun z=>z)];exact q,fun b u xs q=>by rw[a0n (hm b _ q fun z=>z)];exact q,fun b ps q=>⟨#[],by rw[a0n (hm b _ q fun z=>z),q];simp⟩⟩
 by_cases hbe:b=e
 · subst hbe;exact heo
 · exact⟨u,k b u hbe q⟩
end
def trk(h:Heap)(H:Hp):List Addr:=(b7l h.objs.size).filter fun a=>(H a).isSome
def hidT(h:Heap)(H:Hp):Heap:=PySem.W.hideAll h (trk h H)
theorem b4e(h:Heap)(H:Hp):(hidT h H).objs.size=h.objs.size:=PySem.W.hideAll_size _ _
theorem hidT_get{h:Heap}{H:Hp}{b:Addr}{o:Obj}(e:h.get? b=some o)(n:H b=none):(hidT h H).get? b=some o:=
 PySem.W.hideAll_get _ e fun hm=>by
   have q:(H b).isSome=true:=(List.mem_filter.mp hm).2
   rw[n] at q;simp at q
theorem of_hidT{h:Heap}{H:Hp}{b:Addr}{o:Obj}(e:(hidT h H).get? b=some o):h.get? b=some o∧H b=none:=by
 have e':h.get? b=some o:=PySem.W.of_hideAll (trk h H) e
 refine⟨e',?_⟩
 cases q:H b with
 | none=>rfl
 | some x=>
   have hm:b∈trk h H:=List.mem_filter.mpr ⟨List.mem_range.mpr (Heap.lt_size e'),by simp[q]⟩
   have z:(hidT h H).get? b=none:=PySem.W.hideAll_none (trk h H) hm
   rw[z] at e;cases e
end L2
namespace L2
open PySem PySem.Spec PyProof.Rows
structure Mod(K:b5h)(mg:Str→Option Value)(base:Heap):Prop where
 kin:K.In base
 glob:base.Ns mainGlobals mg
 blt:∃ mb,base.Ns builtinsNs mb∧∀ x:Str,x ≠ "__name__" → mb x=bootBuiltins x
 nolimit:base.NoLimit
structure Cx where
 prog:Program
 w:World
 K:b5h
 mg:Str→Option Value
 base:Heap
 A:Around
 N:List Str
 s₀:Shared
 H₀:Hp
 env:Env
 outer:List Env
 stack:List Env
 ex:List Addr
 fn:Str→Bool
 calm:Bool
 pn:List (Addr×Obj)
 xe:Value→Shared→Prop
def frs(l:List Env):List Addr:=l.filterMap (·.frame)
abbrev Cx.fs(X:Cx):List Addr:=frs X.outer
def Vis(sc:Scope)(x:Str):Prop:=sc.names.lookup x=some .local∨sc.names.lookup x=some .cell∨sc.names.lookup x=some .free
def Loc(sc:Scope)(x:Str):Prop:=sc.names.lookup x=some .local∨sc.names.lookup x=some .cell
def Look(env:Env)(h:Heap)(m:Str→Option Value)(x:Str)(u:Value):Prop:=
 (env.kindOf x=some .local∧m x=some u)∨((env.kindOf x=some .cell∨env.kindOf x=some .free)∧∃ c,env.cells.lookup x=some c∧h.IsCell c (some u))
structure Cx.Ok(X:Cx):Prop where
 mod:Mod X.K X.mg X.base
 kind:X.env.scope.kind=.function
 glob:X.env.globals=mainGlobals
 blt:X.env.builtins=builtinsNs
 above:X.s₀.heap.objs.size≤X.env.locals
 inj:∀ x y c,X.env.cells.lookup x=some c→X.env.cells.lookup y=some c→x=y
 has:∀ x,(X.env.kindOf x=some .cell∨X.env.kindOf x=some .free)→∃ c,X.env.cells.lookup x=some c
 cab:∀ x c,X.fn x=true→X.env.cells.lookup x=some c→X.s₀.heap.objs.size≤c
 hd:X.calm=true→X.A.handled=none
 frames:X.A.frames=some X.stack
 stk:X.stack=X.outer∨(X.stack=X.env::X.outer∧X.env.frame=some X.env.locals)
 exf:∀ b∈X.ex,b≠X.env.locals∧∀ x c,X.env.cells.lookup x=some c→c≠b
 bs:∀ b o,X.base.get? b=some o→X.s₀.heap.get? b=some o∧X.H₀ b=none
 bsz:X.base.objs.size≤X.s₀.heap.objs.size
 noex:∀ b o,X.base.get? b=some o→b∉X.ex
 exfs:∀ b∈X.ex,b∉X.fs
 funs:X.s₀.heap.FunFrames X.base X.outer
 frf:∀ b∈X.fs,X.H₀ b=none
structure Inv(X:Cx)(pins:List (Addr×Obj))(σ:List (Option V))(H:Hp)(s:Shared):Prop where
 ok:X.Ok
 os:s.os=X.s₀.os
 bare:AllBare s.gens
 base:Un X.fs X.ex X.H₀ H X.s₀.heap s.heap
 loc:∃ m,s.heap.Ns X.env.locals m∧∀ (i:Nat) (x:Str) (v:V),X.N[i]?=some x→σ[i]?=some (some v)→Vis X.env.scope x→∃ u,RelV v u∧Look X.env s.heap m x u
 cell:∀ x c,X.env.cells.lookup x=some c→∃ v,s.heap.IsCell c v
 free:H X.env.locals=none
 freeC:∀ x c,X.env.cells.lookup x=some c→H c=none
 pin:∀ p∈X.pn++pins,s.heap.get? p.1=some p.2∧H p.1=none∧p.1≠X.env.locals∧p.1∉X.fs∧∀ v,p.2.data≠.cell v
 hok:HOk X.prog X.w H s.heap
 len:σ.length=X.N.length
section
variable {X:Cx} {pins:List (Addr×Obj)} {σ:List (Option V)} {H H':Hp} {s:Shared} {h':Heap}
theorem Cx.Ok.nofr(ok:X.Ok){b:Addr}{o:Obj}(e:X.base.get? b=some o):b∉X.fs:=fun hb=>by
 have:=(ok.funs.mem hb).1
 rw[e] at this;cases this
theorem Inv.bs(I:Inv X pins σ H s):∀ b o,X.base.get? b=some o→s.heap.get? b=some o∧H b=none:=fun b o e=>
 ⟨I.base.keep b o (I.ok.bs b o e).1 (I.ok.bs b o e).2 (I.ok.nofr e) (I.ok.noex b o e),I.base.free b o (I.ok.bs b o e).1 (I.ok.bs b o e).2 (I.ok.noex b o e)⟩
theorem Inv.bk(I:Inv X pins σ H s):∀ b o,X.base.get? b=some o→s.heap.get? b=some o:=fun b o e=>(I.bs b o e).1
theorem Inv.mod(I:Inv X pins σ H s):Mod X.K X.mg X.base:=I.ok.mod
theorem Inv.kIn(I:Inv X pins σ H s):X.K.In s.heap:=I.ok.mod.kin.keeps I.bk
theorem Inv.lt(I:Inv X pins σ H s):X.env.locals<s.heap.objs.size:=let ⟨_,hn,_⟩:=I.loc;hn.lt
theorem Inv.sz(I:Inv X pins σ H s):X.s₀.heap.objs.size≤s.heap.objs.size:=b7j I.ok.above (b6u I.lt)
theorem Inv.nofs(I:Inv X pins σ H s){a:Addr}(h:s.heap.objs.size≤a):a∉X.fs:=fun hb=>by
 obtain⟨_,o,ho,_⟩:=I.ok.funs.mem hb
 exact absurd (b5v (Heap.lt_size ho) (b7j I.sz h)) (b7a _)
theorem Inv.cne(I:Inv X pins σ H s):∀ x c,X.env.cells.lookup x=some c→c≠X.env.locals:=fun x c e z=>by
 obtain⟨v,o,ho,hd⟩:=I.cell x c e
 obtain⟨m,⟨o',es,ep,ho',hd',_⟩,_⟩:=I.loc
 rw[z,ho'] at ho;cases ho;rw[hd'] at hd;cases hd
theorem Inv.funs(I:Inv X pins σ H s):s.heap.FunFrames X.base X.outer:=by
 have all:∀ (l:List Env),(∀ b∈frs l,b∈X.fs)→X.s₀.heap.FunFrames X.base l→s.heap.FunFrames X.base l:=by
   intro l
   induction l with
   | nil=>intro _ _;trivial
   | cons env r ih=>
     intro hs hl
     obtain⟨hk,⟨L,o,hf,hn,ho,hd⟩,hr⟩:=hl
     have hL:L∈X.fs:=hs L (by unfold frs;rw[b7x,hf];exact List.mem_cons_self)
     obtain⟨sl,e⟩:=I.base.slot L o ho (I.ok.frf L hL) hL fun z=>I.ok.exfs L z hL
     exact⟨hk,⟨L,_,hf,hn,e,hd⟩,ih (fun b hb=>hs b (by unfold frs;rw[b7x,hf];exact b6j _ hb)) hr⟩
 exact all X.outer (fun _ hb=>hb) I.ok.funs
theorem Inv.stack(I:Inv X pins σ H s):s.heap.FunFrames X.base X.stack:=by
 rcases I.ok.stk with e | ⟨e,hf⟩
 · rw[e];exact I.funs
 · rw[e]
   obtain⟨m,hn,_⟩:=I.loc
   refine .cons (by rw[I.ok.kind];decide) hf hn ?_ I.funs
   exact Heap.get?_none_of_le (b7j I.ok.bsz I.ok.above)
theorem Inv.stkSub(I:Inv X pins σ H s):∀ b∈frs X.stack,b∈X.env.locals::X.fs:=fun b hb=>by
 rcases I.ok.stk with e | ⟨e,hf⟩
 · rw[e] at hb;exact b6j _ hb
 · rw[e] at hb
   unfold frs at hb
   rw[b7x,hf] at hb
   exact hb
theorem Inv.stkFree(I:Inv X pins σ H s):∀ b∈frs X.stack,H b=none:=fun b hb=>by
 rcases b6a.mp (I.stkSub b hb) with e | hb
 · rw[e];exact I.free
 · obtain⟨_,o,ho,_⟩:=I.ok.funs.mem hb
   exact I.base.free b o ho (I.ok.frf b hb) fun z=>I.ok.exfs b z hb
theorem Inv.step{g':Array GenState}{t':Nat}{d':Drawn}{ch:List Addr}(I:Inv X pins σ H s)(hch:∀ b∈ch,(b∈X.ex∨X.s₀.heap.objs.size≤b)∧b≠X.env.locals∧(∀ x c,X.env.cells.lookup x=some c→c≠b)∧∀ p∈X.pn++pins,p.1≠b)(keep:∀ b o,b≠X.env.locals→b∉X.fs→b∉ch→s.heap.get? b=some o→H b=none→h'.get? b=some o)(slot:∀ b o,b≠X.env.locals→b∈X.fs→b∉ch→s.heap.get? b=some o→H b=none→∃ sl,h'.get? b=some { o with slots:=sl })(free:∀ b o,b∉ch→s.heap.get? b=some o→H b=none→H' b=none)(there:∀ b o,b∉ch→s.heap.get? b=some o→∃ o',h'.get? b=some o')(tups:∀ b xs,H b=some (.tup xs)→H' b=some (.tup xs))(frzs:∀ b o u,H b=some (.frz o u)→H' b=some (.frz o u))(tbls:∀ b ps,H b=some (.tbl ps)→∃ more,H' b=some (.tbl (ps++more)))(ns:∀ m,s.heap.Ns X.env.locals m→h'.Ns X.env.locals m)(hok:HOk X.prog X.w H' h')(hg:AllBare g') :
   Inv X pins σ H' { s with heap:=h',gens:=g',drawn:=d',toks:=t' }:=by
 have neL:∀ b o,X.s₀.heap.get? b=some o→b≠X.env.locals:=fun b o e=>b5k (b5v (Heap.lt_size e) I.ok.above)
 have neC:∀ b o,X.s₀.heap.get? b=some o→b∉X.ex→b∉ch:=fun b o e hx hb=>by
   rcases (hch b hb).1 with z | z
   · exact hx z
   · exact absurd (b5v (Heap.lt_size e) z) (b7a _)
 have cellK:∀ x c,X.env.cells.lookup x=some c→∀ v,s.heap.IsCell c v→h'.IsCell c v:=fun x c e v ⟨o,ho,hd⟩=>by
   have nch:c∉ch:=fun z=>(hch c z).2.2.1 x c e rfl
   by_cases hc:c∈X.fs
   · obtain⟨sl,q⟩:=slot c o (I.cne x c e) hc nch ho (I.freeC x c e)
     exact⟨_,q,hd⟩
   · exact⟨o,keep c o (I.cne x c e) hc nch ho (I.freeC x c e),hd⟩
 refine⟨I.ok,I.os,hg,⟨fun b o e n hb hx=>?_,fun b o e n hb hx=>?_,fun b o e n hx=>?_,fun b o e hx=>?_,fun b xs e=>tups b xs (I.base.tups b xs e),fun b o xs e=>frzs b o xs (I.base.frzs b o xs e),fun b ps e=>?_⟩,?_,fun x c e=>?_,?_,fun x c e=>?_,fun p hp=>?_,hok,I.len⟩
 · exact keep b o (neL b o e) hb (neC b o e hx) (I.base.keep b o e n hb hx) (I.base.free b o e n hx)
 · obtain⟨sl,e1⟩:=I.base.slot b o e n hb hx
   obtain⟨sl',e2⟩:=slot b _ (neL b o e) hb (neC b o e hx) e1 (I.base.free b o e n hx)
   exact⟨sl',e2⟩
 · obtain⟨o',e1⟩:=I.base.there b o e hx
   exact free b o' (neC b o e hx) e1 (I.base.free b o e n hx)
 · obtain⟨o',e1⟩:=I.base.there b o e hx
   exact there b o' (neC b o e hx) e1
 · obtain⟨m1,e1⟩:=I.base.tbls b ps e
   obtain⟨m2,e2⟩:=tbls b _ e1
   exact⟨m1++m2,by rw[e2,Array.append_assoc]⟩
 · obtain⟨m,hn,hl⟩:=I.loc
   refine⟨m,ns m hn,fun i x v e1 e2 e3=>?_⟩
   obtain⟨u,r,l⟩:=hl i x v e1 e2 e3
   refine⟨u,r,?_⟩
   rcases l with l | ⟨k,c,e,z⟩
   · exact .inl l
   · exact .inr ⟨k,c,e,cellK x c e _ z⟩
 · obtain⟨v,z⟩:=I.cell x c e
   exact⟨v,cellK x c e v z⟩
 · obtain⟨m,⟨o,_,_,ho,_⟩,_⟩:=I.loc
   exact free _ o (fun z=>(hch _ z).2.1 rfl) ho I.free
 · obtain⟨v,o,ho,hd⟩:=I.cell x c e
   exact free c o (fun z=>(hch c z).2.2.1 x c e rfl) ho (I.freeC x c e)
 · obtain⟨e,n,ne,nf,d⟩:=I.pin p hp
   have nch:p.1∉ch:=fun z=>(hch p.1 z).2.2.2 p hp rfl
   exact⟨keep p.1 p.2 ne nf nch e n,free p.1 p.2 nch e n,ne,nf,d⟩
theorem Inv.un{t':Nat}(I:Inv X pins σ H s)(u:Un X.fs [] H H' s.heap h')(hok:HOk X.prog X.w H' h'):Inv X pins σ H' { s with heap:=h',toks:=t' }:=by
 obtain⟨m,⟨o,es,ep,ho,r⟩,_⟩:=id I.loc
 obtain⟨sl,hL⟩:=u.any ho I.free (by simp)
 exact I.step (g':=s.gens) (d':=s.drawn) (ch:=[]) (fun _ z=>nomatch z) (fun b o _ hb _ e n=>u.keep b o e n hb (by simp)) (fun b o _ hb _ e n=>u.slot b o e n hb (by simp)) (fun b o _ e n=>u.free b o e n (by simp)) (fun b o _ e=>u.there b o e (by simp)) u.tups u.frzs u.tbls (fun m' hm=>by
   obtain⟨o',es',ep',ho',r'⟩:=hm
   rw[ho] at ho';cases ho'
   exact⟨_,es',ep',hL,r'⟩) hok I.bare
theorem Inv.call{g':Array GenState}{t':Nat}{d':Drawn}{ch:List Addr}(I:Inv X pins σ H s)(u:Un (frs X.stack) ch H H' s.heap h')(hok:HOk X.prog X.w H' h')(hg:AllBare g')(hch:∀ b∈ch,(b∈X.ex∨X.s₀.heap.objs.size≤b)∧b≠X.env.locals∧(∀ x c,X.env.cells.lookup x=some c→c≠b)∧∀ p∈X.pn++pins,p.1≠b) :
   Inv X pins σ H' { s with heap:=h',gens:=g',drawn:=d',toks:=t' }:=by
 obtain⟨m,⟨o,es,ep,ho,r⟩,_⟩:=id I.loc
 obtain⟨sl,hL⟩:=u.any ho I.free fun z=>(hch _ z).2.1 rfl
 exact I.step (ch:=ch) hch (fun b o hL hb hc e n=>u.keep b o e n (fun z=>(b6a.mp (I.stkSub b z)).elim hL hb) hc) (fun b o _ _ hc e n=>u.any e n hc) (fun b o hc e n=>u.free b o e n hc) (fun b o hc e=>u.there b o e hc) u.tups u.frzs u.tbls (fun m' hm=>by
   obtain⟨o',es',ep',ho',r'⟩:=hm
   rw[ho] at ho';cases ho'
   exact⟨_,es',ep',hL,r'⟩) hok hg
theorem Inv.turned{t':Nat}{it:Addr}(I:Inv X pins σ H s)(k:∀ b o,b≠it→s.heap.get? b=some o→h'.get? b=some o)(hn:H it=none)(hL:it≠X.env.locals)(h1:it∈X.ex∨X.s₀.heap.objs.size≤it)(h2:∀ x c,X.env.cells.lookup x=some c→c≠it)(h3:∀ p∈X.pn++pins,p.1≠it):Inv X pins σ H { s with heap:=h',toks:=t' }:=by
 have nit:∀ b u,H b=some u→b≠it:=fun b u e z=>by rw[z,hn] at e;cases e
 refine I.step (g':=s.gens) (d':=s.drawn) (ch:=[it]) (fun b hb=>?_) (fun b o _ _ hc e _=>k b o (fun z=>hc (by simp[z])) e) (fun b o _ _ hc e _=>⟨o.slots,k b o (fun z=>hc (by simp[z])) e⟩) (fun _ _ _ _ n=>n)
   (fun b o hc e=>⟨o,k b o (fun z=>hc (by simp[z])) e⟩) (fun _ _ e=>e) (fun _ _ _ e=>e) (fun b ps e=>⟨#[],by rw[e];simp⟩) (fun m hm=>?_) (fun b u e=>?_) I.bare
 · have e:b=it:=by simpa using hb
   subst e
   exact⟨h1,hL,h2,h3⟩
 · obtain⟨o,es,ep,ho,r⟩:=hm
   exact⟨o,es,ep,k _ o (Ne.symm hL) ho,r⟩
 · refine (I.hok b u e).stay (fun c v hc q=>k c v ?_ q) (fun _ q=>q) fun _ _ q=>q
   rcases hc with z | z
   · rw[z];exact nit b u e
   · exact nit c _ z
theorem Inv.tok(I:Inv X pins σ H s)(t:Nat):Inv X pins σ H { s with toks:=t }:=I.un (h':=s.heap) (t':=t) Un.refl I.hok
theorem Inv.kept{t':Nat}(I:Inv X pins σ H s)(k:∀ b u,s.heap.get? b=some u→h'.get? b=some u):Inv X pins σ H { s with heap:=h',toks:=t' }:=I.un (Un.kept k) (I.hok.kept k)
theorem Inv.laid{a:Addr}{o:HO}{t':Nat}(I:Inv X pins σ H s)(k:∀ b u,s.heap.get? b=some u→h'.get? b=some u)(hp:s.heap.objs.size≤a)(new:a1s X.prog X.w (upd H a o) h' a o) :
 Inv X pins σ (upd H a o) { s with heap:=h',toks:=t' }:=I.un (Un.laid k hp (I.hok.fresh hp)) (I.hok.laid k hp new)
theorem Inv.write{x e:Addr}{o:HO}{t':Nat}(I:Inv X pins σ H s)(mu:Mut (H x))(he:e=x∨H e=some (.own x))(k:∀ b u,b≠e→s.heap.get? b=some u→h'.get? b=some u)(heo:∃ u,h'.get? e=some u)(new:a1s X.prog X.w (upd H x o) h' x o):Inv X pins σ (upd H x o) { s with heap:=h',toks:=t' }:=I.un (Un.write mu he k heo) (I.hok.write mu he k heo new)
theorem Inv.pins_of{pins':List (Addr×Obj)}(I:Inv X pins σ H s)(h:∀ p∈pins',s.heap.get? p.1=some p.2∧H p.1=none∧p.1≠X.env.locals∧p.1∉X.fs∧∀ v,p.2.data≠.cell v):Inv X pins' σ H s:=
 ⟨I.ok,I.os,I.bare,I.base,I.loc,I.cell,I.free,I.freeC,fun p hp=>(b6n.mp hp).elim (fun z=>I.pin p (List.mem_append_left _ z)) (h p),I.hok,I.len⟩
theorem b0u{N:List Str}(hN:N.Nodup){i j:Nat}{x:Str}(a:N[i]?=some x)(b:N[j]?=some x):i=j:=by
 obtain⟨h1,e1⟩:=b5t.mp a
 obtain⟨h2,e2⟩:=b5t.mp b
 exact (List.getElem_inj hN).mp (e1.trans e2.symm)
theorem b2m{M:Model}{A:Around}{E:Value→Shared→Prop}{i:Nat}{x:Str}{v:V}{u:Value}{Q:Unit→Shared→Prop}(I:Inv X pins σ H s)(hN:X.N.Nodup)(hi:X.N[i]?=some x)(hx:Loc X.env.scope x)(r:RelV v u)(h:∀ s',Inv X pins (σ.set i (some v)) H s'→(∃ a,Heap.SameBut a s.heap s'.heap∧(a=X.env.locals∨X.env.cells.lookup x=some a))→Q () s')(hf:X.fn x=true∨X.env.scope.names.lookup x=some .local:=by first | exact .inl rfl | exact .inr rfl | assumption):wpAny M A (storeName X.env x u) Q E s:=by
 obtain⟨m,hn,hl⟩:=id I.loc
 have hcls:(X.env.scope.kind == .class || (X.env.scope.kind == .module && X.env.locals != X.env.globals))=false:=by rw[I.ok.kind];rfl
 have hiσ:i<σ.length:=by rw[I.len];exact (b5t.mp hi).1
 have cne:=I.cne
 have tracked:∀ {a:Addr} {h':Heap},(∃ o,s.heap.get? a=some o∧H a=none)→Heap.SameBut a s.heap h'→HOk X.prog X.w H h':=fun {a h'} ha hs b ob e=>by
   obtain⟨_,_,hfree⟩:=ha
   refine (I.hok b ob e).stay (fun c w' hc q=>(hs.2 c ?_).trans q) (fun _ q=>q) fun _ _ q=>q
   rintro rfl
   rcases hc with rfl | hc
   · rw[hfree] at e;cases e
   · rw[hfree] at hc;cases hc
 rcases hx with hk | hk
 · refine wpAny_storeName_local hk hn (fun h' hn' hs=>?_) hcls
   obtain⟨oL,_,_,hoL,_⟩:=id hn
   refine h _ ⟨I.ok,I.os,I.bare,⟨fun b o e n hb hx=>?_,fun b o e n hb hx=>?_,I.base.free,fun b o e hx=>?_,I.base.tups,I.base.frzs,I.base.tbls⟩,⟨_,hn',fun j y v' e1 e2 e3=>?_⟩,fun y c e=>?_,I.free,I.freeC,fun p hp=>?_,tracked ⟨oL,hoL,I.free⟩ hs,by simpa using I.len⟩ ⟨_,hs,.inl rfl⟩
   · exact (hs.2 b (b5k (b5v (Heap.lt_size e) I.ok.above))).trans (I.base.keep b o e n hb hx)
   · obtain⟨sl,e1⟩:=I.base.slot b o e n hb hx
     exact⟨sl,(hs.2 b (b5k (b5v (Heap.lt_size e) I.ok.above))).trans e1⟩
   · obtain⟨o',e1⟩:=I.base.there b o e hx
     exact⟨o',(hs.2 b (b5k (b5v (Heap.lt_size e) I.ok.above))).trans e1⟩
   · by_cases hj:j=i
     · subst hj
       rw[hi] at e1;cases e1
       rw[List.getElem?_set_self hiσ] at e2
       cases e2
       exact⟨u,r,.inl ⟨hk,by simp⟩⟩
     · rw[List.getElem?_set_ne (Ne.symm hj)] at e2
       obtain⟨u',r',q⟩:=hl j y v' e1 e2 e3
       refine⟨u',r',?_⟩
       rcases q with⟨k,e⟩ | ⟨k,c,e,z⟩
       · refine .inl ⟨k,?_⟩
         have:y≠x:=fun e=>hj (b0u hN e1 (e ▸ hi))
         simp[this,e]
       · exact .inr ⟨k,c,e,z.sameBut hs (cne y c e)⟩
   · obtain⟨w',z⟩:=I.cell y c e
     exact⟨w',z.sameBut hs (cne y c e)⟩
   · obtain⟨e,n,ne,nf,d⟩:=I.pin p hp
     exact⟨(hs.2 p.1 ne).trans e,n,ne,nf,d⟩
 · have hfn:X.fn x=true:=by
     rcases hf with z | z
     · exact z
     · rw[z] at hk;cases hk
   obtain⟨c,hc⟩:=I.ok.has x (.inl hk)
   obtain⟨w',z⟩:=I.cell x c hc
   refine wpAny_storeName_cell I.ok.kind hk hc z (fun h' hc' hs=>?_)
   obtain⟨oc,hoc,hocd⟩:=id z
   refine h { s with heap:=h' } ⟨I.ok,I.os,I.bare,⟨fun b o e n hb hx=>?_,fun b o e n hb hx=>?_,I.base.free,fun b o e hx=>?_,I.base.tups,I.base.frzs,I.base.tbls⟩,⟨m,hn.sameBut hs (Ne.symm (cne x c hc)),fun j y v' e1 e2 e3=>?_⟩,fun y c' e=>?_,I.free,I.freeC,fun p hp=>?_,tracked ⟨oc,hoc,I.freeC x c hc⟩ hs,by simpa using I.len⟩ ⟨c,hs,.inr hc⟩
   · exact (hs.2 b (b5k (b5v (Heap.lt_size e) (I.ok.cab x c hfn hc)))).trans (I.base.keep b o e n hb hx)
   · obtain⟨sl,e1⟩:=I.base.slot b o e n hb hx
     exact⟨sl,(hs.2 b (b5k (b5v (Heap.lt_size e) (I.ok.cab x c hfn hc)))).trans e1⟩
   · obtain⟨o',e1⟩:=I.base.there b o e hx
     exact⟨o',(hs.2 b (b5k (b5v (Heap.lt_size e) (I.ok.cab x c hfn hc)))).trans e1⟩
   · by_cases hj:j=i
     · subst hj
       rw[hi] at e1;cases e1
       rw[List.getElem?_set_self hiσ] at e2
       cases e2
       exact⟨u,r,.inr ⟨.inl hk,c,hc,hc'⟩⟩
     · rw[List.getElem?_set_ne (Ne.symm hj)] at e2
       obtain⟨u',r',q⟩:=hl j y v' e1 e2 e3
       refine⟨u',r',?_⟩
       rcases q with q | ⟨k,c',e,z'⟩
       · exact .inl q
       · refine .inr ⟨k,c',e,z'.sameBut hs ?_⟩
         rintro rfl
         exact hj (b0u hN e1 (I.ok.inj _ _ _ e hc ▸ hi))
   · by_cases hcc:c'=c
     · subst hcc;exact⟨_,hc'⟩
     · obtain⟨w2,z2⟩:=I.cell y c' e
       exact⟨w2,z2.sameBut hs hcc⟩
   · obtain⟨e,n,ne,nf,d⟩:=I.pin p hp
     refine⟨(hs.2 p.1 ?_).trans e,n,ne,nf,d⟩
     intro q
     rw[q,hoc] at e
     have q':oc=p.2:=b6l.inj e
     exact d w' (by rw[← q'];exact hocd)
theorem a3r{M:Model}{A:Around}{E:Value→Shared→Prop}{i:Nat}{x:Str}{v:V}{u:Value}{Q:Unit→Shared→Prop}(I:Inv X pins σ H s)(hN:X.N.Nodup)(hi:X.N[i]?=some x)(hx:Loc X.env.scope x)(r:RelV v u)(h:∀ s',Inv X pins (σ.set i (some v)) H s'→Q () s')(hf:X.fn x=true∨X.env.scope.names.lookup x=some .local:=by first | exact .inl rfl | exact .inr rfl | assumption):wpAny M A (storeName X.env x u) Q E s:=
 b2m I hN hi hx r (fun s' I' _=>h s' I') hf
theorem Inv.call'{s':Shared}{ch:List Addr}(I:Inv X pins σ H s)(ho:s'.os=s.os)(u:Un (frs X.stack) ch H H' s.heap s'.heap)(hok:HOk X.prog X.w H' s'.heap)(hg:AllBare s'.gens)(hch:∀ b∈ch,(b∈X.ex∨X.s₀.heap.objs.size≤b)∧b≠X.env.locals∧(∀ x c,X.env.cells.lookup x=some c→c≠b)∧∀ p∈X.pn++pins,p.1≠b):Inv X pins σ H' s':=by
 obtain⟨h',g',d',t',o'⟩:=s'
 have e:o'=s.os:=ho
 subst e
 exact I.call (g':=g') (t':=t') (d':=d') u hok hg hch
end
abbrev XK:=Value→Option Addr→Hp→Prop
abbrev St:=List (Option V)
abbrev VK:=V→Hp→Prop
abbrev TE:=St→Hp→VK→Prop
abbrev TT:=St→Hp→(Bool→Hp→Prop)→Prop
abbrev TA:=St→Hp→(List V→Hp→Prop)→Prop
structure Ends where
 nx:St→Hp→Prop
 rt:VK
 bk:St→Hp→Prop:=fun _ _=>False
 ct:St→Hp→Prop:=fun _ _=>False
abbrev TS:=Ends→St→Hp→Prop
def EP(X:Cx)(pins:List (Addr×Obj))(σ:St)(Q:VK)(u:Value)(s':Shared):Prop:=∃ v H',Inv X pins σ H' s'∧RelV v u∧Q v H'
def TP(X:Cx)(pins:List (Addr×Obj))(σ:St)(Q:Bool→Hp→Prop)(b:Bool)(s':Shared):Prop:=∃ H',Inv X pins σ H' s'∧Q b H'
def AP(X:Cx)(pins:List (Addr×Obj))(σ:St)(Q:List V→Hp→Prop)(us:List Value)(s':Shared):Prop:=∃ vs H',Inv X pins σ H' s'∧Vals vs us∧Q vs H'
def SP(X:Cx)(pins:List (Addr×Obj))(D:Ends)(f:Flow)(s':Shared):Prop:=
 match f with
 | .next=>∃ σ' H',Inv X pins σ' H' s'∧D.nx σ' H'
 | .brk=>∃ σ' H',Inv X pins σ' H' s'∧D.bk σ' H'
 | .cont=>∃ σ' H',Inv X pins σ' H' s'∧D.ct σ' H'
 | .ret u=>∃ v σ' H',Inv X pins σ' H' s'∧RelV v u∧D.rt v H'
def PE(X:Cx)(e:Expr)(t:TE):Prop:=
 ∀ (pins:List (Addr×Obj)) (s:Shared) (σ:St) (H:Hp) (Q:VK),Inv X pins σ H s→t σ H Q→wpAny (model X.prog X.w) X.A (eval e X.env) (EP X pins σ Q) X.xe s
def PT(X:Cx)(e:Expr)(t:TT):Prop:=
 ∀ (pins:List (Addr×Obj)) (s:Shared) (σ:St) (H:Hp) (Q:Bool→Hp→Prop),Inv X pins σ H s→t σ H Q→wpAny (model X.prog X.w) X.A (isTrue e X.env (eval e X.env)) (TP X pins σ Q) X.xe s
def PW(X:Cx)(e:Expr)(t:TT):Prop:=
 ∀ (whole:Sem Value) (pins:List (Addr×Obj)) (s:Shared) (σ:St) (H:Hp) (Q:Bool→Hp→Prop),Inv X pins σ H s→t σ H Q→wpAny (model X.prog X.w) X.A (isTrue e X.env whole) (TP X pins σ Q) X.xe s
theorem PW.pt{X:Cx}{e:Expr}{t:TT}(h:PW X e t):PT X e t:=h _
def PA(X:Cx)(es:List Expr)(t:TA):Prop:=
 ∀ (pos:Pos) (pins:List (Addr×Obj)) (s:Shared) (σ:St) (H:Hp) (Q:List V→Hp→Prop),Inv X pins σ H s→t σ H Q→wpAny (model X.prog X.w) X.A (spliced (backTo pos (starEach es X.env))) (AP X pins σ Q) X.xe s
def PS(X:Cx)(st:Stmt)(t:TS):Prop:=
 ∀ (pins:List (Addr×Obj)) (s:Shared) (σ:St) (H:Hp) (D:Ends),Inv X pins σ H s→t D σ H→wpAny (model X.prog X.w) X.A (exec st X.env) (SP X pins D) X.xe s
def PSs(X:Cx)(st:List Stmt)(t:TS):Prop:=
 ∀ (pins:List (Addr×Obj)) (s:Shared) (σ:St) (H:Hp) (D:Ends),Inv X pins σ H s→t D σ H→wpAny (model X.prog X.w) X.A (execs st X.env) (SP X pins D) X.xe s
theorem thn{α:Type}{t:Sem α}{Q Q':α→Shared→Prop}{M:Model}{A:Around}{E:Value→Shared→Prop}{s:Shared}(h:wpAny M A t Q E s)(hQ:∀ a s,Q a s→Q' a s):wpAny M A t Q' E s:=wpAny_mono h hQ fun _ _ x=>x
end L2
namespace L2
open PySem PySem.Spec PyProof.Rows
section
variable {X:Cx}
def tVar(i:Nat):TE:=fun σ H Q=>∃ v,σ[i]?=some (some v)∧Q v H
def tC(v:V):TE:=fun _ H Q=>Q v H
theorem pe_var{i:Nat}{x:Str}{pos:Pos}(hN:X.N[i]?=some x)(hv:Vis X.env.scope x)(hd:(x == ("__debug__" : Str))=false:=by decide)(hcd:(x == ("__classdict__" : Str))=false:=by decide):PE X (.Name x pos) (tVar i):=by
 intro pins s σ H Q I h
 obtain⟨v,e,h⟩:=h
 obtain⟨m,hn,hl⟩:=I.loc
 obtain⟨u,r,l⟩:=hl i x v hN e hv
 have fin:EP X pins σ Q u s:=⟨v,H,I,r,h⟩
 rcases l with⟨hk,hm⟩ | ⟨hk,c,hc,hcell⟩
 · exact wpAny_Name (wpAny_loadName_local I.ok.kind hk hn hm fin) hd
 · rcases hk with hk | hk
   · exact wpAny_Name (wpAny_loadName_cell I.ok.kind hk hc hcell fin) hd
   · exact wpAny_Name (wpAny_loadName_free I.ok.kind hk hc hcell fin hcd) hd
theorem pe_int{i j pos}:PE X (.Constant (.int i) j pos) (tC (.int i)):=fun _ _ _ H _ I h=>wpAny_Constant_int ⟨.int i,H,I.tok _,⟨_,rfl⟩,h⟩
theorem pe_bl{b j pos}:PE X (.Constant (.bool b) j pos) (tC (.bl b)):=fun _ _ _ H _ I h=>Constant_bool ⟨.bl b,H,I,rfl,h⟩
def Gl(X:Cx)(x:Str):Prop:=X.env.kindOf x=some .globalImplicit
theorem ld_glob{E:Value→Shared→Prop}{pins:List (Addr×Obj)}{s:Shared}{σ:St}{H:Hp}{x:Str}{u:Value}{pos:Pos}{Q:Value→Shared→Prop}(I:Inv X pins σ H s)(hg:Gl X x)(hm:X.mg x=some u)(h:Q u s)(hd:(x == ("__debug__" : Str))=false:=by decide):wpAny (model X.prog X.w) X.A (eval (.Name x pos) X.env) Q E s:=
 Calls.Name_function_global I.ok.kind hg (Calls.loadGlobal_global (by rw[I.ok.glob];exact I.mod.glob.keeps I.bk) hm h) hd
theorem a5q{E:Value→Shared→Prop}{pins:List (Addr×Obj)}{s:Shared}{σ:St}{H:Hp}{x:Str}{u:Value}{pos:Pos}{Q:Value→Shared→Prop}(I:Inv X pins σ H s)(hg:Gl X x)(hm:X.mg x=none)(hv:bootBuiltins x=some u)(h:Q u s)(hn:x ≠ "__name__":=by decide)(hd:(x == ("__debug__" : Str))=false:=by decide):wpAny (model X.prog X.w) X.A (eval (.Name x pos) X.env) Q E s:=by
 obtain⟨mb,h1,h2⟩:=I.mod.blt
 exact Calls.Name_function_global I.ok.kind hg (Calls.loadGlobal_builtin (by rw[I.ok.glob];exact I.mod.glob.keeps I.bk) hm (by rw[I.ok.blt];exact h1.keeps I.bk) ((h2 x hn).trans hv) h) hd
theorem pe_bltn{x:Str}{v:V}{u:Value}{pos:Pos}(hg:Gl X x)(hm:X.mg x=none)(hv:bootBuiltins x=some u)(r:RelV v u)(hn:x ≠ "__name__":=by decide)(hd:(x == ("__debug__" : Str))=false:=by decide):PE X (.Name x pos) (tC v):=
 fun _ _ _ H _ I h=>a5q I hg hm hv ⟨v,H,I,r,h⟩ hn hd
variable {a b:Expr} {ta tb:TE} {pos:Pos}
def tB(t:TE):TT:=fun σ H Q=>t σ H fun x H1=>∃ c,x=.bl c∧Q c H1
theorem pt_val{e:Expr}{t:TE}(h:PE X e t)(he:∀ whole,isTrue e X.env whole=(do let v ← whole;standAt e.pos;holding [v] (truthy v)):=by intro _;rfl):PT X e (tB t):=by
 intro pins s σ H Q I hw
 refine isTrue_plain (thn (h pins s σ H _ I hw) fun v s1 ⟨x,H1,I1,r1,q1⟩=>?_) (he _)
 obtain⟨d,rfl,q⟩:=q1
 cases r1
 exact wpAny_truthy_bool ⟨H1,I1,q⟩
variable {tA tB':TT} {rest:List Expr}
def tAnd(t u:TT):TT:=fun σ H Q=>t σ H fun c H1=>if c=true then u σ H1 Q else Q false H1
def tNot(t:TT):TT:=fun σ H Q=>t σ H fun c H1=>Q (!c) H1
theorem pw_and1(ha:PT X a tA):PW X (.BoolOp .And [a] pos) tA:=by
 intro wh pins s σ H Q I h
 refine isTrue_and (thn (ha pins s σ H Q I h) fun c s1 e=>?_)
 cases c with
 | true=>exact isTrue_and_nil e
 | false=>exact e
theorem pw_and(ha:PT X a tA)(hb:PW X (.BoolOp .And (b::rest) pos) tB'):PW X (.BoolOp .And (a::b::rest) pos) (tAnd tA tB'):=by
 intro wh pins s σ H Q I h
 refine isTrue_and (thn (ha pins s σ H _ I h) fun c s1 ⟨H1,I1,q1⟩=>?_)
 cases c with
 | true=>exact hb wh pins s1 σ H1 Q I1 q1
 | false=>exact⟨H1,I1,q1⟩
theorem pt_not(ha:PT X a tA):PT X (.UnaryOp .Not a pos) (tNot tA):=by
 intro pins s σ H Q I h
 exact isTrue_not (ha pins s σ H (fun c H1=>Q (!c) H1) I h)
def tAndV(ta tb:TE):TE:=fun σ H Q=>ta σ H fun x H1=>∃ c,x=.bl c∧if c=true then tb σ H1 Q else Q (.bl false) H1
theorem pe_one{op}{t:TE}(h:PE X a t):PE X (.BoolOp op [a] pos) t:=fun pins s σ H Q I hw=>BoolOp_one (h pins s σ H Q I hw)
theorem pe_and(ha:PE X a ta)(hb:PE X (.BoolOp .And (b::rest) pos) tb):PE X (.BoolOp .And (a::b::rest) pos) (tAndV ta tb):=by
 intro pins s σ H Q I h
 refine BoolOp_and (thn (ha pins s σ H _ I h) fun v s1 ⟨x,H1,I1,r1,q1⟩=>?_)
 obtain⟨c,rfl,q1⟩:=q1
 cases r1
 refine wpAny_truthy_bool ?_
 cases c with
 | true=>exact hb pins s1 σ H1 Q I1 q1
 | false=>exact⟨.bl false,H1,I1,rfl,q1⟩
end
end L2
namespace L2
open PySem PySem.Spec PyProof.Rows
def SqL(K:b5h)(H:Hp)(a:Addr)(xs:List V):Prop:=
 Rd H a (.lst xs)∨
   ∃ (o:Obj) (its:Array Value) (n:Nat),K.lookup a=some o∧o.cls=.type "list" ∧ o.dict=none∧o.data=.seq its n∧its.size≤sizeLine∧Vals xs its.toList
def SqT(K:b5h)(H:Hp)(a:Addr)(xs:List V):Prop:=
 Rd H a (.tup xs)∨
   ∃ (o:Obj) (its:Array Value) (n:Nat),K.lookup a=some o∧o.cls=.type "tuple" ∧ o.data=.seq its n∧its.size≤sizeLine∧Vals xs its.toList
def absV:Value→Option V
 | .none=>some .non
 | .bool b=>some (.bl b)
 | .int i _=>some (.int i)
 | .str x _=>some (.str x)
 | .bytes b _=>some (.byt b)
 | .float b _=>some (.flt b)
 | .ref a=>some (.ref a)
 | .type n=>some (.ty n)
 | _=>none
theorem RelV.abs{x:V}{u:Value}(r:RelV x u):absV u=some x:=by
 cases x with
 | non=>cases r;rfl
 | bl _=>cases r;rfl
 | int _=>obtain⟨t,rfl⟩:=r;rfl
 | str _=>obtain⟨t,rfl⟩:=r;rfl
 | byt _=>obtain⟨t,rfl⟩:=r;rfl
 | flt _=>obtain⟨t,rfl⟩:=r;rfl
 | ref _=>cases r;rfl
 | ty _=>cases r;rfl
theorem RelV.inj{x y:V}{u:Value}(r:RelV x u)(q:RelV y u):x=y:=b6l.inj (r.abs.symm.trans q.abs)
theorem Vals.inj:∀ {xs ys:List V} {us:List Value},Vals xs us→Vals ys us→xs=ys
 | _,_,_,.nil,.nil=>rfl
 | _,_,_,.cons r t,.cons r' t'=>by rw[r.inj r',Vals.inj t t']
section
variable {X:Cx} {pins:List (Addr×Obj)} {σ:St} {H:Hp} {s:Shared} {a:Addr} {xs ys:List V}
theorem SqL.of{K:b5h}(h:H a=some (.lst xs)):SqL K H a xs:=.inl (.inl h)
theorem SqT.of{K:b5h}(h:H a=some (.tup xs)):SqT K H a xs:=.inl (.inl h)
theorem Inv.list(I:Inv X pins σ H s)(h:SqL X.K H a xs):∃ its:List Value,Vals xs its∧PlainL s.heap a its.toArray∧xs.length≤sizeLine:=by
 rcases h with h | ⟨o,its,n,hk,hc,hd,hs,hz,r⟩
 · obtain⟨z,its,n,r,e⟩:=h.ok I.hok
   exact⟨its,r,⟨_,n,e,rfl,rfl,rfl⟩,z⟩
 · refine⟨its.toList,r,⟨o,n,I.kIn a o hk,hc,hd,by simpa using hs⟩,?_⟩
   have e:=r.length
   simp only[b6f] at e
   omega
theorem Inv.tuple(I:Inv X pins σ H s)(h:SqT X.K H a xs):∃ its:List Value,Vals xs its∧IsTup s.heap a its.toArray∧xs.length≤sizeLine:=by
 rcases h with h | ⟨o,its,n,hk,hc,hs,hz,r⟩
 · obtain⟨z,its,r,p⟩:=h.ok I.hok
   exact⟨its,r,p,z⟩
 · refine⟨its.toList,r,⟨o,I.kIn a o hk,hc,n,by simpa using hs⟩,?_⟩
   have e:=r.length
   simp only[b6f] at e
   omega
theorem Inv.list_inj(I:Inv X pins σ H s)(h:SqL X.K H a xs)(h':SqL X.K H a ys):xs=ys:=by
 obtain⟨its,r,⟨o,n,e,_,_,d⟩,_⟩:=I.list h
 obtain⟨its',r',⟨o',n',e',_,_,d'⟩,_⟩:=I.list h'
 rw[e] at e';cases e'
 rw[d] at d'
 injection d' with d1 _
 have:its=its':=by simpa using congrArg Array.toList d1
 subst this
 exact r.inj r'
end
abbrev Cx.wish(X:Cx)(E:Value→Shared→Prop):Cx:={ X with xe:=E }
abbrev Cx.nox(X:Cx):Cx:=X.wish fun _ _=>False
theorem Cx.Ok.wish{X:Cx}(ok:X.Ok)(E:Value→Shared→Prop):(X.wish E).Ok:=
 ⟨ok.mod,ok.kind,ok.glob,ok.blt,ok.above,ok.inj,ok.has,ok.cab,ok.hd,ok.frames,ok.stk,ok.exf,ok.bs,ok.bsz,ok.noex,ok.exfs,ok.funs,ok.frf⟩
theorem Cx.Ok.unwish{X:Cx}{E:Value→Shared→Prop}(ok:(X.wish E).Ok):X.Ok:=
 ⟨ok.mod,ok.kind,ok.glob,ok.blt,ok.above,ok.inj,ok.has,ok.cab,ok.hd,ok.frames,ok.stk,ok.exf,ok.bs,ok.bsz,ok.noex,ok.exfs,ok.funs,ok.frf⟩
section
variable {X:Cx} {pins:List (Addr×Obj)} {σ:St} {H:Hp} {s:Shared} {E:Value→Shared→Prop}
theorem Inv.wish(I:Inv X pins σ H s)(E:Value→Shared→Prop):Inv (X.wish E) pins σ H s:=⟨I.ok.wish E,I.os,I.bare,I.base,I.loc,I.cell,I.free,I.freeC,I.pin,I.hok,I.len⟩
theorem Inv.unwish(I:Inv (X.wish E) pins σ H s):Inv X pins σ H s:=⟨I.ok.unwish,I.os,I.bare,I.base,I.loc,I.cell,I.free,I.freeC,I.pin,I.hok,I.len⟩
theorem SP.unwish{D:Ends}{f:Flow}{s':Shared}(h:SP (X.wish E) pins D f s'):SP X pins D f s':=by
 cases f with
 | next=>obtain⟨σ',H',I,q⟩:=h;exact⟨σ',H',I.unwish,q⟩
 | brk=>obtain⟨σ',H',I,q⟩:=h;exact⟨σ',H',I.unwish,q⟩
 | cont=>obtain⟨σ',H',I,q⟩:=h;exact⟨σ',H',I.unwish,q⟩
 | ret u=>obtain⟨v,σ',H',I,r,q⟩:=h;exact⟨v,σ',H',I.unwish,r,q⟩
theorem PSs.nox{st:List Stmt}{t:TS}(h:PSs X.nox st t):PSs X st t:=fun pins s σ H D I hw=>
 wpAny_mono (h pins s σ H D (I.wish _) hw) (fun _ _ q=>q.unwish) fun _ _ z=>False.elim z
end
section
variable {X:Cx} {st:Stmt} {rest:List Stmt} {t u:TS} {e:Expr} {te:TE} {pos:Pos}
def tNext:TS:=fun D σ H=>D.nx σ H
def tSeq(t u:TS):TS:=fun D σ H=>t { D with nx:=u D } σ H
theorem pss_nil:PSs X [] tNext:=fun _ _ σ H _ I h=>wpAny_execs_nil ⟨σ,H,I,h⟩
theorem pss_cons(h1:PS X st t)(h2:PSs X rest u):PSs X (st::rest) (tSeq t u):=by
 intro pins s σ H D I h
 refine wpAny_execs_cons (thn (h1 pins s σ H { D with nx:=u D } I h) fun f s1 q=>?_)
 cases f with
 | next=>
   obtain⟨σ',H',I',q⟩:=q
   exact h2 pins s1 σ' H' D I' q
 | ret v=>exact q
 | brk=>exact q
 | cont=>exact q
theorem pss_one(h1:PS X st t):PSs X [st] t:=by
 intro pins s σ H D I h
 refine wpAny_execs_cons (thn (h1 pins s σ H D I h) fun f s1 q=>?_)
 cases f with
 | next=>exact wpAny_execs_nil q
 | ret v=>exact q
 | brk=>exact q
 | cont=>exact q
theorem Inv.quiet{pins:List (Addr×Obj)}{σ:St}{H:Hp}{s:Shared}(I:Inv X pins σ H s):interactive X.env=false:=by simp[interactive,I.ok.kind]
def tDrop(te:TE):TS:=fun D σ H=>te σ H fun _ H1=>D.nx σ H1
theorem ps_expr(he:PE X e te)(hs:swapsWith e none pos.line X.env=pure false:=by rfl):PS X (.Expr e pos) (tDrop te):=by
 intro pins s σ H D I h
 exact wpAny_Expr_any (thn (he pins s σ H _ I h) fun v s1 ⟨x,H1,I1,r1,q1⟩=>⟨σ,H1,I1,q1⟩) I.quiet hs
def tRet(te:TE):TS:=fun D σ H=>te σ H D.rt
theorem ps_ret(he:PE X e te):PS X (.Return (some e) pos) (tRet te):=by
 intro pins s σ H D I h
 exact wpAny_Return_some (thn (he pins s σ H _ I h) fun v s1 ⟨x,H1,I1,r1,q1⟩=>⟨x,σ,H1,I1,r1,q1⟩)
def tIfS(c:TT)(t u:TS):TS:=fun D σ H=>c σ H fun b H1=>if b=true then t D σ H1 else u D σ H1
theorem ps_if{c:Expr}{a b:List Stmt}{tc:TT}(hc:PT X c tc)(ha:PSs X a t)(hb:PSs X b u):PS X (.If c a b pos) (tIfS tc t u):=by
 intro pins s σ H D I h
 refine wpAny_If (thn (hc pins s σ H _ I h) fun d s1 ⟨H1,I1,q1⟩=>?_)
 cases d with
 | true=>exact ha pins s1 σ H1 D I1 q1
 | false=>exact hb pins s1 σ H1 D I1 q1
end
abbrev TG:=V→St→Hp→(St→Hp→Prop)→Prop
abbrev TGs:=List V→St→Hp→(St→Hp→Prop)→Prop
def PG(X:Cx)(target:Expr)(t:TG):Prop:=
 ∀ (pins:List (Addr×Obj)) (s:Shared) (σ:St) (H:Hp) (v:V) (u:Value) (Q:St→Hp→Prop),Inv X pins σ H s→RelV v u→t v σ H Q→
   wpAny (model X.prog X.w) X.A (assign target X.env u) (fun _ s'=>∃ σ' H',Inv X pins σ' H' s'∧Q σ' H') X.xe s
def PGs(X:Cx)(ts:List Expr)(t:TGs):Prop:=
 ∀ (pins:List (Addr×Obj)) (s:Shared) (σ:St) (H:Hp) (vs:List V) (us:List Value) (Q:St→Hp→Prop),Inv X pins σ H s→Vals vs us→t vs σ H Q→
   wpAny (model X.prog X.w) X.A (assignInOrder ((assignEach ts X.env).map (·.2)) us) (fun _ s'=>∃ σ' H',Inv X pins σ' H' s'∧Q σ' H') X.xe s
abbrev TSet:=V→V→V→Hp→(Hp→Prop)→Prop
def PSet(X:Cx)(t:TSet):Prop:=
 ∀ (pins:List (Addr×Obj)) (s:Shared) (σ:St) (H:Hp) (o i v:V) (ov iv u:Value) (Q:Hp→Prop),Inv X pins σ H s→RelV o ov→RelV i iv→RelV v u→t o i v H Q→
   wpAny (model X.prog X.w) X.A (setItem ov iv u) (fun _ s'=>∃ H',Inv X pins σ H' s'∧Q H') X.xe s
section
variable {X:Cx} {pos:Pos}
def a5t(i:Nat):TG:=fun v σ H Q=>Q (σ.set i (some v)) H
theorem pg_name{i:Nat}{x:Str}(hN:X.N.Nodup)(hi:X.N[i]?=some x)(hx:Loc X.env.scope x)(hf:X.fn x=true∨X.env.scope.names.lookup x=some .local:=by first | exact .inl rfl | exact .inr rfl | assumption):PG X (.Name x pos) (a5t i):=by
 intro pins s σ H v u Q I r h
 exact wpAny_assign_Name (a3r I hN hi hx r (fun s' I'=>⟨_,H,I',h⟩) hf)
def gNil:TGs:=fun vs σ H Q=>vs=[]∧Q σ H
def gCons(t:TG)(u:TGs):TGs:=fun vs σ H Q=>∃ v r,vs=v::r∧t v σ H fun σ' H'=>u r σ' H' Q
theorem pgs_nil:PGs X [] gNil:=by
 intro pins s σ H vs us Q I r h
 obtain⟨e,h⟩:=h
 subst e
 cases r
 exact assignInOrder_nil ⟨σ,H,I,h⟩
theorem pgs_cons{e:Expr}{es:List Expr}{t:TG}{u:TGs}(h1:PG X e t)(h2:PGs X es u)(hs:(assignEach (e::es) X.env).map (·.2)=assign e X.env::(assignEach es X.env).map (·.2):=by rfl):PGs X (e::es) (gCons t u):=by
 intro pins s σ H vs us Q I r h
 obtain⟨v,vr,e1,h⟩:=h
 subst e1
 cases r with
 | cons r rr=>
   rw[hs]
   refine assignInOrder_cons (thn (h1 pins s σ H _ _ _ I r h) fun _ s1 ⟨σ1,H1,I1,q1⟩=>?_)
   exact h2 pins s1 σ1 H1 _ _ Q I1 rr q1
def gTup(K:b5h)(n:Nat)(t:TGs):TG:=fun v σ H Q=>∃ a xs,v=.ref a∧SqT K H a xs∧xs.length=n∧t xs σ H Q
theorem pg_tup{es:List Expr}{k:Nat}{t:TGs}{n:Nat}(hc:X.calm=true)(h:PGs X es t)(hn:(assignEach es X.env).length=n:=by rfl)(hst:(assignEach es X.env).findIdx? (·.1)=none:=by rfl):PG X (.Tuple es k pos) (gTup X.K n t):=by
 intro pins s σ H v u Q I r hw
 obtain⟨a,xs,e1,hq,hl,hw⟩:=hw
 subst e1
 cases r
 obtain⟨its,rv,ht,hz⟩:=I.tuple hq
 refine assign_Tuple_tuple (I.ok.hd hc) ht (by simp[hn,← hl,rv.length]) hst fun h' hx=>?_
 have I1:Inv X pins σ H { s with heap:=h' }:=I.kept (t':=s.toks) fun b o e=>hx b o (b5k (Heap.lt_size e)) e
 exact h pins _ σ H xs _ Q I1 (by simpa using rv) hw
def gSub(to ti:TE)(t:TSet):TG:=fun v σ H Q=>to σ H fun o H1=>ti σ H1 fun i H2=>t o i v H2 fun H3=>Q σ H3
theorem pg_sub{o i:Expr}{to ti:TE}{t:TSet}(ho:PE X o to)(hi:PE X i ti)(hs:PSet X t)(ha:∀ v,assign (.Subscript o i pos) X.env v=(do
     let ov ← holding [v] (eval o X.env)
     let iv ← holding [v,ov] (eval i X.env)
     standAt pos
     holding [v,ov,iv] (setItem ov iv v)
     release [v,ov,iv] []):=by intro _;rfl):PG X (.Subscript o i pos) (gSub to ti t):=by
 intro pins s σ H v u Q I r h
 rw[ha]
 refine wpAny_bind (wpAny_holding (thn (ho pins s σ H _ I h) fun ov s1 ⟨x,H1,I1,r1,q1⟩=>?_))
 refine wpAny_bind (wpAny_holding (thn (hi pins s1 σ H1 _ I1 q1) fun iv s2 ⟨y,H2,I2,r2,q2⟩=>?_))
 refine wpAny_bind (wpAny_standAt (wpAny_bind (wpAny_holding (thn (hs pins s2 σ H2 x y v ov iv u _ I2 r1 r2 r q2) fun _ s3 ⟨H3,I3,q3⟩=>?_))))
 exact wpAny_release ⟨σ,H3,I3,q3⟩
def tAsg(te:TE)(g:TG):TS:=fun D σ H=>te σ H fun x H1=>g x σ H1 D.nx
theorem ps_asg{tg e:Expr}{te:TE}{g:TG}(he:PE X e te)(hg:PG X tg g)(hs:swapsWithSole [tg] e pos.line X.env=pure false:=by rfl)(hw:swappedStores [tg] e X.env=pure none:=by rfl)(h1:(assignEach [tg] X.env).map (·.2)=[assign tg X.env]:=by rfl):PS X (.Assign [tg] e pos) (tAsg te g):=by
 intro pins s σ H D I h
 refine wpAny_Assign_stores (thn (he pins s σ H _ I h) fun v s1 ⟨x,H1,I1,r1,q1⟩=>?_) hs hw
 rw[h1]
 exact thn (hg pins s1 σ H1 x v _ I1 r1 q1) fun _ s2 q=>q
theorem ps_set{i:Nat}{x:Str}{e:Expr}{te:TE}{pos':Pos}(hN:X.N.Nodup)(hi:X.N[i]?=some x)(hx:Loc X.env.scope x)(he:PE X e te)(hs:swapsWith e (some (.Name x pos')) pos.line X.env=pure false:=by rfl)(hf:X.fn x=true∨X.env.scope.names.lookup x=some .local:=by first | exact .inl rfl | exact .inr rfl | assumption) :
   PS X (.Assign [.Name x pos'] e pos) (tAsg te (a5t i)):=by
 intro pins s σ H D I h
 refine wpAny_Assign_Name (thn (he pins s σ H _ I h) fun v s1 ⟨y,H1,I1,r1,q1⟩=>?_) hs
 exact a3r I1 hN hi hx r1 (fun s2 I2=>⟨_,H1,I2,q1⟩) hf
def tPar(i j:Nat)(ta:TA):TS:=fun D σ H=>ta σ H fun vs H1=>∃ v w,vs=[v,w]∧D.nx ((σ.set i (some v)).set j (some w)) H1
theorem ps_par{i j:Nat}{x y:Str}{a b:Expr}{ta:TA}{px py pt:Pos}{kt k2 pt2}(hc:X.calm=true)(hN:X.N.Nodup)(hi:X.N[i]?=some x)(hj:X.N[j]?=some y)(hij:i≠j)(hx:X.env.scope.names.lookup x=some .local)(hy:X.env.scope.names.lookup y=some .local)(ha:PA X [a,b] ta)(hw:swappedStores [.Tuple [.Name x px,.Name y py] kt pt] (.Tuple [a,b] k2 pt2) X.env=pure (some [x,y]))(hs:swapsWithSole [.Tuple [.Name x px,.Name y py] kt pt] (.Tuple [a,b] k2 pt2) pos.line X.env=pure false:=by rfl) :
   PS X (.Assign [.Tuple [.Name x px,.Name y py] kt pt] (.Tuple [a,b] k2 pt2) pos) (tPar i j ta):=by
 intro pins s σ H D I h
 rw[exec_Assign_arm]
 refine wpAny_bind (wpAny_standAt ?_)
 rw[hs]
 refine wpAny_bind (wpAny_pure ?_)
 rw[if_neg (by decide)]
 refine wpAny_bind (Tuple_ (thn (ha _ pins s σ H _ I h) fun us s1 ⟨vs,H1,I1,r1,q1⟩=>?_))
 obtain⟨v,w,e1,q1⟩:=q1
 subst e1
 obtain⟨u1,u2,rfl,rv,rw'⟩ : ∃ u1 u2,us=[u1,u2]∧RelV v u1∧RelV w u2:=by
   cases r1 with
   | cons p q=>
     cases q with
     | cons p' q'=>
       cases q'
       exact⟨_,_,rfl,p,p'⟩
 refine wpAny_newObj_type ?_ (by show 2≤sizeLine;decide)
 have I2:Inv X pins σ H1 { s1 with heap:=s1.heap.push { cls:=.type "tuple",data:=.seq [u1,u2].toArray } }:=I1.kept (t':=s1.toks) fun b o e=>Heap.get?_push_of_some _ e
 rw[hw]
 refine wpAny_bind (wpAny_pure ?_)
 show wpAny (model X.prog X.w) X.A (do rule "assign.swapped-stores";let items ← unpackItems (.ref s1.heap.objs.size) 2 none;assignInOrder [fun v=>bindName X.env y v,fun v=>bindName X.env x v] items.reverse;pure Flow.next) _ _ _
 refine wpAny_bind (wpAny_rule (wpAny_bind (unpackItems_tuple (items:=#[u1,u2]) (I.ok.hd hc) (IsTup.new s1.heap _) fun h' hx'=>?_)))
 have I3:=I2.kept (h':=h') (t':=s1.toks) fun b o e=>hx' b o (b5k (Heap.lt_size e)) e
 show wpAny _ _ (assignInOrder [fun v=>bindName X.env y v,fun v=>bindName X.env x v] [u2,u1] >>= fun _=>pure Flow.next) _ _ _
 refine wpAny_bind (assignInOrder_cons (wpAny_bindName (a3r I3 hN hj (.inl hy) rw' (fun s2 I4=>?_) (.inr hy))))
 refine assignInOrder_cons (wpAny_bindName (a3r I4 hN hi (.inl hx) rv (fun s3 I5=>assignInOrder_nil (wpAny_pure ?_)) (.inr hx)))
 rw[List.set_comm _ _ (Ne.symm hij)] at I5
 exact⟨_,H1,I5,q1⟩
end
section
variable {X:Cx} {pos:Pos}
def b2k(c:TT)(tb:TS):TS:=fun D σ H=>∃ W:Nat→St→Hp→Prop,(∃ m,W m σ H)∧∀ m σ H,W m σ H→
 c σ H fun b H1=>if b=true then ∃ N:St→Hp→Prop,(∀ σ' H',N σ' H'→∃ m',m' < m∧W m' σ' H')∧tb { D with nx:=N,ct:=N,bk:=D.nx } σ H1 else D.nx σ H1
theorem ps_while{c:Expr}{body:List Stmt}{tc:TT}{tb:TS}(hp:PassesOwn (model X.prog X.w) X.A X.env X.xe)(hc:PT X c tc)(hb:PSs X body tb):PS X (.While c body [] pos) (b2k tc tb):=by
 intro pins s σ H D I h
 obtain⟨W,⟨m0,w0⟩,turn⟩:=h
 refine wpAny_While (codeAny_whileLoop (fun n s'=>∃ σ' H',Inv X pins σ' H' s'∧W n σ' H') ?_ m0 ⟨σ,H,I,w0⟩)
 rintro n s1 ⟨σ1,H1,I1,w1⟩
 refine wpAny_passesOwn hp (thn (hc pins s1 σ1 H1 _ I1 (turn n σ1 H1 w1)) fun b s2 ⟨H2,I2,q2⟩=>?_)
 cases b with
 | true=>
   obtain⟨N,hN,q2⟩:=q2
   rw[if_pos rfl]
   refine wpAny_passesOwn hp (thn (hb pins s2 σ1 H2 _ I2 q2) fun f s3 q3=>?_)
   cases f with
   | next=>
     obtain⟨σ3,H3,I3,n3⟩:=q3
     obtain⟨m',hm,w3⟩:=hN σ3 H3 n3
     exact⟨m',hm,σ3,H3,I3,w3⟩
   | cont=>
     obtain⟨σ3,H3,I3,n3⟩:=q3
     obtain⟨m',hm,w3⟩:=hN σ3 H3 n3
     exact⟨m',hm,σ3,H3,I3,w3⟩
   | brk=>exact q3
   | ret v=>exact q3
 | false=>
   rw[if_neg b5r]
   exact wpAny_execs_nil ⟨σ1,H2,I2,q2⟩
end
structure It where
 go:Nat→Hp→Prop
 yld:Nat→Hp→V→Hp→Prop
 stop:Nat→Hp→Prop
def FpOk(X:Cx)(pins:List (Addr×Obj))(H:Hp)(b:Addr):Prop:=
 H b=none∧b≠X.env.locals∧b∉X.fs∧(b∈X.ex∨X.s₀.heap.objs.size≤b)∧(∀ x c,X.env.cells.lookup x=some c→c≠b)∧∀ p∈X.pn++pins,p.1≠b
theorem Inv.fpOk{X:Cx}{pins:List (Addr×Obj)}{σ:St}{H H':Hp}{s:Shared}{b:Addr}(I:Inv X pins σ H s)(hb:s.heap.objs.size≤b)(hn:H' b=none):FpOk X pins H' b:=by
 refine⟨hn,b8d (b5v I.lt hb),I.nofs hb,.inr (b7j I.sz hb),fun x c e z=>?_,fun p hp z=>?_⟩
 · obtain⟨v,q⟩:=I.cell x c e
   exact absurd (b5v q.lt (by rw[z];exact hb)) (b7a _)
 · exact absurd (b5v (Heap.lt_size (I.pin p hp).1) (by rw[z];exact hb)) (b7a _)
structure Turn(P:Program)(w:World)(K:b5h)(tg:Expr)(J:It)(fp:List Addr)(it:Addr)(tn:Nat→Heap→Prop):Prop where
 mem:it∈fp
 obj:∀ i h,tn i h→∀ b∈fp,∃ o,h.get? b=some o∧∀ v,o.data≠.cell v
 keep:∀ i h h',tn i h→(∀ b∈fp,∀ o,h.get? b=some o→h'.get? b=some o)→tn i h'
 item:∀ (X:Cx),X.prog=P→X.w=w→X.K=K→X.calm=true→∀ (i:Nat) (pins:List (Addr×Obj)) (s:Shared) (σ:St) (H:Hp) (E:Value→Shared→Prop),Inv X pins σ H s→(∀ b∈fp,FpOk X pins H b)→tn i s.heap→J.go i H→
   wpAny (model P w) X.A (pyNext (.ref it)) (fun r s1=>∃ u,r=some u∧
     wpAny (model P w) X.A (letOwnedTupleGo tg (.ref it) u) (fun _ s2=>∃ x H',Inv X pins σ H' s2∧RelV x u∧J.yld i H x H'∧tn (i+1) s2.heap∧∀ b∈fp,H' b=none) E s1) E s
 done:∀ (X:Cx),X.prog=P→X.w=w→X.K=K→X.calm=true→∀ (i:Nat) (pins:List (Addr×Obj)) (s:Shared) (σ:St) (H:Hp) (E:Value→Shared→Prop),Inv X pins σ H s→(∀ b∈fp,FpOk X pins H b)→tn i s.heap→J.stop i H→
   wpAny (model P w) X.A (pyNext (.ref it)) (fun r s1=>r=none∧Inv X pins σ H s1) E s
 self:∀ (A:Around) (i:Nat) (s:Shared) (Q:Value→Shared→Prop) (E:Value→Shared→Prop),tn i s.heap→Q (.ref it) s→wpAny (model P w) A (pyIter (.ref it)) Q E s
abbrev TI:=St→Hp→(It→Hp→Prop)→Prop
def PIE(X:Cx)(pins:List (Addr×Obj))(σ:St)(tg:Expr)(R:It→Hp→Prop)(itv:Value)(s2:Shared):Prop:=
 ∃ (it:Addr) (fp:List Addr) (tn:Nat→Heap→Prop) (J:It) (H':Hp),itv=.ref it∧Inv X pins σ H' s2∧Turn X.prog X.w X.K tg J fp it tn∧tn 0 s2.heap∧(∀ b∈fp,FpOk X pins H' b)∧R J H'
def PI(X:Cx)(tg iter:Expr)(wi:TI):Prop:=
 ∀ (pins:List (Addr×Obj)) (s:Shared) (σ:St) (H:Hp) (R:It→Hp→Prop),Inv X pins σ H s→wi σ H R→
   wpAny (model X.prog X.w) X.A (eval iter X.env) (fun v s1=>wpAny (model X.prog X.w) X.A (pyIter v) (PIE X pins σ tg R) X.xe s1) X.xe s
theorem go_of{M:Model}{A:Around}{E:Value→Shared→Prop}{s:Shared}{tg:Expr}{it:Addr}{u:Value}{o:Obj}{n:String}{vs:Array Value}{Q:Unit→Shared→Prop}(ho:s.heap.get? it=some o)(hc:o.cls=.type n)(hd:o.data=.fields vs)(hn:["enumerate","zip","dict_itemiterator","dict_reverseitemiterator","odict_iterator","itertools.zip_longest","itertools.pairwise"].contains n=false)(hQ:Q () s):wpAny M A (letOwnedTupleGo tg (.ref it) u) Q E s:=by
 unfold letOwnedTupleGo
 cases tg<;>first
   | exact wpAny_pure hQ
   | (cases u<;>first
       | exact wpAny_pure hQ
       | (refine wpAny_bind (wpAny_load ho ?_)
          rw[hc,hd]
          show wpAny M A (if (["enumerate","zip","dict_itemiterator","dict_reverseitemiterator","odict_iterator","itertools.zip_longest","itertools.pairwise"].contains n && vs[0]? == some (rawInt _))=true then _ else _) Q E s
          rw[if_neg (by intro h;rw[hn,Bool.false_and] at h;cases h)]
          exact wpAny_pure hQ))
def Itl(K:b5h)(a:Addr):It:=
 ⟨fun i H=>∃ xs x,SqL K H a xs∧xs[i]?=some x,fun i H x H'=>H'=H∧∀ xs,SqL K H a xs→xs[i]?=some x,fun i H=>∃ xs,SqL K H a xs∧xs.length≤i⟩
def Itr(lo:Int)(n:Nat):It:=⟨fun i _=>i<n,fun i H x H'=>H'=H∧x=.int (lo+i),fun i _=>n≤i⟩
theorem b2g{P:Program}{w:World}{K:b5h}{tg:Expr}(a it:Addr):Turn P w K tg (Itl K a) [it] it (fun i h=>h.IsListIter it a i) where
 mem:=by simp
 obj:=fun i h st b hb=>by
   have e:b=it:=by simpa using hb
   subst e
   obtain⟨o,e,c,d⟩:=st
   exact⟨o,e,fun v z=>by rw[d] at z;cases z⟩
 keep:=fun i h h' st k=>st.at fun o e=>k it (by simp) o e
 item:=by
   intro X hP hw hK hc i pins s σ H E I hf st hg
   subst hP hw hK
   obtain⟨xs,x,hq,hx⟩:=hg
   obtain⟨its,rv,p,hz⟩:=I.list hq
   obtain⟨u,hu,ru⟩:=rv.get hx
   obtain⟨f0,f1,f2,f3,f4,f5⟩:=hf it (by simp)
   refine wpAny_pyNext_list_item st p.isList (x:=u) (by simpa using hu) fun h' st' sb=>?_
   have I1:Inv X pins σ H { s with heap:=h' }:=I.turned (t':=s.toks) (fun b o hb e=>(sb.2 b hb).trans e) f0 f1 f3 f4 f5
   obtain⟨o,e,c,d⟩:=id st'
   exact⟨u,rfl,go_of (s:={ s with heap:=h' }) e c d (by decide) ⟨x,H,I1,ru,⟨rfl,fun ys hy=>by rw[I.list_inj hy hq];exact hx⟩,st',fun b hb=>(hf b hb).1⟩⟩
 done:=by
   intro X hP hw hK hc i pins s σ H E I hf st hg
   subst hP hw hK
   obtain⟨xs,hq,hx⟩:=hg
   obtain⟨its,rv,p,hz⟩:=I.list hq
   obtain⟨f0,f1,f2,f3,f4,f5⟩:=hf it (by simp)
   have hl:=rv.length
   exact wpAny_pyNext_list_end (I.ok.hd hc) st p.isList (by simp;omega) fun h' eb=>⟨rfl,I.turned (t':=s.toks) (fun b o hb e=>eb b o hb e) f0 f1 f3 f4 f5⟩
 self:=fun _ _ _ _ _ st h=>wpAny_pyIter_listiter st h
theorem b1e{P:Program}{w:World}{K:b5h}{tg:Expr}(it:Addr)(lo:Int)(n:Nat):Turn P w K tg (Itr lo n) [it] it (fun i h=>IsRangeIter h it (lo+(i:Nat)*1) ((n:Int) - (i:Nat)) 1) where
 mem:=by simp
 obj:=fun i h st b hb=>by
   have e:b=it:=by simpa using hb
   subst e
   exact⟨_,st,fun v z=>by
     have z':Data.fields _=Data.cell v:=z
     cases z'⟩
 keep:=fun i h h' st k=>k it (by simp) _ st
 item:=by
   intro X hP hw hK hc i pins s σ H E I hf st hg
   subst hP hw hK
   obtain⟨f0,f1,f2,f3,f4,f5⟩:=hf it (by simp)
   have W:=Walks.range (prog:=X.prog) (w:=X.w) (I.ok.hd hc) it lo 1 n
   refine W.item i s _ _ hg st fun v h' tk hv st' kk=>?_
   obtain⟨t,rfl⟩:=hv
   have I1:Inv X pins σ H { s with heap:=h',toks:=tk }:=I.turned (fun b o hb e=>kk b o (by simpa using hb) e) f0 f1 f3 f4 f5
   refine⟨_,rfl,go_of (s:={ s with heap:=h',toks:=tk }) (n := "range_iterator") st' rfl rfl (by decide) ⟨.int (lo+i),H,I1,⟨t,?_⟩,⟨rfl,rfl⟩,st',fun b hb=>(hf b hb).1⟩⟩
   rw[Int.mul_one]
 done:=by
   intro X hP hw hK hc i pins s σ H E I hf st hg
   subst hP hw hK
   obtain⟨f0,f1,f2,f3,f4,f5⟩:=hf it (by simp)
   exact wpAny_pyNext_range_end (I.ok.hd hc) st (by have:n≤i:=hg;omega) fun h' eb=>⟨rfl,I.turned (t':=s.toks) (fun b o hb e=>eb b o hb e) f0 f1 f3 f4 f5⟩
 self:=fun _ _ _ _ _ st h=>wpAny_pyIter_rangeiter st h
end L2
namespace L2
open PySem PySem.Spec PyProof.Rows
section
variable {X:Cx} {tg:Expr}
def iList(K:b5h)(tl:TE):TI:=fun σ H R=>tl σ H fun x H1=>∃ a,x=.ref a∧(∃ xs,SqL K H1 a xs)∧R (Itl K a) H1
theorem pi_list{l:Expr}{tl:TE}(hl:PE X l tl):PI X tg l (iList X.K tl):=by
 intro pins s σ H R I h
 refine thn (hl pins s σ H _ I h) fun v s1 ⟨x,H1,I1,r1,q1⟩=>?_
 obtain⟨a,e,⟨xs,hq⟩,q⟩:=q1
 subst e
 cases r1
 obtain⟨its,rv,p,hz⟩:=I1.list hq
 refine wpAny_pyIter_list p.isList ?_
 refine⟨s1.heap.objs.size,[s1.heap.objs.size],_,_,H1,rfl,I1.kept (t':=s1.toks) fun b o e=>Heap.get?_push_of_some _ e,b2g a _,⟨_,Heap.get?_push_size _ rfl,rfl,rfl⟩,fun b hb=>?_,q⟩
 have e:b=s1.heap.objs.size:=by simpa using hb
 subst e
 exact I1.fpOk (b5n _) (I1.hok.fresh (b5n _))
theorem range_it{pins:List (Addr×Obj)}{σ:St}{H:Hp}{s:Shared}{R:It→Hp→Prop}{E:Value→Shared→Prop}{lo hi:Int}{t u v:Tok}{tk:Nat}(I:Inv X pins σ H s)(h1:-(2^62)≤lo)(h2:lo<2^62)(h3:-(2^62)≤hi)(h4:hi<2^62)(q:R (Itr lo (hi - lo).toNat) H):wpAny (model X.prog X.w) X.A (pyIter (.ref s.heap.objs.size)) (PIE X pins σ tg R) E { s with heap:=s.heap.push { cls:=.type "range",data:=.fields #[.int lo t,.int hi u,.int 1 v] },toks:=tk }:=by
 refine wpAny_pyIter_range (IsRange.new ..) (small_one h1 h2 h3 h4) ?_
 have I1:Inv X pins σ H { s with heap:=s.heap.push { cls:=.type "range",data:=.fields #[.int lo t,.int hi u,.int 1 v] },toks:=tk }:=I.kept fun b o e=>Heap.get?_push_of_some _ e
 refine⟨(s.heap.push { cls:=.type "range",data:=.fields #[.int lo t,.int hi u,.int 1 v] }).objs.size,[(s.heap.push { cls:=.type "range",data:=.fields #[.int lo t,.int hi u,.int 1 v] }).objs.size],_,_,H,rfl,
   I1.kept (t':=tk) fun b o e=>Heap.get?_push_of_some _ e,b1e _ lo (hi - lo).toNat,?_,fun b hb=>?_,q⟩
 · have e1:lo+((0:Nat):Int)*1=lo:=by simp
   have e2:(((hi - lo).toNat:Nat):Int) - ((0:Nat):Int)=Builtin.Range.rangeSize lo hi 1:=by rw[rangeSize_one];split<;>omega
   show IsRangeIter _ _ (lo+((0:Nat):Int)*1) ((((hi - lo).toNat:Nat):Int) - ((0:Nat):Int)) 1
   rw[e1,e2]
   exact Heap.get?_push_size _ rfl
 · have e:b=(s.heap.push { cls:=.type "range",data:=.fields #[.int lo t,.int hi u,.int 1 v] }).objs.size:=by simpa using hb
   subst e
   exact I1.fpOk (b5n _) (I1.hok.fresh (b5n _))
def iRng1(ta:TA):TI:=fun σ H R=>ta σ H fun vs H1=>∃ j:Int,vs=[.int j]∧-(2^62)≤j∧j<2^62∧R (Itr 0 j.toNat) H1
theorem b3i{a:Expr}{ta:TA}{p pos:Pos}(hg:Gl X "range")(hm:X.mg "range" = none)(ha:PA X [a] ta)(hs:starEach [a] X.env=[(false,eval a X.env)]:=by rfl):PI X tg (.Call (.Name "range" p) [a] [] pos) (iRng1 ta):=by
 intro pins s σ H R I h
 refine Call_ (a5q I hg hm boot_range (b6v (thn (ha pos pins s σ H _ I h) fun us s1 ⟨vs,H1,I1,r1,q1⟩=>?_) hs rfl))
 obtain⟨j,e,q1,q2,q⟩:=q1
 subst e
 cases r1 with
 | cons r rr=>
   cases rr
   obtain⟨t,rfl⟩:=r
   exact call_range_1 (range_it I1 (by omega) (by omega) q1 q2 (by simpa using q))
def tFor(wi:TI)(g:TG)(tb:TS):TS:=fun D σ H=>wi σ H fun J H1=>∃ W:Nat→Nat→St→Hp→Prop,(∃ m,W 0 m σ H1)∧∀ i m σ H,W i m σ H→
 (J.stop i H∧D.nx σ H)∨(J.go i H∧∃ N:St→Hp→Prop,(∀ σ' H',N σ' H'→∃ m',m' < m∧W (i+1) m' σ' H')∧∀ x H',J.yld i H x H'→g x σ H' fun σ2 H2=>tb { D with nx:=N,ct:=N,bk:=D.nx } σ2 H2)
def a6m(fp:List Addr)(h:Heap):List (Addr×Obj):=fp.filterMap fun b=>(h.get? b).map fun o=>(b,o)
theorem a1o{fp:List Addr}{h:Heap}{b:Addr}{o:Obj}(hb:b∈fp)(e:h.get? b=some o):(b,o)∈a6m fp h:=List.mem_filterMap.mpr ⟨b,hb,by rw[e];rfl⟩
theorem b3s{fp:List Addr}{h:Heap}{p:Addr×Obj}(hp:p∈a6m fp h):p.1∈fp∧h.get? p.1=some p.2:=by
 obtain⟨b,hb,e⟩:=List.mem_filterMap.mp hp
 cases q:h.get? b with
 | none=>rw[q] at e;cases e
 | some o=>
   rw[q] at e
   have e':(b,o)=p:=b6l.inj e
   subst e'
   exact⟨hb,q⟩
theorem Inv.pinned{pins:List (Addr×Obj)}{σ:St}{H:Hp}{s:Shared}{fp:List Addr}(I:Inv X pins σ H s)(hf:∀ b∈fp,FpOk X pins H b)(ho:∀ b∈fp,∃ o,s.heap.get? b=some o∧∀ v,o.data≠.cell v):Inv X (pins++a6m fp s.heap) σ H s:=
 I.pins_of fun p hp=>(b6n.mp hp).elim (fun z=>I.pin p (b5m _ z)) fun z=>by
   obtain⟨hb,e⟩:=b3s z
   obtain⟨f0,f1,f2,_⟩:=hf p.1 hb
   obtain⟨o,e',d⟩:=ho p.1 hb
   rw[e] at e';cases e'
   exact⟨e,f0,f1,f2,d⟩
theorem Inv.unpinned{pins pl:List (Addr×Obj)}{σ:St}{H:Hp}{s:Shared}(I:Inv X (pins++pl) σ H s):Inv X pins σ H s:=I.pins_of fun p hp=>I.pin p (b5m _ (List.mem_append_left _ hp))
theorem ps_for{iter:Expr}{body:List Stmt}{wi:TI}{g:TG}{tb:TS}{pos:Pos}(hp:PassesOwn (model X.prog X.w) X.A X.env X.xe)(hc:X.calm=true)(hi:PI X tg iter wi)(hg:PG X tg g)(hb:PSs X body tb)(hs:∀ x,foldedSetIterable iter X.env x=pure x:=by intro _;rfl):PS X (.For tg iter body [] pos) (tFor wi g tb):=by
 intro pins s σ H D I h
 refine wpAny_For (thn (hi pins s σ H _ I h) fun v s1 h1=>thn h1 fun itv s2 h2=>?_) hs
 obtain⟨it,fp,tn,J,H2,e,I2,T,st2,f2,W,⟨m0,w0⟩,turn⟩:=h2
 subst e
 have stat:∀ {H':Hp},(∀ b∈fp,H' b=none)→∀ b∈fp,FpOk X pins H' b:=fun hn b hb=>⟨hn b hb,(f2 b hb).2⟩
 refine codeAny_forLoop_any (fun n s'=>∃ i σ' H',Inv X pins σ' H' s'∧tn i s'.heap∧(∀ b∈fp,H' b=none)∧W i n σ' H') ?_ m0 ⟨0,σ,H2,I2,st2,fun b hb=>(f2 b hb).1,w0⟩
 rintro n s3 ⟨i,σ3,H3,I3,st3,fr3,w3⟩
 rcases turn i n σ3 H3 w3 with⟨stop,qn⟩ | ⟨go,N,hN,step⟩
 · refine wpAny_passesOwn hp (thn (T.done X rfl rfl rfl hc i pins s3 σ3 H3 X.xe I3 (stat fr3) st3 stop) fun r s4 ⟨hr,I4⟩=>?_)
   subst hr
   exact wpAny_execs_nil ⟨σ3,H3,I4,qn⟩
 · refine wpAny_passesOwn hp (thn (T.item X rfl rfl rfl hc i pins s3 σ3 H3 X.xe I3 (stat fr3) st3 go) fun r s4 ⟨u,hr,h4⟩=>?_)
   subst hr
   refine wpAny_passesOwn hp (thn h4 fun _ s5 ⟨x,H5,I5,r5,y5,st5,fr5⟩=>?_)
   have I5':=I5.pinned (stat fr5) (T.obj _ _ st5)
   refine wpAny_passesOwn hp (thn (hg _ s5 σ3 H5 x u _ I5' r5 (step x H5 y5)) fun _ s6 ⟨σ6,H6,I6,q6⟩=>?_)
   refine wpAny_passesOwn hp (thn (hb _ s6 σ6 H6 _ I6 q6) fun f s7 q7=>?_)
   have again:∀ {σ7:St} {H7:Hp},Inv X (pins++a6m fp s5.heap) σ7 H7 s7→N σ7 H7→∃ m,m<n∧∃ i σ' H',Inv X pins σ' H' s7∧tn i s7.heap∧(∀ b∈fp,H' b=none)∧W i m σ' H':=fun {σ7 H7} I7 n7=>by
     obtain⟨m',hm,w7⟩:=hN σ7 H7 n7
     refine⟨m',hm,i+1,σ7,H7,I7.unpinned,T.keep _ _ _ st5 fun b hb o e=>(I7.pin (b,o) (b5m _ (b5m _ (a1o hb e)))).1,fun b hb=>?_,w7⟩
     obtain⟨o,e,d⟩:=T.obj _ _ st5 b hb
     exact (I7.pin (b,o) (b5m _ (b5m _ (a1o hb e)))).2.1
   cases f with
   | next=>obtain⟨σ7,H7,I7,n7⟩:=q7;exact again I7 n7
   | cont=>obtain⟨σ7,H7,I7,n7⟩:=q7;exact again I7 n7
   | brk=>obtain⟨σ7,H7,I7,q7⟩:=q7;exact⟨σ7,H7,I7.unpinned,q7⟩
   | ret v=>obtain⟨x7,σ7,H7,I7,r7,q7⟩:=q7;exact⟨x7,σ7,H7,I7.unpinned,r7,q7⟩
end
theorem a5e{K:b5h}{a:Addr}{xs:List V}{g:TG}{tb:TS}{D:Ends}{σ:St}{H:Hp}(Pv:Nat→St→Hp→Prop)(h0:Pv 0 σ H)(hl:∀ i σ H,i≤xs.length→Pv i σ H→SqL K H a xs)(hs:∀ i x σ H,xs[i]?=some x→Pv i σ H→g x σ H fun σ2 H2=>tb { D with nx:=Pv (i+1),ct:=Pv (i+1),bk:=D.nx } σ2 H2)(hd:∀ σ H,Pv xs.length σ H→D.nx σ H) :
   ∃ W:Nat→Nat→St→Hp→Prop,(∃ m,W 0 m σ H)∧∀ i m σ H,W i m σ H→
     ((Itl K a).stop i H∧D.nx σ H)∨((Itl K a).go i H∧∃ N:St→Hp→Prop,(∀ σ' H',N σ' H'→∃ m',m' < m∧W (i+1) m' σ' H')∧∀ x H',(Itl K a).yld i H x H'→g x σ H' fun σ2 H2=>tb { D with nx:=N,ct:=N,bk:=D.nx } σ2 H2):=by
 refine⟨fun i m σ H=>m=xs.length - i∧i≤xs.length∧Pv i σ H,⟨xs.length,by simp,b7b _,h0⟩,?_⟩
 rintro i m σ H ⟨rfl,hi,p⟩
 have q:=hl i σ H hi p
 by_cases hlt:i<xs.length
 · refine .inr ⟨⟨xs,xs[i],q,by simp[hlt]⟩,Pv (i+1),fun σ' H' p'=>⟨xs.length - (i+1),by omega,rfl,hlt,p'⟩,fun x H' y=>?_⟩
   obtain⟨e,y⟩:=y
   subst e
   exact hs i x σ _ (y xs q) p
 · have e:i=xs.length:=by omega
   subst e
   exact .inl ⟨⟨xs,q,b5n _⟩,hd σ H p⟩
theorem a4d{lo:Int}{n:Nat}{g:TG}{tb:TS}{D:Ends}{σ:St}{H:Hp}(Pv:Nat→St→Hp→Prop)(h0:Pv 0 σ H)(hs:∀ i σ H,i<n→Pv i σ H→g (.int (lo+i)) σ H fun σ2 H2=>tb { D with nx:=Pv (i+1),ct:=Pv (i+1),bk:=D.nx } σ2 H2)(hd:∀ σ H,Pv n σ H→D.nx σ H) :
   ∃ W:Nat→Nat→St→Hp→Prop,(∃ m,W 0 m σ H)∧∀ i m σ H,W i m σ H→
     ((Itr lo n).stop i H∧D.nx σ H)∨((Itr lo n).go i H∧∃ N:St→Hp→Prop,(∀ σ' H',N σ' H'→∃ m',m' < m∧W (i+1) m' σ' H')∧∀ x H',(Itr lo n).yld i H x H'→g x σ H' fun σ2 H2=>tb { D with nx:=N,ct:=N,bk:=D.nx } σ2 H2):=by
 refine⟨fun i m σ H=>m=n - i∧i≤n∧Pv i σ H,⟨n,by simp,b7b _,h0⟩,?_⟩
 rintro i m σ H ⟨rfl,hi,p⟩
 by_cases hlt:i<n
 · refine .inr ⟨hlt,Pv (i+1),fun σ' H' p'=>⟨n - (i+1),by omega,rfl,hlt,p'⟩,fun x H' y=>?_⟩
   obtain⟨e,y⟩:=y
   subst e y
   exact hs i σ _ hlt p
 · have e:i=n:=by omega
   subst e
   exact .inl ⟨b5n _,hd σ H p⟩
theorem a6s{c:TT}{tb:TS}{D:Ends}{σ:St}{H:Hp}(Pv:St→Hp→Prop)(μ:St→Hp→Nat)(h0:Pv σ H)(hs:∀ σ H,Pv σ H→c σ H fun b H1=>if b=true then tb { D with nx:=fun σ' H'=>Pv σ' H'∧μ σ' H' < μ σ H,ct:=fun σ' H'=>Pv σ' H'∧μ σ' H' < μ σ H,bk:=D.nx } σ H1 else D.nx σ H1)(mono:∀ σ H Q Q',(∀ b H1,Q b H1→Q' b H1)→c σ H Q→c σ H Q'):b2k c tb D σ H:=by
 refine⟨fun m σ H=>m=μ σ H∧Pv σ H,⟨_,rfl,h0⟩,?_⟩
 rintro m σ H ⟨rfl,p⟩
 refine mono σ H _ _ (fun b H1 q=>?_) (hs σ H p)
 cases b with
 | true=>exact⟨_,fun σ' H' ⟨p',l⟩=>⟨_,l,rfl,p'⟩,q⟩
 | false=>exact q
end L2
namespace L2
open PySem PySem.Spec PyProof.Rows
abbrev R2:=V→V→Hp→VK→Prop
def OpR(X:Cx)(f:Value→Value→Sem Value)(r:R2):Prop:=
 ∀ (pins:List (Addr×Obj)) (s:Shared) (σ:St) (H:Hp) (x y:V) (v u:Value) (Q:VK),Inv X pins σ H s→RelV x v→RelV y u→r x y H Q→
   wpAny (model X.prog X.w) X.A (f v u) (EP X pins σ Q) X.xe s
def UnR(X:Cx)(f:Value→Sem Value)(r:V→Hp→VK→Prop):Prop:=
 ∀ (pins:List (Addr×Obj)) (s:Shared) (σ:St) (H:Hp) (x:V) (v:Value) (Q:VK),Inv X pins σ H s→RelV x v→r x H Q→
   wpAny (model X.prog X.w) X.A (f v) (EP X pins σ Q) X.xe s
def a2k(X:Cx)(f:Value)(r:List V→Hp→VK→Prop):Prop:=
 ∀ (pins:List (Addr×Obj)) (s:Shared) (σ:St) (H:Hp) (xs:List V) (us:List Value) (Q:VK),Inv X pins σ H s→Vals xs us→r xs H Q→
   wpAny (model X.prog X.w) X.A (call f us) (EP X pins σ Q) X.xe s
def tOp(r:R2)(ta tb:TE):TE:=fun σ H Q=>ta σ H fun x H1=>tb σ H1 fun y H2=>r x y H2 Q
def tUn(r:V→Hp→VK→Prop)(ta:TE):TE:=fun σ H Q=>ta σ H fun x H1=>r x H1 Q
def rI(C:Int→Int→Prop)(g:Int→Int→V):R2:=fun x y H Q=>∃ i j,x=.int i∧y=.int j∧C i j∧Q (g i j) H
def rI0(g:Int→Int→V):R2:=fun x y H Q=>∃ i j,x=.int i∧y=.int j∧Q (g i j) H
def rU(g:Int→V):V→Hp→VK→Prop:=fun x H Q=>∃ i,x=.int i∧Q (g i) H
section
variable {X:Cx} {a b c:Expr} {ta tb tc:TE} {pos:Pos}
theorem binT(ha:PE X a ta)(hb:PE X b tb){pins:List (Addr×Obj)}{s:Shared}{σ:St}{H:Hp}{R:V→V→Hp→Prop}(I:Inv X pins σ H s)(h:ta σ H fun x H1=>tb σ H1 fun y H2=>R x y H2){Q:Value→Shared→Prop}{f:Value→Value→Sem Value}(hf:∀ v u s2 x y H2,Inv X pins σ H2 s2→RelV x v→RelV y u→R x y H2→wpAny (model X.prog X.w) X.A (f v u) Q X.xe s2) :
   wpAny (model X.prog X.w) X.A (eval a X.env) (fun v s₁=>wpAny (model X.prog X.w) X.A (eval b X.env) (fun u s₂=>wpAny (model X.prog X.w) X.A (f v u) Q X.xe s₂) X.xe s₁) X.xe s:=by
 refine thn (ha pins s σ H _ I h) fun v s1 ⟨x,H1,I1,r1,q1⟩=>?_
 refine thn (hb pins s1 σ H1 _ I1 q1) fun u s2 ⟨y,H2,I2,r2,q2⟩=>?_
 exact hf v u s2 x y H2 I2 r1 r2 q2
theorem pe_op{op:Operator}{r:R2}(ho:OpR X (binaryOp op) r)(ha:PE X a ta)(hb:PE X b tb):PE X (.BinOp a op b pos) (tOp r ta tb):=by
 intro pins s σ H Q I h
 exact wpAny_BinOp (binT ha hb I h fun v u s2 x y H2 I2 rx ry q=>ho pins s2 σ H2 x y v u Q I2 rx ry q)
theorem pe_un{op:UnaryOp}{r:V→Hp→VK→Prop}(ho:UnR X (unaryOp op) r)(ha:PE X a ta):PE X (.UnaryOp op a pos) (tUn r ta):=by
 intro pins s σ H Q I h
 exact UnaryOp_ (thn (ha pins s σ H _ I h) fun v s1 ⟨x,H1,I1,r1,q1⟩=>ho pins s1 σ H1 x v Q I1 r1 q1)
theorem opI{f:Value→Value→Sem Value}{C:Int→Int→Prop}{g:Int→Int→Int}(rule:∀ (i j:Int) (t u:Tok) (s:Shared) (Q:Value→Shared→Prop) (E:Value→Shared→Prop),C i j→Q (.int (g i j) s.toks) { s with toks:=s.toks+1 }→wpAny (model X.prog X.w) X.A (f (.int i t) (.int j u)) Q E s) :
   OpR X f (rI C fun i j=>.int (g i j)):=by
 intro pins s σ H x y v u Q I rx ry h
 obtain⟨i,j,rfl,rfl,hc,q⟩:=h
 obtain⟨t,rfl⟩:=rx
 obtain⟨t',rfl⟩:=ry
 exact rule i j t t' s _ _ hc ⟨.int (g i j),H,I.tok _,⟨_,rfl⟩,q⟩
theorem opI0{f:Value→Value→Sem Value}{g:Int→Int→Int}(rule:∀ (i j:Int) (t u:Tok) (s:Shared) (Q:Value→Shared→Prop) (E:Value→Shared→Prop),Q (.int (g i j) s.toks) { s with toks:=s.toks+1 }→wpAny (model X.prog X.w) X.A (f (.int i t) (.int j u)) Q E s) :
   OpR X f (rI0 fun i j=>.int (g i j)):=by
 intro pins s σ H x y v u Q I rx ry h
 obtain⟨i,j,rfl,rfl,q⟩:=h
 obtain⟨t,rfl⟩:=rx
 obtain⟨t',rfl⟩:=ry
 exact rule i j t t' s _ _ ⟨.int (g i j),H,I.tok _,⟨_,rfl⟩,q⟩
theorem opB0{f:Value→Value→Sem Value}{g:Int→Int→Bool}(rule:∀ (i j:Int) (t u:Tok) (s:Shared) (Q:Value→Shared→Prop) (E:Value→Shared→Prop),Q (.bool (g i j)) s→wpAny (model X.prog X.w) X.A (f (.int i t) (.int j u)) Q E s) :
   OpR X f (rI0 fun i j=>.bl (g i j)):=by
 intro pins s σ H x y v u Q I rx ry h
 obtain⟨i,j,rfl,rfl,q⟩:=h
 obtain⟨t,rfl⟩:=rx
 obtain⟨t',rfl⟩:=ry
 exact rule i j t t' s _ _ ⟨.bl (g i j),H,I,rfl,q⟩
def CDiv(i j:Int):Prop:=0<j∧j<1073741824
def CPow(i j:Int):Prop:=0≤j∧j≤1000000∧i.natAbs<2^64
def CMul(i j:Int):Prop:=(-(2^64)<i∧i<2^64)∨(-(2^64)<j∧j<2^64)
theorem CMul.ok{i j:Int}(h:CMul i j):IntMulOk i j:=by
 rcases h with⟨h1,h2⟩ | ⟨h1,h2⟩
 · exact .of_left (intBits_le_64 h1 h2)
 · exact .of_right (intBits_le_64 h1 h2)
theorem a2i:OpR X (binaryOp .Add) (rI0 fun i j=>.int (i+j)):=opI0 fun _ _ _ _ _ _ _ q=>add_int q
theorem a1h:OpR X (binaryOp .Sub) (rI0 fun i j=>.int (i - j)):=opI0 fun _ _ _ _ _ _ _ q=>sub_int q
theorem b3p:OpR X (binaryOp .FloorDiv) (rI CDiv fun i j=>.int (i / j)):=opI fun i j _ _ _ _ _ hc q=>by
 have h1:(0:Int)<j:=hc.1
 have h2:j<1073741824:=hc.2
 exact floordiv_int (by omega) (by rw[b6g i (by omega)];exact q) (.inl (PyProof.noPylong_small (by omega)))
theorem a1d:OpR X (binaryOp .Mod) (rI (fun _ j=>0<j) fun i j=>.int (i % j)):=opI fun i j _ _ _ _ _ hc q=>by
 have h1:(0:Int)<j:=hc
 exact mod_int' (by omega) (by rw[Int.fmod_eq_emod_of_nonneg i (by omega)];exact q)
theorem op_modN:OpR X (binaryOp .Mod) (rI (fun _ j=>j≠0) fun i j=>.int (i.fmod j)):=opI fun _ _ _ _ _ _ _ hc q=>mod_int' hc q
theorem a5n:OpR X (binaryOp .Pow) (rI CPow fun i j=>.int (i^j.toNat)):=opI fun _ _ _ _ _ _ _ hc q=>pow_int_small hc.1 hc.2.1 hc.2.2 q
theorem unI{f:Value→Sem Value}{g:Int→Int}(rule:∀ (i:Int) (t:Tok) (s:Shared) (Q:Value→Shared→Prop) (E:Value→Shared→Prop),Q (.int (g i) s.toks) { s with toks:=s.toks+1 }→wpAny (model X.prog X.w) X.A (f (.int i t)) Q E s) :
   UnR X f (rU fun i=>.int (g i)):=by
 intro pins s σ H x v Q I rx h
 obtain⟨i,rfl,q⟩:=h
 obtain⟨t,rfl⟩:=rx
 exact rule i t s _ _ ⟨.int (g i),H,I.tok _,⟨_,rfl⟩,q⟩
theorem b0g:UnR X (unaryOp .USub) (rU fun i=>.int (-i)):=unI fun _ _ _ _ _ q=>neg_int q
end
def scal:V→V→Bool
 | .non,.non=>true | .non,.int _=>true | .int _,.non=>true | .non,.bl _=>true | .bl _,.non=>true | .non,.str _=>true | .str _,.non=>true
 | .int _,.int _=>true | .bl _,.bl _=>true | .str _,.str _=>true | .byt _,.byt _=>true
 | .int _,.str _=>true | .str _,.int _=>true | .bl _,.str _=>true | .str _,.bl _=>true
 | _,_=>false
def rEq:R2:=fun x y H Q=>scal x y=true∧Q (.bl (decide (x=y))) H
def rNe:R2:=fun x y H Q=>scal x y=true∧Q (.bl (!decide (x=y))) H
theorem b4l{i j:Int}:decide (V.int i=V.int j)=(i == j):=by
 rw[b7u]
 simp
theorem dec_bl{i j:Bool}:decide (V.bl i=V.bl j)=(i == j):=by
 rw[b7u]
 simp
theorem b4k{i j:Str}:decide (V.str i=V.str j)=(i == j):=by
 rw[b7u]
 simp
theorem b4m{i j:Array UInt8}:decide (V.byt i=V.byt j)=(i.toList == j.toList):=by
 rw[b7u]
 cases i
 cases j
 simp
section
variable {X:Cx} {a b c:Expr} {ta tb tc:TE} {pos:Pos}
theorem a1a{pins:List (Addr×Obj)}{σ:St}{H:Hp}{s:Shared}{Q:VK}{k k':Bool}(I:Inv X pins σ H s)(q:Q (.bl k) H)(e:k=k'):EP X pins σ Q (.bool k') s:=by
 subst e
 exact⟨.bl k,H,I,rfl,q⟩
theorem a4l:OpR X (compareOp .Eq) rEq:=by
 intro pins s σ H x y v u Q I rx ry h
 obtain⟨hs,q⟩:=h
 cases x with
 | non=>
   cases rx
   cases y with
   | non=>cases ry;exact PySem.EqNone.eq_none_none (a1a I q (by simp))
   | bl j=>cases ry;exact PySem.EqNone.eq_none_bool (a1a I q (by simp))
   | int j=>obtain⟨t',rfl⟩:=ry;exact PySem.EqNone.eq_none_int (a1a I q (by simp))
   | str j=>obtain⟨t',rfl⟩:=ry;exact PySem.EqNone.eq_none_str (a1a I q (by simp))
   | _=>exact absurd (show false=true from hs) b5r
 | bl i=>
   cases rx
   cases y with
   | non=>cases ry;exact PySem.EqNone.eq_bool_none (a1a I q (by simp))
   | bl j=>cases ry;exact eq_bool (a1a I q dec_bl)
   | str j=>obtain⟨t',rfl⟩:=ry;exact PySem.EqMixed.eq_bool_str (a1a I q (by simp))
   | _=>exact absurd (show false=true from hs) b5r
 | int i=>
   obtain⟨t,rfl⟩:=rx
   cases y with
   | non=>cases ry;exact PySem.EqNone.eq_int_none (a1a I q (by simp))
   | int j=>obtain⟨t',rfl⟩:=ry;exact eq_int (a1a I q b4l)
   | str j=>obtain⟨t',rfl⟩:=ry;exact PySem.EqMixed.eq_int_str (a1a I q (by simp))
   | _=>exact absurd (show false=true from hs) b5r
 | str i=>
   obtain⟨t,rfl⟩:=rx
   cases y with
   | non=>cases ry;exact PySem.EqNone.eq_str_none (a1a I q (by simp))
   | bl j=>cases ry;exact PySem.EqMixed.eq_str_bool (a1a I q (by simp))
   | int j=>obtain⟨t',rfl⟩:=ry;exact PySem.EqMixed.eq_str_int (a1a I q (by simp))
   | str j=>obtain⟨t',rfl⟩:=ry;exact eq_str (a1a I q b4k)
   | _=>exact absurd (show false=true from hs) b5r
 | byt i=>
   obtain⟨t,rfl⟩:=rx
   cases y with
   | byt j=>obtain⟨t',rfl⟩:=ry;exact PySem.W.eq_bytes (a1a I q b4m)
   | _=>exact absurd (show false=true from hs) b5r
 | _=>cases y<;>exact absurd (show false=true from hs) b5r
theorem op_ne:OpR X (compareOp .NotEq) rNe:=by
 intro pins s σ H x y v u Q I rx ry h
 obtain⟨hs,q⟩:=h
 cases x with
 | non=>
   cases rx
   cases y with
   | non=>cases ry;exact PySem.EqNone.ne_none_none (a1a I q (by simp))
   | bl j=>cases ry;exact PySem.EqNone.ne_none_bool (a1a I q (by simp))
   | int j=>obtain⟨t',rfl⟩:=ry;exact PySem.EqNone.ne_none_int (a1a I q (by simp))
   | str j=>obtain⟨t',rfl⟩:=ry;exact PySem.EqNone.ne_none_str (a1a I q (by simp))
   | _=>exact absurd (show false=true from hs) b5r
 | bl i=>
   cases rx
   cases y with
   | non=>cases ry;exact PySem.EqNone.ne_bool_none (a1a I q (by simp))
   | bl j=>cases ry;exact ne_bool (a1a I q (congrArg not dec_bl))
   | str j=>obtain⟨t',rfl⟩:=ry;exact PySem.EqMixed.ne_bool_str (a1a I q (by simp))
   | _=>exact absurd (show false=true from hs) b5r
 | int i=>
   obtain⟨t,rfl⟩:=rx
   cases y with
   | non=>cases ry;exact PySem.EqNone.ne_int_none (a1a I q (by simp))
   | int j=>obtain⟨t',rfl⟩:=ry;exact ne_int (a1a I q (congrArg not b4l))
   | str j=>obtain⟨t',rfl⟩:=ry;exact PySem.EqMixed.ne_int_str (a1a I q (by simp))
   | _=>exact absurd (show false=true from hs) b5r
 | str i=>
   obtain⟨t,rfl⟩:=rx
   cases y with
   | non=>cases ry;exact PySem.EqNone.ne_str_none (a1a I q (by simp))
   | bl j=>cases ry;exact PySem.EqMixed.ne_str_bool (a1a I q (by simp))
   | int j=>obtain⟨t',rfl⟩:=ry;exact PySem.EqMixed.ne_str_int (a1a I q (by simp))
   | str j=>obtain⟨t',rfl⟩:=ry;exact ne_str (a1a I q (congrArg not b4k))
   | _=>exact absurd (show false=true from hs) b5r
 | byt i=>
   obtain⟨t,rfl⟩:=rx
   cases y with
   | byt j=>obtain⟨t',rfl⟩:=ry;exact PySem.W.ne_bytes (a1a I q (congrArg not b4m))
   | _=>exact absurd (show false=true from hs) b5r
 | _=>cases y<;>exact absurd (show false=true from hs) b5r
theorem op_lt:OpR X (compareOp .Lt) (rI0 fun i j=>.bl (decide (i<j))):=opB0 fun _ _ _ _ _ _ _ q=>lt_int q
theorem op_le:OpR X (compareOp .LtE) (rI0 fun i j=>.bl (decide (i≤j))):=opB0 fun _ _ _ _ _ _ _ q=>le_int q
theorem op_gt:OpR X (compareOp .Gt) (rI0 fun i j=>.bl (decide (j<i))):=opB0 fun _ _ _ _ _ _ _ q=>gt_int q
theorem op_ge:OpR X (compareOp .GtE) (rI0 fun i j=>.bl (decide (j≤i))):=opB0 fun _ _ _ _ _ _ _ q=>ge_int q
theorem a1e(b:Expr){op:CmpOp}(h:op≠.In:=by decide)(h2:op≠.NotIn:=by decide):behindInMarks op b=false:=by
 have e1:(op == CmpOp.In)=false:=by cases op<;>first | rfl | exact absurd rfl h
 have e2:(op == CmpOp.NotIn)=false:=by cases op<;>first | rfl | exact absurd rfl h2
 cases b<;>simp[behindInMarks,e1,e2]
theorem pe_cmpR{op:CmpOp}{r:R2}(ho:OpR X (compareOp op) r)(ha:PE X a ta)(hb:PE X b tb)(hm:behindInMarks op b=false):PE X (.Compare a [op] [b] pos) (tOp r ta tb):=by
 intro pins s σ H Q I h
 exact wpAny_Compare1 (binT ha hb I h fun v u s2 x y H2 I2 rx ry q=>ho pins s2 σ H2 x y v u Q I2 rx ry q) hm
def tTest(t:TE):TT:=fun σ H Q=>t σ H fun x H'=>∃ k,x=.bl k∧Q k H'
theorem pt_cmpR{op:CmpOp}{r:R2}(ho:OpR X (compareOp op) r)(ha:PE X a ta)(hb:PE X b tb)(hm:behindInMarks op b=false):PT X (.Compare a [op] [b] pos) (tTest (tOp r ta tb)):=by
 intro pins s σ H Q I h
 refine wpAny_isTrue_Compare1 (thn (ha pins s σ H _ I h) fun v s1 ⟨x,H1,I1,r1,q1⟩=>thn (hb pins s1 σ H1 _ I1 q1) fun u s2 ⟨y,H2,I2,r2,q2⟩=>
   thn (ho pins s2 σ H2 x y v u _ I2 r1 r2 q2) fun c s3 ⟨z,H3,I3,r3,k,e,q3⟩=>?_) hm
 subst e
 cases r3
 exact wpAny_truthy_bool ⟨H3,I3,q3⟩
def b0h(r r':R2)(ta tb tc:TE):TE:=fun σ H Q=>ta σ H fun x H1=>tb σ H1 fun y H2=>r x y H2 fun z H3=>∃ k,z=.bl k∧
 (if k=true then tc σ H3 fun w' H4=>r' y w' H4 Q else Q (.bl false) H3)
theorem pe_chain{op op':CmpOp}{r r':R2}(ho:OpR X (compareOp op) r)(ho':OpR X (compareOp op') r')(ha:PE X a ta)(hb:PE X b tb)(hc:PE X c tc)(hm:lastMarks [op,op'] [b,c]=false:=by with_unfolding_all rfl):PE X (.Compare a [op,op'] [b,c] pos) (b0h r r' ta tb tc):=by
 intro pins s σ H Q I h
 refine Compare_chain (thn (ha pins s σ H _ I h) fun v s1 ⟨x,H1,I1,r1,q1⟩=>chain_link (thn (hb pins s1 σ H1 _ I1 q1) fun u s2 ⟨y,H2,I2,r2,q2⟩=>
   thn (ho pins s2 σ H2 x y v u _ I2 r1 r2 q2) fun d s3 ⟨z,H3,I3,r3,k,e,q3⟩=>?_)) hm
 subst e
 cases r3
 refine wpAny_truthy_bool ?_
 cases k with
 | false=>exact ite_ff ⟨.bl false,H3,I3,rfl,q3⟩
 | true=>exact ite_tt (chain_last (thn (hc pins s3 σ H3 _ I3 q3) fun w' s4 ⟨z',H4,I4,r4,q4⟩=>ho' pins s4 σ H4 y z' u w' Q I4 r2 r4 q4))
theorem pt_chain{op op':CmpOp}{r r':R2}(ho:OpR X (compareOp op) r)(ho':OpR X (compareOp op') r')(ha:PE X a ta)(hb:PE X b tb)(hc:PE X c tc)(hm:lastMarks [op,op'] [b,c]=false:=by with_unfolding_all rfl):PT X (.Compare a [op,op'] [b,c] pos) (tTest (b0h r r' ta tb tc)):=by
 intro pins s σ H Q I h
 refine isTrue_chain (thn (ha pins s σ H _ I h) fun v s1 ⟨x,H1,I1,r1,q1⟩=>test_link (thn (hb pins s1 σ H1 _ I1 q1) fun u s2 ⟨y,H2,I2,r2,q2⟩=>
   thn (ho pins s2 σ H2 x y v u _ I2 r1 r2 q2) fun d s3 ⟨z,H3,I3,r3,k,e,q3⟩=>?_)) hm
 subst e
 cases r3
 refine wpAny_truthy_bool ?_
 cases k with
 | false=>
   obtain⟨k',e',q'⟩:=q3
   cases e'
   exact ite_ff ⟨H3,I3,q'⟩
 | true=>
   refine ite_tt (test_last (thn (hc pins s3 σ H3 _ I3 q3) fun w' s4 ⟨z',H4,I4,r4,q4⟩=>thn (ho' pins s4 σ H4 y z' u w' _ I4 r2 r4 q4) fun d' s5 ⟨z2,H5,I5,r5,k2,e2,q5⟩=>?_))
   subst e2
   cases r5
   exact wpAny_truthy_bool ⟨H5,I5,q5⟩
theorem b0v:(sizeLine:Nat)<2^63:=by rw[sizeLine_eq];decide
theorem vals1{x:V}{us:List Value}(r:Vals [x] us):∃ u,us=[u]∧RelV x u:=by
 cases r with
 | cons r1 r2=>cases r2;exact⟨_,rfl,r1⟩
theorem vals2{x y:V}{us:List Value}(r:Vals [x,y] us):∃ u w',us=[u,w']∧RelV x u∧RelV y w':=by
 cases r with
 | cons r1 r2=>
   cases r2 with
   | cons r3 r4=>cases r4;exact⟨_,_,rfl,r1,r3⟩
theorem b1b:a2k X (.builtin "abs") (fun xs H Q=>∃ i,xs=[.int i]∧Q (.int (if i<0 then -i else i)) H):=by
 intro pins s σ H xs us Q I r h
 obtain⟨i,rfl,q⟩:=h
 obtain⟨u,rfl,t,rfl⟩:=vals1 r
 exact call_abs_int fun u tk=>⟨.int (if i<0 then -i else i),H,I.tok _,⟨_,rfl⟩,q⟩
theorem a8x(hc:X.calm=true):a2k X (.builtin "max") (fun xs H Q=>∃ i j,xs=[.int i,.int j]∧Q (.int (if j > i then j else i)) H):=by
 intro pins s σ H xs us Q I r h
 obtain⟨i,j,rfl,q⟩:=h
 obtain⟨u,w',rfl,⟨t,rfl⟩,⟨t',rfl⟩⟩:=vals2 r
 refine max_two_ints (I.ok.hd hc) fun h' tk k=>⟨_,H,I.kept k,?_,q⟩
 by_cases hj:j > i
 · rw[if_pos hj,if_pos hj];exact⟨_,rfl⟩
 · rw[if_neg hj,if_neg hj];exact⟨_,rfl⟩
theorem b4t(hc:X.calm=true):a2k X (.builtin "min") (fun xs H Q=>∃ i j,xs=[.int i,.int j]∧Q (.int (if j<i then j else i)) H):=by
 intro pins s σ H xs us Q I r h
 obtain⟨i,j,rfl,q⟩:=h
 obtain⟨u,w',rfl,⟨t,rfl⟩,⟨t',rfl⟩⟩:=vals2 r
 refine min_two_ints (I.ok.hd hc) fun h' tk k=>⟨_,H,I.kept k,?_,q⟩
 by_cases hj:j<i
 · rw[if_pos hj,if_pos hj];exact⟨_,rfl⟩
 · rw[if_neg hj,if_neg hj];exact⟨_,rfl⟩
end
end L2
namespace L2
open PySem PySem.Spec PyProof.Rows
structure ObjM(h:Heap)(x dx C:Addr)(mA:Str→Option Value):Prop where
 obj:h.get? x=some (PySem.W.instObj C dx)
 ns:h.Ns1 dx mA
 ne:dx≠x
theorem b3v{h:Heap}{dx:Addr}{mA:Str→Option Value}(n:h.Ns1 dx mA):∃ od,h.get? dx=some od∧∀ name,PySem.W.lookIn name od=some (mA name):=by
 obtain⟨o,es,ep,ho,hd,hk,_,hm⟩:=n
 refine⟨o,ho,fun name=>?_⟩
 have e:=hm name
 unfold nsFind findBy at e
 rw[← Array.find?_toList] at e
 unfold PySem.W.lookIn
 rw[hd]
 dsimp only
 split
 · rename_i y q
   rw[q] at e
   exact congrArg some e
 · rename_i q
   rw[q] at e
   have a:es.toList.any (·.refKey)=false:=by
     rw[List.any_eq_false]
     intro y hy
     obtain⟨z,t,hkey⟩:=hk y (Array.mem_toList_iff.mp hy)
     simp[DictEntry.refKey,hkey]
   have a':¬ es.toList.any (·.refKey)=true:=by rw[a];exact b5r
   rw[if_neg a']
   exact congrArg some e
theorem ObjM.look{h:Heap}{x dx C:Addr}{mA:Str→Option Value}(I:ObjM h x dx C mA):∃ od,PySem.W.InstAt h x (PySem.W.instObj C dx) C (some od)∧∀ name,PySem.W.lookIn name od=some (mA name):=
 let ⟨od,ho,hl⟩:=b3v I.ns
 ⟨od,⟨I.obj,rfl,rfl,ho⟩,hl⟩
section
variable {P:Program} {w:World} {H H':Hp} {h h':Heap} {a C dx:Addr} {fs fs':List (Str×V)}
theorem ins_get(hok:HOk P w H h)(e:H a=some (.ins C dx fs)):∃ mA,ObjM h a dx C mA∧(∀ f,RelO (fs.lookup f) (mA f))∧PySem.Within mA (fs.map (·.1))∧fs.length≤1000∧H dx=some (.own a):=by
 obtain⟨d,z,ne,ob,mA,n,r,q⟩:=(show a1s P w H h a (.ins C dx fs) from hok a _ e)
 exact⟨mA,⟨ob,n,ne⟩,r,q,z,d⟩
end
structure Cls(K:b5h)(C:Addr):Prop where
 pg:PySem.W.plainGet K C Str.empty=true
 hd:PySem.W.hasDictIn K C=true
 po:PySem.W.plainOver K C=true
 sa:PySem.W.findIn K (.ref C) "__setattr__" = some (some (.builtin "object.__setattr__"))
theorem Cls.get{K:b5h}{C:Addr}(c:Cls K C)(f:Str):PySem.W.plainGet K C f=true:=c.pg
section
variable {X:Cx} {pins:List (Addr×Obj)} {σ:St} {H:Hp} {s:Shared} {A:Around} {E:Value→Shared→Prop} {Q:Value→Shared→Prop} {c:Value} {b:Bool}
inductive TyOf (K:b5h) (H:Hp):V→Value→Prop where
 | non:TyOf K H .non (.type "NoneType")
 | bl (x:Bool):TyOf K H (.bl x) (.type "bool")
 | int (i:Int):TyOf K H (.int i) (.type "int")
 | str (x:Str):TyOf K H (.str x) (.type "str")
 | flt (x:UInt64):TyOf K H (.flt x) (.type "float")
 | lst {a:Addr} {xs:List V} (e:H a=some (.lst xs)):TyOf K H (.ref a) (.type "list")
 | frz {a:Addr} {o:Obj} {xs:List V} (e:H a=some (.frz o (.lst xs))):TyOf K H (.ref a) (.type "list")
 | tup {a:Addr} {xs:List V} (e:H a=some (.tup xs)):TyOf K H (.ref a) (.type "tuple")
 | dK {a:Addr} {kvs:List (Key×V)} (e:H a=some (.dK kvs)):TyOf K H (.ref a) (.type "dict")
 | dT {a:Addr} {kvs:List (List Key×V)} (e:H a=some (.dT kvs)):TyOf K H (.ref a) (.type "dict")
 | ins {a C dx:Addr} {fs:List (Str×V)} (e:H a=some (.ins C dx fs)) (cl:Cls K C) (ha:PySem.W.findIn K (.ref C) "__class__" = some (some (.builtin "object.__class__")))
     (hn:PySem.W.specialIn K (.builtin "object.__class__") "__get__" = some (some (.builtin "getset_descriptor.__get__"))) (htk:PySem.W.takesIn K (.builtin "object.__class__")=some true)
     (hm:PySem.W.mroIn K C (.type "object")=some true):TyOf K H (.ref a) (.ref C)
theorem b4a{x:V}{u t:Value}(I:Inv X pins σ H s)(rx:RelV x u)(ty:TyOf X.K H x t)(e:b7r X.K t c=some b)(h:∀ tk,Q (.bool b) { s with toks:=tk }) :
   wpAny (model X.prog X.w) A (call (.builtin "isinstance") [u,c]) Q E s:=by
 cases ty with
 | non=>cases (show u=Value.none from rx);exact b6i PySem.W.kitx_none I.kIn True.intro e (fun z=>nomatch z) h
 | bl y=>cases (show u=Value.bool y from rx);exact b6i PySem.W.kitx_bool I.kIn True.intro e (fun z=>nomatch z) h
 | int i=>obtain⟨t,q⟩:=(show ∃ t,u=Value.int i t from rx);cases q;exact b6i PySem.W.kitx_int I.kIn True.intro e (fun z=>nomatch z) h
 | str y=>obtain⟨t,q⟩:=(show ∃ t,u=Value.str y t from rx);cases q;exact b6i PySem.W.kitx_str I.kIn True.intro e (fun z=>nomatch z) h
 | flt y=>obtain⟨t,q⟩:=(show ∃ t,u=Value.float y t from rx);cases q;exact b6i PySem.W.kitx_float I.kIn True.intro e (fun z=>nomatch z) h
 | @lst a xs ea=>
   cases (show u=Value.ref a from rx)
   obtain⟨_,_,n,_,h1⟩:=(show a1s X.prog X.w H s.heap a (.lst xs) from I.hok a _ ea)
   exact b6i PySem.W.kitx_list I.kIn ⟨_,h1,rfl⟩ e (fun z=>nomatch z) h
 | @frz a ob xs ea=>
   cases (show u=Value.ref a from rx)
   obtain⟨_,_,_,n,_,h1⟩:=(show a1s X.prog X.w H s.heap a (.frz ob (.lst xs)) from I.hok a _ ea)
   exact b6i PySem.W.kitx_list I.kIn ⟨_,h1,rfl⟩ e (fun z=>nomatch z) h
 | @tup a xs ea=>
   cases (show u=Value.ref a from rx)
   obtain⟨_,_,_,p⟩:=(show a1s X.prog X.w H s.heap a (.tup xs) from I.hok a _ ea)
   obtain⟨o,h1,h2,_⟩:=p
   exact b6i PySem.W.kitx_tuple I.kIn ⟨o,h1,h2⟩ e (fun z=>nomatch z) h
 | @dK a kvs ea=>
   cases (show u=Value.ref a from rx)
   obtain⟨_,_,vs,_,p⟩:=(show a1s X.prog X.w H s.heap a (.dK kvs) from I.hok a _ ea)
   obtain⟨o,es,ep,h1,h2,_⟩:=p
   exact b6i PySem.W.kitx_dict I.kIn ⟨o,h1,h2.1⟩ e (fun z=>nomatch z) h
 | @dT a kvs ea=>
   cases (show u=Value.ref a from rx)
   obtain⟨_,_,xs,_,o,es,ep,h1,h2,_⟩:=(show a1s X.prog X.w H s.heap a (.dT kvs) from I.hok a _ ea)
   exact b6i PySem.W.kitx_dict I.kIn ⟨o,h1,h2.1⟩ e (fun z=>nomatch z) h
 | @ins a C dx fs ea cl ha hn htk hm=>
   cases (show u=Value.ref a from rx)
   obtain⟨mA,O,_⟩:=ins_get I.hok ea
   obtain⟨od,J,_⟩:=O.look
   exact b6i (PySem.W.kitx_own (cl.get _) cl.hd ha hn htk hm) I.kIn J e (fun z=>nomatch z) h
end
end L2
namespace L2
open PySem PySem.Spec PyProof.Rows
structure Room(k:Nat)(A:Around):Prop where
 hd:A.handled=none
 dp:A.depth+3*k+5<recursionLimit
 un:A.units+16*k+200<cLine
theorem Room.mono{j k:Nat}{A:Around}(r:Room k A)(h:j≤k):Room j A:=⟨r.hd,by have:=r.dp;omega,by have:=r.un;omega⟩
theorem Room.deeper{k:Nat}{A:Around}(r:Room (k+1) A)(env:Env):Room k (A.deeper env):=
 ⟨r.hd,by have:=r.dp;show A.depth+1+3*k+5<_;omega,by have:=r.un;show A.units+3+16*k+200<_;omega⟩
theorem Room.depth{k:Nat}{A:Around}(r:Room k A):A.depth<recursionLimit:=by have:=r.dp;omega
theorem Room.units{k:Nat}{A:Around}(r:Room k A):A.units+64<cLine:=by have:=r.un;omega
def tNil:TA:=fun _ H Q=>Q [] H
def tCons(ta:TE)(tr:TA):TA:=fun σ H Q=>ta σ H fun x H1=>tr σ H1 fun xs H2=>Q (x::xs) H2
section
variable {X:Cx} {e:Expr} {es:List Expr} {te:TE} {t:TA} {pos:Pos}
theorem pa_nil:PA X [] tNil:=fun _ _ _ _ H Q I h=>Calls.spliced_nil ⟨[],H,I,.nil,h⟩
theorem pa_cons(ha:PE X e te)(hr:PA X es t)(hs:starEach (e::es) X.env=(false,eval e X.env)::starEach es X.env:=by rfl):PA X (e::es) (tCons te t):=by
 intro pos pins s σ H Q I h
 rw[hs]
 show wpAny _ _ (spliced ((false,eval e X.env)::backTo pos (starEach es X.env))) _ _ s
 refine Calls.spliced_cons (thn (ha pins s σ H _ I h) fun u s1 ⟨x,H1,I1,r1,q1⟩=>?_)
 exact thn (hr pos pins s1 σ H1 _ I1 q1) fun us s2 ⟨xs,H2,I2,r2,q2⟩=>⟨x::xs,H2,I2,.cons r1 r2,q2⟩
def tTup(t:TA):TE:=fun σ H Q=>t σ H fun xs H1=>xs.length≤sizeLine∧∀ p,H1 p=none→Q (.ref p) (upd H1 p (.tup xs))
def tLst(t:TA):TE:=fun σ H Q=>t σ H fun xs H1=>xs.length≤sizeLine∧∀ p,H1 p=none→Q (.ref p) (upd H1 p (.lst xs))
theorem pe_tup{x1}(h:PA X es t):PE X (.Tuple es x1 pos) (tTup t):=by
 intro pins s σ H Q I hq
 refine wpAny_Tuple_spliced (thn (h pos pins s σ H _ I hq) fun us s1 ⟨xs,H1,I1,r,z,q⟩=>⟨by rw[← r.length];exact z,?_⟩)
 have hf:H1 s1.heap.objs.size=none:=I1.hok.fresh (b5n _)
 refine⟨.ref s1.heap.objs.size,upd H1 s1.heap.objs.size (.tup xs),I1.laid (t':=s1.toks) (fun b u e=>Heap.get?_push_of_some _ e) (b5n _) ?_,rfl,q _ hf⟩
 exact⟨z,us,r,⟨_,Heap.get?_push_size _ rfl,rfl,_,rfl⟩⟩
theorem pe_lst(h:PA X es t):PE X (.List es pos) (tLst t):=by
 intro pins s σ H Q I hq
 refine wpAny_List_spliced (thn (h pos pins s σ H _ I hq) fun us s1 ⟨xs,H1,I1,r,z,q⟩=>⟨by rw[← r.length];exact z,?_⟩)
 have hf:H1 s1.heap.objs.size=none:=I1.hok.fresh (b5n _)
 refine⟨.ref s1.heap.objs.size,upd H1 s1.heap.objs.size (.lst xs),I1.laid (t':=s1.toks) (fun b u e=>Heap.get?_push_of_some _ e) (b5n _) ?_,rfl,q _ hf⟩
 exact⟨z,us,0,r,Heap.get?_push_size _ rfl⟩
end
abbrev Sp:=List V→Hp→VK→XK→Prop
abbrev CXT:=List Env→Hp→Shared→XK→Value→Shared→Prop
structure Env0(P:Program)(w:World)(K:b5h)(mg:Str→Option Value)(base:Heap)(A:Around)(outer:List Env)(s:Shared)(H:Hp):Prop where
 frames:A.frames=some outer
 mod:Mod K mg base
 bs:∀ b o,base.get? b=some o→s.heap.get? b=some o∧H b=none
 bsz:base.objs.size≤s.heap.objs.size
 funs:s.heap.FunFrames base outer
 frf:∀ b∈frs outer,H b=none
 hok:HOk P w H s.heap
 bare:AllBare s.gens
def CE(outer:List Env)(P:Program)(w:World)(H:Hp)(s:Shared)(Q:VK)(u:Value)(s':Shared):Prop:=
 ∃ v H',s'.os=s.os∧AllBare s'.gens∧Un (frs outer) [] H H' s.heap s'.heap∧HOk P w H' s'.heap∧RelV v u∧Q v H'
def CR(CX:CXT)(outer:List Env)(P:Program)(w:World)(H:Hp)(s:Shared)(Q:VK)(E:XK)(r:Result)(s':Shared):Prop:=
 match r with
 | .ok (.ret u)=>CE outer P w H s Q u s'
 | .ok _=>False
 | .error e=>CX outer H s E e s'
structure FnOk(P:Program)(w:World)(K:b5h)(mg:Str→Option Value)(base:Heap)(CX:CXT)(k:Nat)(f:Addr)(fd:FuncData)(ps:List Str)(sp:Sp):Prop where
 len:∀ vs H Q E,sp vs H Q E→vs.length=ps.length
 run:∀ (A:Around) (outer:List Env) (s:Shared) (H:Hp) (args:Args) (us:List Value) (vs:List V) (Q:VK) (E:XK),Room k A→Env0 P w K mg base A outer s H→BindsTo s fd args (ps.zip us)→Vals vs us→sp vs H Q E→
   codeAny (model P w) A (.call (.ref f) args) (CR CX outer P w H s Q E) s
section
variable {X:Cx} {pins:List (Addr×Obj)} {σ:St} {H:Hp} {s s':Shared}
theorem Inv.env0(I:Inv X pins σ H s):Env0 X.prog X.w X.K X.mg X.base X.A X.stack s H:=
 ⟨I.ok.frames,I.ok.mod,I.bs,b7j I.ok.bsz I.sz,I.stack,I.stkFree,I.hok,I.bare⟩
theorem Inv.after{Q:VK}{u:Value}(I:Inv X pins σ H s)(h:CE X.stack X.prog X.w H s Q u s'):EP X pins σ Q u s':=by
 obtain⟨v,H',os,bare,un,hok,r,q⟩:=h
 obtain⟨hh,g,d,t,os'⟩:=s'
 obtain rfl:os'=s.os:=os
 exact⟨v,H',I.call (h':=hh) (g':=g) (d':=d) (t':=t) (ch:=[]) un hok bare (fun b z=>absurd z (by simp)),r,q⟩
end
def tCall(sp:Sp)(dvs:List V)(E:XK)(t:TA):TE:=fun σ H Q=>t σ H fun vs H1=>sp (vs++dvs) H1 Q E
def b0f(K:b5h)(fd:FuncData)(ps:List Str)(ds:List Value):Prop:=
 ∀ (s:Shared) (us:List Value),K.In s.heap→(us++ds).length=ps.length→BindsTo s fd ⟨us,[]⟩ (ps.zip (us++ds))
theorem b0f.all{K:b5h}{fd:FuncData}{ps:List Str}(h:∀ us:List Value,us.length=ps.length→bindArgs fd ⟨us,[]⟩=pure (ps.zip us)):b0f K fd ps []:=fun s us _ hl=>by
 rw[List.append_nil] at hl ⊢
 exact .of_eq (h us hl)
def a9f(CX:CXT)(X:Cx)(E:XK):Prop:=∀ (pins:List (Addr×Obj)) (σ:St) (H:Hp) (s:Shared) (e:Value) (s':Shared),Inv X pins σ H s→CX X.stack H s E e s'→X.xe e s'
section
variable {X:Cx} {CX:CXT} {k:Nat} {f C:Addr} {fd:FuncData} {ps:List Str} {sp:Sp} {dvs:List V} {ds:List Value} {E:XK} {x m:Str} {p pos apos:Pos} {e o:Expr} {es:List Expr} {ta:TE} {t:TA}
theorem run_fn{pins:List (Addr×Obj)}{σ:St}{H:Hp}{s:Shared}{Q:VK}{us:List Value}{vs:List V}(F:FnOk X.prog X.w X.K X.mg X.base CX k f fd ps sp)(hr:Room k X.A)(hb:b0f X.K fd ps ds)(hd:Vals dvs ds)(hx:a9f CX X E)(I:Inv X pins σ H s)(r:Vals vs us)(h:sp (vs++dvs) H Q E):wpAny (model X.prog X.w) X.A (call (.ref f) us) (EP X pins σ Q) X.xe s:=by
 have r2:Vals (vs++dvs) (us++ds):=r.append hd
 have hl:(us++ds).length=ps.length:=by rw[← r2.length];exact F.len _ _ _ _ h
 refine wpAny_call (codeAny_mono (F.run X.A X.stack s H ⟨us,[]⟩ (us++ds) (vs++dvs) Q E hr I.env0 (hb s us I.kIn hl) r2 h) fun r s' hq=>?_)
 cases r with
 | error e=>exact hx pins σ H s e s' I hq
 | ok fl=>
   cases fl with
   | ret u=>exact I.after hq
   | next=>exact False.elim hq
   | brk=>exact False.elim hq
   | cont=>exact False.elim hq
theorem pe_call(F:FnOk X.prog X.w X.K X.mg X.base CX k f fd ps sp)(hr:Room k X.A)(hg:Gl X x)(hm:X.mg x=some (.ref f))(hk:b7s X.K (.ref f)=true)(hb:b0f X.K fd ps ds)(hd:Vals dvs ds)(hx:a9f CX X E)(ha:PA X (e::es) t)(hdb:(x == ("__debug__" : Str))=false:=by decide)(he:starEach (e::es) X.env=(false,eval e X.env)::starEach es X.env:=by rfl)(hpl:(backTo pos (starEach es X.env)).any (·.1)=false:=by rfl) :
   PE X (.Call (.Name x p) (e::es) [] pos) (tCall sp dvs E t):=by
 intro pins s σ H Q I h
 refine wpAny_Call_Name_kw (ld_glob I hg hm ?_ hdb)
 refine PySem.W.callWith_K (h₀:=X.base) I.ok.mod.kin hk (thn (ha pos pins s σ H _ I h) fun us s1 ⟨vs,H1,I1,r,q⟩=>⟨I1.kIn,?_⟩) he hpl
 exact run_fn F hr hb hd hx I1 r q
end
structure a0t(N P:List Str)(sc:Scope):Prop where
 kind:sc.kind=.function
 co:sc.isCoroutine=false
 gen:sc.isGenerator=false
 nd:N.Nodup
 pre:N.take P.length=P
 par:∀ x∈P,sc.names.lookup x=some .local∨sc.names.lookup x=some .cell
 nofree:∀ y∈sc.names,y.2≠.free
theorem a9a{kindOf:Str→Option NameKind}{x:Str}:∀ {binds:List (Str×Value)} {m:Str→Option Value},(∀ v,(x,v)∉binds)→bindL kindOf binds m x=m x
 | [],_,_=>rfl
 | (n,v)::r,m,h=>by
   unfold bindL
   rw[a9a fun w hw=>h w (b6j _ hw)]
   split
   · have:x≠n:=by rintro rfl;exact h v List.mem_cons_self
     simp[this]
   · rfl
theorem a9c{kindOf:Str→Option NameKind}{x:Str}:∀ {binds:List (Str×Value)} {m:Str→Option Value},(∀ v,(x,v)∉binds)→bindC kindOf binds m x=m x
 | [],_,_=>rfl
 | (n,v)::r,m,h=>by
   unfold bindC
   rw[a9c fun w hw=>h w (b6j _ hw)]
   split
   · rfl
   · have:x≠n:=by rintro rfl;exact h v List.mem_cons_self
     simp[this]
theorem a9b{kindOf:Str→Option NameKind}{x:Str}{v:Value}:∀ {P:List Str} {vs:List Value} {i:Nat} {m:Str→Option Value},P.Nodup→P[i]?=some x→vs[i]?=some v→kindOf x=some .local→
   bindL kindOf (P.zip vs) m x=some v
 | [],_,_,_,_,h,_,_=>by simp at h
 | _::_,[],_,_,_,_,h,_=>by simp at h
 | p::P,w::vs,0,m,nd,h1,h2,hk=>by
   simp at h1 h2;subst h1;subst h2
   show bindL kindOf ((p,w)::P.zip vs) m p=_
   unfold bindL
   rw[a9a fun v hv=>(List.nodup_cons.mp nd).1 (b8g hv).1,if_pos hk]
   simp
 | p::P,w::vs,i+1,m,nd,h1,h2,hk=>by
   show bindL kindOf ((p,w)::P.zip vs) m x=_
   unfold bindL
   exact a9b (i:=i) (List.nodup_cons.mp nd).2 (by simpa using h1) (by simpa using h2) hk
theorem a9d{kindOf:Str→Option NameKind}{x:Str}{v:Value}:∀ {P:List Str} {vs:List Value} {i:Nat} {m:Str→Option Value},P.Nodup→P[i]?=some x→vs[i]?=some v→kindOf x≠some .local→
   bindC kindOf (P.zip vs) m x=some v
 | [],_,_,_,_,h,_,_=>by simp at h
 | _::_,[],_,_,_,_,h,_=>by simp at h
 | p::P,w::vs,0,m,nd,h1,h2,hk=>by
   simp at h1 h2;subst h1;subst h2
   show bindC kindOf ((p,w)::P.zip vs) m p=_
   unfold bindC
   rw[a9c fun v hv=>(List.nodup_cons.mp nd).1 (b8g hv).1,if_neg hk]
   simp
 | p::P,w::vs,i+1,m,nd,h1,h2,hk=>by
   show bindC kindOf ((p,w)::P.zip vs) m x=_
   unfold bindC
   exact a9d (i:=i) (List.nodup_cons.mp nd).2 (by simpa using h1) (by simpa using h2) hk
def a5x(N:List Str)(vs:List V):St:=vs.map some++b7p (N.length - vs.length) none
def cxOf(CX:CXT)(P:Program)(w:World)(K:b5h)(mg:Str→Option Value)(base:Heap)(N:List Str)(qual:Str)(scope:Scope)(f:Addr)(cd:Value)(A:Around)(outer:List Env)(s:Shared)(H:Hp)(E:XK):Cx where
 prog:=P
 w:=w
 K:=K
 mg:=mg
 base:=base
 A:=A.deeper (envOfC qual scope s.heap.objs.size f cd)
 N:=N
 s₀:=s
 H₀:=H
 env:=envOfC qual scope s.heap.objs.size f cd
 outer:=outer
 stack:=envOfC qual scope s.heap.objs.size f cd::outer
 ex:=[]
 calm:=true
 fn:=fun _=>true
 pn:=[]
 xe:=fun e s'=>wpAny (model P w) (A.deeper (envOfC qual scope s.heap.objs.size f cd)) (leaving (envOfC qual scope s.heap.objs.size f cd) e) (fun _ s''=>CX outer H s E e s'') (fun e' s''=>CX outer H s E e' s'') s'
theorem b1a{sc:Scope}{n:Nat}{x:Str}(h:sc.names.lookup x=some .cell):∃ c,(cellsFrom n sc.names []).lookup x=some c:=by
 have q:=PySem.W.cellsFrom_some sc.names n [] (.inl h)
 exact Option.isSome_iff_exists.mp q
theorem b4b{CX:CXT}{P:Program}{w:World}{K:b5h}{mg:Str→Option Value}{base:Heap}{N ps:List Str}{qual:Str}{scope:Scope}{f:Addr}{cd:Value}{A:Around}{outer:List Env}{s s1:Shared}{H:Hp}{E:XK}{us:List Value}{vs:List V}(S:a0t N ps scope)(hd:A.handled=none)(e0:Env0 P w K mg base A outer s H)(hl:vs.length=ps.length)(r:Vals vs us)(x:InCallC s s.heap.objs.size (bindL (envOfC qual scope s.heap.objs.size f cd).kindOf (ps.zip us) fun _=>none) (cellsFrom (s.heap.objs.size+1) scope.names []) (bindC (envOfC qual scope s.heap.objs.size f cd).kindOf (ps.zip us) fun _=>none) s1) :
   Inv (cxOf CX P w K mg base N qual scope f cd A outer s H E) [] (a5x N vs) H s1:=by
 have hpl:ps.length≤N.length:=by have:=congrArg List.length S.pre;rw[b7y] at this;omega
 obtain⟨h1,tk,rfl,hk⟩:=x.done
 have noA:∀ b:Addr,b∉(cxOf CX P w K mg base N qual scope f cd A outer s H E).ex:=fun b z=>absurd (show b∈([]:List Addr) from z) (by simp)
 refine⟨⟨e0.mod,S.kind,rfl,rfl,b5n _,fun y z c h1 h2=>?_,fun y hy=>?_,fun y c _ h=>?_,fun _=>hd,Around.frames_deeper e0.frames,.inr ⟨rfl,rfl⟩,fun b z=>absurd z (noA b),e0.bs,e0.bsz,fun b _ _=>noA b,fun b z=>absurd z (noA b),e0.funs,e0.frf⟩,
   rfl,e0.bare,Un.kept hk,⟨_,x.toInCall.ns,fun i y v h1 h2 h3=>?_⟩,fun y c h=>⟨_,x.cell y c h⟩,e0.hok.fresh (b5n _),fun y c h=>?_,fun p hp=>absurd (show p∈([]:List (Addr×Obj)) from hp) (by simp),e0.hok.kept hk,?_⟩
 · exact name_of_addr x.apart (PySem.mem_of_lookup h1) (PySem.mem_of_lookup h2)
 · have hy:scope.names.lookup y=some .cell∨scope.names.lookup y=some .free:=hy
   rcases hy with hy | hy
   · exact b1a hy
   · exact absurd rfl (S.nofree _ (PySem.mem_of_lookup hy))
 · exact b6u (x.above y c (PySem.mem_of_lookup h))
 · have hi:i<vs.length:=by
     unfold a5x at h2
     by_cases hi:i<vs.length
     · exact hi
     · rw[b5y (by simpa using hi)] at h2
       rw[List.getElem?_replicate] at h2
       split at h2<;>cases h2
   have ha:vs[i]?=some v:=by
     unfold a5x at h2
     rw[b5w (by simpa using hi),b5s] at h2
     cases e:vs[i]? with
     | none=>rw[e] at h2;cases h2
     | some a=>rw[e] at h2;cases h2;rfl
   obtain⟨u,hu,rv⟩:=r.get ha
   have hp:ps[i]?=some y:=by
     rw[← S.pre,List.getElem?_take_of_lt (by omega)];exact h1
   have ndP:ps.Nodup:=by rw[← S.pre];exact S.nd.sublist (List.take_sublist _ _)
   refine⟨u,rv,?_⟩
   rcases S.par y (b6e hp) with k | k
   · exact .inl ⟨k,a9b ndP hp hu k⟩
   · obtain⟨c,e⟩:=b1a (n:=s.heap.objs.size+1) k
     refine .inr ⟨.inl k,c,e,?_⟩
     have q:=x.cell y c e
     rw[a9d ndP hp hu (by show scope.names.lookup y≠_;rw[k];decide)] at q
     exact q
 · exact e0.hok.fresh (b6u (x.above y c (PySem.mem_of_lookup h)))
 · unfold a5x
   show _=N.length
   rw[b5u,b5j,b6o]
   omega
theorem fn_of{CX:CXT}{P:Program}{w:World}{K:b5h}{mg:Str→Option Value}{base:Heap}{k:Nat}{f:Addr}{name qual:Str}{params:Arguments}{body:List Stmt}{scope:Scope}{dV kV doc pm cdv ct oc:Value}{an od:Option Addr}{osl:Array (Option Value)}{N ps:List Str}{sp:Sp}(lk:K.lookup f=some ⟨oc,od,.func (b6m name qual params body scope dV kV doc pm an cdv ct),osl⟩)(hcd:b7w K cdv qual=true)(S:a0t N ps scope)(len:∀ vs H Q E,sp vs H Q E→vs.length=ps.length)(hbody:∀ (A:Around) (outer:List Env) (s:Shared) (H:Hp) (vs:List V) (Q:VK) (E:XK),Room k (A.deeper (envOfC qual scope s.heap.objs.size f cdv))→sp vs H Q E→
     ∃ t,PSs (cxOf CX P w K mg base N qual scope f cdv A outer s H E) body t∧t { nx:=fun _ H'=>Q .non H',rt:=Q } (a5x N vs) H) :
   FnOk P w K mg base CX (k+1) f (b6m name qual params body scope dV kV doc pm an cdv ct) ps sp:=by
 refine⟨len,fun A outer s H args us vs Q E hr e0 hb r hsp=>?_⟩
 have hl:=len _ _ _ _ hsp
 have KX:K.In s.heap:=e0.mod.kin.keeps fun b o e=>(e0.bs b o e).1
 have lim:s.heap.NoLimit:=e0.mod.nolimit.keeps fun b o e=>(e0.bs b o e).1
 have hkind:∀ y∈ps.zip us,scope.names.lookup y.1=some .local∨(scope.names.lookup y.1=some .cell∧((cellsFrom (s.heap.objs.size+1) scope.names []).lookup y.1).isSome=true):=fun⟨n,v⟩ hy=>by
   rcases S.par n (b8g hy).1 with q | q
   · exact .inl q
   · exact .inr ⟨q,PySem.W.cellsFrom_some _ _ _ (.inl q)⟩
 refine codeAny_call_function hr.depth (KX _ _ lk) rfl S.co S.gen rfl (PySem.W.codeRec_of KX hcd) (hb _ _ _ _ ?_)
 refine wpAny_newFunctionEnv_cells S.kind hkind fun env he s1 x=>?_
 subst he
 refine⟨lim.keeps x.toInCall.keep,codeAny_func ?_⟩
 obtain⟨t,ht,hq⟩:=hbody A outer s H vs Q E (hr.deeper _) hsp
 have I:Inv (cxOf CX P w K mg base N qual scope f cdv A outer s H E) [] (a5x N vs) H s1:=b4b S hr.hd e0 hl r x
 refine wpAny_mono (ht [] s1 (a5x N vs) H _ I hq) (fun fl s' hs=>?_) fun e s' hs=>hs
 have fin:∀ {σ':St} {H':Hp} {v:V} {u:Value},Inv (cxOf CX P w K mg base N qual scope f cdv A outer s H E) [] σ' H' s'→RelV v u→Q v H'→CE outer P w H s Q u s':=
   fun {σ' H' v u} J rv q=>⟨v,H',J.os,J.bare,J.base,J.hok,rv,q⟩
 cases fl with
 | ret u=>
   obtain⟨v,σ',H',J,rv,q⟩:=hs
   exact fin J rv q
 | next=>
   obtain⟨σ',H',J,q⟩:=hs
   exact fin (v:=V.non) (u:=Value.none) J rfl q
 | brk=>
   obtain⟨_,_,_,q⟩:=hs
   exact False.elim q
 | cont=>
   obtain⟨_,_,_,q⟩:=hs
   exact False.elim q
end L2
namespace L2
open PySem PySem.Spec PyProof.Rows
section
variable {X:Cx} {x:Str} {p pos:Pos} {e:Expr} {es:List Expr} {t:TA} {id T:String} {r:List V→Hp→VK→Prop}
def tCB(r:List V→Hp→VK→Prop)(t:TA):TE:=fun σ H Q=>t σ H fun vs H1=>r vs H1 Q
theorem pe_callB(hc:a2k X (.builtin id) r)(hg:Gl X x)(hm:X.mg x=none)(hv:bootBuiltins x=some (.builtin id))(ha:PA X (e::es) t)(hn:x ≠ "__name__":=by decide)(hdb:(x == ("__debug__" : Str))=false:=by decide)(he:starEach (e::es) X.env=(false,eval e X.env)::starEach es X.env:=by rfl)(hpl:(backTo pos (starEach es X.env)).any (·.1)=false:=by rfl):PE X (.Call (.Name x p) (e::es) [] pos) (tCB r t):=by
 intro pins s σ H Q I h
 refine wpAny_Call_Name_kw (a5q I hg hm hv ?_ hn hdb)
 exact PyProof.Rows.callWith_builtin1 (thn (ha pos pins s σ H _ I h) fun us s1 ⟨vs,H1,I1,r1,q1⟩=>hc pins s1 σ H1 vs us Q I1 r1 q1) he hpl
theorem b3l(hc:a2k X (.type T) r)(hg:Gl X x)(hm:X.mg x=none)(hv:bootBuiltins x=some (.type T))(ha:PA X (e::es) t)(hn:x ≠ "__name__":=by decide)(hdb:(x == ("__debug__" : Str))=false:=by decide)(he:starEach (e::es) X.env=(false,eval e X.env)::starEach es X.env:=by rfl)(hpl:(backTo pos (starEach es X.env)).any (·.1)=false:=by rfl):PE X (.Call (.Name x p) (e::es) [] pos) (tCB r t):=by
 intro pins s σ H Q I h
 refine wpAny_Call_Name_kw (a5q I hg hm hv ?_ hn hdb)
 exact b6v (thn (ha pos pins s σ H _ I h) fun us s1 ⟨vs,H1,I1,r1,q1⟩=>hc pins s1 σ H1 vs us Q I1 r1 q1) he hpl
end
end L2
namespace HT
open PySem PyProof.Rows
def a4o:List Int→List Int→Bool
 | [],[]=>false
 | [],_::_=>true
 | _::_,[]=>false
 | x::xs,y::ys=>if x=y then a4o xs ys else decide (x<y)
theorem a4n(x y:Int)(xs ys:List Int):a4o (x::xs) (y::ys)=if x=y then a4o xs ys else decide (x<y):=rfl
theorem a4b:a4o [] []=false:=rfl
theorem a5y(y:Int)(ys:List Int):a4o [] (y::ys)=true:=rfl
theorem a5z(x:Int)(xs:List Int):a4o (x::xs) []=false:=rfl
theorem a7h(A:Around)(s:Shared)(a:Int)(t:Tok)(c:Int)(u:Tok):∃ e,SeqAt.EqAt A s (.int a t) (.int c u) e∧(e=true↔a=c):=
 ⟨(a == c),SeqAt.EqAt.int_int a t c u,by simp⟩
theorem rcLt_int(A:Around)(s:Shared)(a:Int)(t:Tok)(c:Int)(u:Tok)(prog:Program)(w:World)(E:Value→Shared→Prop)(Q:Value→Shared→Prop)(h:Q (.bool (decide (a<c))) s) :
   wpAny (model prog w) A (richCompare .Lt (.int a t) (.int c u)) Q E s:=
 (PyProof.Rows.lt_int h:wpAny (model prog w) A (compareOp .Lt (.int a t) (.int c u)) Q E s)
section
open PySem.SeqAt
open PySem.AutoSeq1 (wpAny_loadPart')
open PySem.MeetsSeq PySem.MeetsSeq2 PySem.MeetsSeq3
theorem a6v(l b:Addr)(items items2:Array Value)(n n2:Nat)(dd dd2:Option Addr)(sl sl2:Array (Option Value))(ns ms:List Int)(hi:IntsAre items.toList ns)(hj:IntsAre items2.toList ms) :
   Meets (Builtin.«tuple.__lt__» ⟨[.ref l,.ref b],[]⟩)
     (fun _ R s=>s.heap.get? l=some { cls:=.type "tuple",dict:=dd,data:=.seq items n,slots:=sl }∧s.heap.get? b=some { cls:=.type "tuple",dict:=dd2,data:=.seq items2 n2,slots:=sl2 }∧
       R (.ok (.ret (.bool (a4o ns ms)))) s):=
 .of_wp fun prog w A R s h=>by
   obtain⟨hp,g,d,tk,os⟩:=s;obtain⟨hl,hb,h⟩:=h
   have f2:=AutoSeq1.sub_tuple_tuple
   have z1:items.size=ns.length:=by rw[← hi.length];simp
   have z2:items2.size=ms.length:=by rw[← hj.length];simp
   wp_walk using wpAny_loadPart' hl,wpAny_loadPart' hb,wpAny_forIn_list _ (fun rest b s'=>b.1=none∧s'=⟨hp,g,d,tk,os⟩∧∃ (vs ws:List Value) (ns' ms':List Int),rest=vs.zip ws∧
     IntsAre vs ns'∧IntsAre ws ms'∧ns'.length+items2.size=ms'.length+items.size∧R (.ok (.ret (.bool (a4o ns' ms')))) ⟨hp,g,d,tk,os⟩) _
   case turn=>
     rintro⟨y,x⟩ rest b s' ⟨hb',rfl,vs,ws,ns',ms',hz,hvi,hwi,hlen,hR⟩
     cases hvi with
     | nil=>rw[List.zip_nil_left] at hz;cases hz
     | cons a t hvi'=>
       cases hwi with
       | nil=>rw[List.zip_nil_right] at hz;cases hz
       | cons c u hwi'=>
         rw[b7f] at hz
         injection hz with hyx hrest
         injection hyx with hy hx
         subst hy hx
         rw[a4n] at hR
         simp only[b6c] at hlen
         obtain⟨e,he,hiff⟩:=a7h A.in1 ⟨hp,g,d,tk,os⟩ a t c u
         refine wpAny_bind (he prog w _ _ ?_)
         cases e with
         | true=>
           rw[if_pos (hiff.mp rfl)] at hR
           wp_walk
           exact⟨rfl,rfl,_,_,_,_,hrest,hvi',hwi',by omega,hR⟩
         | false=>
           rw[if_neg (fun q=>absurd (hiff.mpr q) b5r)] at hR
           have hri:=rcLt_int A.in1 ⟨hp,g,d,tk,os⟩ a t c u prog w
           wp_walk using hri
           exact⟨_,rfl,by simpa using hR⟩
   case fin=>
     rintro⟨b1,b2⟩ s' ⟨hb',rfl,vs,ws,ns',ms',hz,hvi,hwi,hlen,hR⟩
     simp only at hb'
     subst hb'
     have hv:a4o ns' ms'=decide (items.size<items2.size):=by
       cases hvi with
       | nil=>
         cases hwi with
         | nil=>
           simp only[b6x] at hlen
           rw[a4b]
           exact (decide_eq_false (by omega)).symm
         | cons c u hw=>
           simp only[b6x,b6c] at hlen
           rw[a5y]
           exact (decide_eq_true (by omega)).symm
       | cons a t hv=>
         cases hwi with
         | nil=>
           simp only[b6x,b6c] at hlen
           rw[a5z]
           exact (decide_eq_false (by omega)).symm
         | cons c u hw=>
           rw[b7f] at hz
           cases hz
     rw[hv] at hR
     wp_walk
     exact⟨_,rfl,by simpa [Builtin.Tuple.tupleCompareSizes] using hR⟩
   case h=>
     exact⟨rfl,rfl,items.toList,items2.toList,ns,ms,rfl,hi,hj,by omega,h⟩
end
section
variable {prog:Program} {w:World} {A:Around} {E:Value→Shared→Prop} {s:Shared}
theorem b1p{l b:Addr}{items items2:Array Value}{ns ms:List Int}{Q:Value→Shared→Prop}(hl:IsTup s.heap l items)(hb:IsTup s.heap b items2)(hi:IntsAre items.toList ns)(hj:IntsAre items2.toList ms)(hu:A.units<cLine)(h:Q (.bool (a4o ns ms)) s):wpAny (model prog w) A (compareOp .Lt (.ref l) (.ref b)) Q E s:=by
 obtain⟨⟨cls,dd,data,sl⟩,ho,hc,n,hd⟩:=id hl
 obtain⟨⟨cls2,dd2,data2,sl2⟩,ho2,hc2,n2,hd2⟩:=id hb
 simp only at hc hd hc2 hd2
 subst hc hd hc2 hd2
 exact richCompare_meets_room (op:=.Lt) ⟨_,ho,rfl⟩ ⟨_,ho2,rfl⟩ PySem.F.slot_tuple_lt PySem.F.entry_tuple_lt (PySem.F.args_tuple_lt_2 _ _) (a6v l b items items2 n n2 dd dd2 sl sl2 ns ms hi hj)
   ⟨ho,ho2,show Value.bool (a4o ns ms)≠Value.notImplemented∧Q (.bool (a4o ns ms)) s from ⟨(fun x=>nomatch x),h⟩⟩ hu
def sIx(n d:Nat):Option Int→Nat
 | none=>d
 | some v=>if v<0 then (v+(n:Int)).toNat else min v.toNat n
theorem a5a(n d:Nat):sIx n d none=d:=rfl
theorem a9k(n d k:Nat):sIx n d (some (k:Int))=min k n:=by
 show (if (k:Int)<0 then ((k:Int)+(n:Int)).toNat else min (k:Int).toNat n)=min k n
 rw[if_neg (by omega),b6w]
end
end HT
namespace L2
open PySem PySem.Spec PyProof.Rows
abbrev TO:=St→Hp→(Option Int→Hp→Prop)→Prop
def PO(X:Cx)(e:Option Expr)(t:TO):Prop:=
 ∀ (pins:List (Addr×Obj)) (s:Shared) (σ:St) (H:Hp) (Q:Option Int→Hp→Prop),Inv X pins σ H s→t σ H Q→
   wpAny (model X.prog X.w) X.A (evalPart e X.env) (fun u s'=>∃ o H',Inv X pins σ H' s'∧IsPart u o∧Q o H') X.xe s
def b2l:TO:=fun _ H Q=>Q none H
def tPart(t:TE):TO:=fun σ H Q=>t σ H fun x H1=>∃ i,x=.int i∧Q (some i) H1
theorem a4s{ns:List Int}:∀ {us:List Value},Vals (ns.map V.int) us→IntsAre us ns:=by
 induction ns with
 | nil=>intro us r;rw[List.map_nil] at r;cases r;exact .nil
 | cons n ns ih=>
   intro us r
   rw[b7m] at r
   cases r with
   | cons r1 r2=>
     obtain⟨t,e⟩:=r1
     subst e
     exact .cons n t (ih r2)
section
variable {X:Cx} {e:Expr} {te:TE} {lo hi:Option Expr} {tl th:TO} {pos p2:Pos}
theorem po_none:PO X none b2l:=by
 intro pins s σ H Q I h
 rw[evalPart_none]
 exact wpAny_pure ⟨none,H,I,.none,h⟩
theorem po_some(h:PE X e te):PO X (some e) (tPart te):=by
 intro pins s σ H Q I hw
 rw[evalPart_some]
 refine thn (h pins s σ H _ I hw) fun u s1 ⟨x,H1,I1,r1,q1⟩=>?_
 obtain⟨i,rfl,q⟩:=q1
 obtain⟨t,rfl⟩:=r1
 exact⟨some i,H1,I1,.int i t,q⟩
def SlR(X:Cx)(r:V→Option Int→Option Int→Hp→VK→Prop):Prop:=
 ∀ (pins:List (Addr×Obj)) (s:Shared) (σ:St) (H:Hp) (x:V) (v vl vu:Value) (lo hi:Option Int) (sl:Addr) (Q:VK),Inv X pins σ H s→RelV x v→s.heap.IsSliceOf sl vl vu .none→IsPart vl lo→IsPart vu hi→r x lo hi H Q→
   ∃ T id,typeLookup (.type T) "__getitem__" = pure (some (.builtin id))∧s.TypeIs v T∧wpAny (model X.prog X.w) X.A (getItem v (.ref sl)) (EP X pins σ Q) X.xe s
def tSl(r:V→Option Int→Option Int→Hp→VK→Prop)(te:TE)(tl th:TO):TE:=fun σ H Q=>te σ H fun x H1=>tl σ H1 fun l H2=>th σ H2 fun u H3=>r x l u H3 Q
theorem pe_slice{r:V→Option Int→Option Int→Hp→VK→Prop}(hr:SlR X r)(he:PE X e te)(hl:PO X lo tl)(hu:PO X hi th):PE X (.Subscript e (.Slice lo hi none p2) pos) (tSl r te tl th):=by
 intro pins s σ H Q I h
 refine Subscript_ (thn (he pins s σ H _ I h) fun v s1 ⟨x,H1,I1,r1,q1⟩=>?_)
 refine wpAny_Slice (thn (hl pins s1 σ H1 _ I1 q1) fun vl s2 ⟨l,H2,I2,pl,q2⟩=>thn (hu pins s2 σ H2 _ I2 q2) fun vu s3 ⟨u,H3,I3,pu,q3⟩=>?_)
 rw[evalPart_none]
 refine wpAny_pure ?_
 have I4:Inv X pins σ H3 { s3 with heap:=s3.heap.push { cls:=.type "slice",data:=.fields #[vl,vu,.none] } }:=I3.kept (t':=s3.toks) fun b ob q=>Heap.get?_push_of_some _ q
 obtain⟨T,id,hT,ht,hg⟩:=hr pins { s3 with heap:=s3.heap.push { cls:=.type "slice",data:=.fields #[vl,vu,.none] } } σ H3 x v vl vu l u s3.heap.objs.size Q I4 r1 (Heap.IsSliceOf.new ..) pl pu q3
 show wpAny (model X.prog X.w) X.A (subscriptTail e (.Slice lo hi none p2) v (.ref s3.heap.objs.size)) (EP X pins σ Q) X.xe { s3 with heap:=s3.heap.push { cls:=.type "slice",data:=.fields #[vl,vu,.none] } }
 exact tail_any (ops:=[.ref s3.heap.objs.size,v]) ht hT hg (by with_unfolding_all rfl)
def cutV(xs:List V)(lo hi:Option Int):List V:=(xs.drop (HT.sIx xs.length 0 lo)).take (HT.sIx xs.length xs.length hi - HT.sIx xs.length 0 lo)
theorem b0a(xs:List V)(lo hi:Option Int):(cutV xs lo hi).length≤xs.length:=by
 unfold cutV
 rw[b7y,b7z]
 omega
end
end L2
namespace L2
open PySem PySem.Spec PyProof.Rows
def ixN(n:Nat)(i:Int):Option Nat:=if 0≤i then (if i<n then some i.toNat else none) else if -(n:Int)≤i then some (i+n).toNat else none
def atI{α:Type}(xs:List α)(i:Int):Option α:=(ixN xs.length i).bind fun j=>xs[j]?
theorem b3z{n:Nat}{i:Int}{j:Nat}(h:ixN n i=some j):seqIndex? i n=some j∧j<n∧-(n:Int)≤i∧i<n:=by
 unfold ixN at h
 by_cases h0:0≤i
 · rw[if_pos h0] at h
   by_cases h1:i<n
   · rw[if_pos h1] at h
     have e:i.toNat=j:=b6l.inj h
     exact⟨by rw[seqIndex_of h0 h1,e],by omega,by omega,h1⟩
   · rw[if_neg h1] at h;cases h
 · rw[if_neg h0] at h
   by_cases h1:-(n:Int)≤i
   · rw[if_pos h1] at h
     have e:(i+n).toNat=j:=b6l.inj h
     exact⟨by rw[seqIndex_neg (by omega) h1,e],by omega,h1,by omega⟩
   · rw[if_neg h1] at h;cases h
theorem b4z{α:Type}{xs:List α}{i:Int}{v:α}(h:atI xs i=some v):∃ j,seqIndex? i xs.length=some j∧xs[j]?=some v∧j<xs.length∧-(xs.length:Int)≤i∧i<xs.length:=by
 unfold atI at h
 cases e:ixN xs.length i with
 | none=>rw[e] at h;cases h
 | some j=>
   rw[e] at h
   obtain⟨h1,h2,h3,h4⟩:=b3z e
   exact⟨j,h1,h,h2,h3,h4⟩
theorem b4y{α:Type}{xs:List α}{j:Nat}{v:α}(h:xs[j]?=some v):atI xs (j:Int)=some v:=by
 have hj:j<xs.length:=(b5t.mp h).1
 have e:ixN xs.length (j:Int)=some j:=by
   unfold ixN
   rw[if_pos (by omega),if_pos (by omega)];simp
 unfold atI;rw[e];exact h
theorem atI_last{α:Type}(xs:List α)(v:α):atI (xs++[v]) (-1)=some v:=by
 have hl:(xs++[v]).length=xs.length+1:=by simp
 have e:ixN (xs++[v]).length (-1)=some xs.length:=by
   unfold ixN
   rw[hl,if_neg (by decide),if_pos (by omega)]
   congr 1
   omega
 unfold atI
 rw[e]
 show (xs++[v])[xs.length]?=some v
 simp
def b5d(b:Expr):Prop:=∀ o i,subscripted b false o i=operate [o,i] (getItem o i)
def IxR(X:Cx)(r:R2):Prop:=
 ∀ (value slice:Expr) (pins:List (Addr×Obj)) (s:Shared) (σ:St) (H:Hp) (x y:V) (v u:Value) (Q:VK),Inv X pins σ H s→RelV x v→RelV y u→r x y H Q→
   subscripted slice false v u=operate [v,u] (getItem v u)→wpAny (model X.prog X.w) X.A (subscriptTail value slice v u) (EP X pins σ Q) X.xe s
def MtR(X:Cx)(id:String)(r:V→List V→Hp→VK→Prop):Prop:=
 ∀ (pins:List (Addr×Obj)) (s:Shared) (σ:St) (H:Hp) (x:V) (xs:List V) (v:Value) (us:List Value) (Q:VK),Inv X pins σ H s→RelV x v→Vals xs us→r x xs H Q→
   wpAny (model X.prog X.w) X.A (call (.builtin id) (v::us)) (EP X pins σ Q) X.xe s
section
variable {X:Cx} {a b:Expr} {ta tb:TE} {pos:Pos}
theorem pe_ix{r:R2}(hr:IxR X r)(ha:PE X a ta)(hb:PE X b tb)(hs:b5d b):PE X (.Subscript a b pos) (tOp r ta tb):=by
 intro pins s σ H Q I h
 exact Subscript_ (binT ha hb I h fun v u s2 x y H2 I2 rx ry q=>hr a b pins s2 σ H2 x y v u Q I2 rx ry q (hs _ _))
def rIxL(K:b5h):R2:=fun x y H Q=>∃ p xs i v,x=.ref p∧y=.int i∧SqL K H p xs∧atI xs i=some v∧Q v H
def rIxT(K:b5h):R2:=fun x y H Q=>∃ p xs i v,x=.ref p∧y=.int i∧SqT K H p xs∧atI xs i=some v∧Q v H
theorem ix_list:IxR X (rIxL X.K):=by
 intro value slice pins s σ H x y v u Q I rx ry h hs
 obtain⟨p,xs,i,z,rfl,rfl,hq,he,q⟩:=h
 cases rx
 obtain⟨t,rfl⟩:=ry
 obtain⟨its,r,pl,hz⟩:=I.list hq
 obtain⟨j,h1,h2,h3,h4,h5⟩:=b4z he
 obtain⟨w,ew,rw'⟩:=r.get h2
 have hl:=r.length
 have hn:=b0v
 have fin:EP X pins σ Q w s:=⟨z,H,I,rw',q⟩
 by_cases h0:0≤i
 · have hj:i.toNat=j:=by
     rw[seqIndex_of h0 h5] at h1
     exact b6l.inj h1
   exact item_listR pl.isList h0 (by omega) (by rw[hj];simpa using ew) fin hs
 · have hj:(i+(its.toArray.size:Int)).toNat=j:=by
     rw[seqIndex_neg (by omega) h4] at h1
     rw[b5p,← hl]
     exact b6l.inj h1
   exact subscriptTail_builtinR (x:=w) pl.isList.typeIs slot_list_getitem.lookup
     (wpAny_getItem_list_neg (Q:=fun r s'=>r=w∧EP X pins σ Q r s') pl.isList (by omega) (by rw[b5p]<;>omega) (by omega) (by rw[hj];simpa using ew) ⟨rfl,fin⟩) hs
theorem ix_tup:IxR X (rIxT X.K):=by
 intro value slice pins s σ H x y v u Q I rx ry h hs
 obtain⟨p,xs,i,z,rfl,rfl,hq,he,q⟩:=h
 cases rx
 obtain⟨t,rfl⟩:=ry
 obtain⟨its,r,pl,hz⟩:=I.tuple hq
 obtain⟨j,h1,h2,h3,h4,h5⟩:=b4z he
 obtain⟨w,ew,rw'⟩:=r.get h2
 have hl:=r.length
 have hn:=b0v
 have fin:EP X pins σ Q w s:=⟨z,H,I,rw',q⟩
 exact subscriptTail_builtinR (x:=w) pl.typeIs slot_tuple_getitem.lookup
   (getItem_tuple (j:=j) (Q:=fun r s'=>r=w∧EP X pins σ Q r s') pl (by omega) (by omega) (by rw[b5p,← hl];exact h1) (by simpa using ew) ⟨rfl,fin⟩) hs
theorem b1o(its:List Value)(n j:Nat)(u:Value):Obj.mapSeq (·.setIfInBounds j u) { cls:=.type "list",data:=.seq its.toArray n }={ cls:=.type "list",data:=.seq (its.set j u).toArray n }:=by
 simp[Obj.mapSeq]
theorem Inv.lst{pins:List (Addr×Obj)}{σ:St}{H:Hp}{s:Shared}{p:Addr}{xs:List V}(I:Inv X pins σ H s)(h:H p=some (.lst xs)) :
   ∃ (its:List Value) (n:Nat),Vals xs its∧s.heap.get? p=some { cls:=.type "list",data:=.seq its.toArray n }∧xs.length≤sizeLine:=by
 obtain⟨z,its,n,r,e⟩:=I.hok p _ h
 exact⟨its,n,r,e,z⟩
theorem Inv.lstUpd{pins:List (Addr×Obj)}{σ:St}{H:Hp}{s:Shared}{p:Addr}{xs ys:List V}{its its':List Value}{n n':Nat}{f:Obj→Obj}(I:Inv X pins σ H s)(h:H p=some (.lst xs))(ho:s.heap.get? p=some { cls:=.type "list",data:=.seq its.toArray n })(hf:f { cls:=.type "list",data:=.seq its.toArray n }={ cls:=.type "list",data:=.seq its'.toArray n' })(r:Vals ys its')(hz:ys.length≤sizeLine)(t:Nat) :
   Inv X pins σ (upd H p (.lst ys)) { s with heap:=s.heap.update p f,toks:=t }:=by
 have e:(s.heap.update p f).get? p=some { cls:=.type "list",data:=.seq its'.toArray n' }:=by
   rw[Heap.get?_update_self f ho (by rw[hf]<;>rfl),hf]
 refine I.write (x:=p) (e:=p) (by rw[h];trivial) (.inl rfl) (fun b u hb q=>(Heap.get?_update_other _ _ (Ne.symm hb)).trans q) ⟨_,e⟩ ?_
 exact⟨hz,its',n',r,e⟩
def rSetL:V→V→V→Hp→(Hp→Prop)→Prop:=fun o i v H Q=>∃ p xs k j,o=.ref p∧i=.int k∧H p=some (.lst xs)∧ixN xs.length k=some j∧Q (upd H p (.lst (xs.set j v)))
theorem set_list:PSet X rSetL:=by
 intro pins s σ H o i v ov iv u Q I ro ri rv h
 obtain⟨p,xs,k,j,rfl,rfl,hp,hj,q⟩:=h
 cases ro
 obtain⟨t,rfl⟩:=ri
 obtain⟨its,n,r,ho,hz⟩:=I.lst hp
 obtain⟨h1,h2,h3,h4⟩:=b3z hj
 have hl:=r.length
 have hn:=b0v
 have I':Inv X pins σ (upd H p (.lst (xs.set j v))) { s with heap:=s.heap.update p (Obj.mapSeq (·.setIfInBounds j u)) }:=
   I.lstUpd hp ho (b1o its n j u) (r.set rv j) (by rw[List.length_set];exact hz) s.toks
 by_cases h0:0≤k
 · have hk:k.toNat=j:=by
     rw[seqIndex_of h0 h4] at h1
     exact b6l.inj h1
   exact PySem.W.ki_setAt ho h0 (by omega) (by rw[b5p,← hl];exact h4) (by rw[hk];exact⟨_,I',q⟩)
 · have hk:(k+(its.toArray.size:Int)).toNat=j:=by
     rw[seqIndex_neg (by omega) h3] at h1
     rw[b5p,← hl]
     exact b6l.inj h1
   exact PySem.W.ki_setBack ho (by omega) (by rw[b5p,← hl];exact h3) (by omega) (by rw[hk];exact⟨_,I',q⟩)
theorem a8b(lo hi:Option Int)(n:Nat):(sliceBounds lo hi none n).1=((HT.sIx n 0 lo:Nat):Int)∧(sliceBounds lo hi none n).2.1=((HT.sIx n n hi:Nat):Int)∧(sliceBounds lo hi none n).2.2=1:=by
 refine⟨?_,?_,rfl⟩
 · cases lo with
   | none=>simp[sliceBounds,HT.sIx]
   | some i=>
     simp only[sliceBounds,HT.sIx,Option.getD_none,show (1:Int) > 0 by decide,if_true]
     by_cases h:i<0
     · simp only[h,if_true]<;>omega
     · simp only[h,if_false]<;>omega
 · cases hi with
   | none=>simp[sliceBounds,HT.sIx]
   | some i=>
     simp only[sliceBounds,HT.sIx,Option.getD_none,show (1:Int) > 0 by decide,if_true]
     by_cases h:i<0
     · simp only[h,if_true]<;>omega
     · simp only[h,if_false]<;>omega
theorem a6z(its:List Value)(lo hi:Option Int):slicePick its.toArray lo hi none=((its.drop (HT.sIx its.length 0 lo)).take (HT.sIx its.length its.length hi - HT.sIx its.length 0 lo)).toArray:=by
 obtain⟨h1,h2,h3⟩:=a8b lo hi its.toArray.size
 unfold slicePick
 rw[h1,h2,h3]
 simp only[sliceRange_one,pick_run,b5p]<;>rfl
def rSlL(K:b5h):V→Option Int→Option Int→Hp→VK→Prop:=fun x lo hi H Q=>∃ a xs,x=.ref a∧SqL K H a xs∧∀ p,H p=none→Q (.ref p) (upd H p (.lst (cutV xs lo hi)))
theorem sl_list:SlR X (rSlL X.K):=by
 intro pins s σ H x v vl vu lo hi sl Q I rx hs pl pu h
 obtain⟨a,xs,rfl,hx,q⟩:=h
 cases rx
 obtain⟨its,r,ht,hz⟩:=I.list hx
 have hlen:=r.length
 refine⟨"list",_,slot_list_getitem.lookup,ht.isList.typeIs,?_⟩
 refine wpAny_getItem_list_slice ht.isList hs pl pu .none (by simp) ?_ (by rw[b5p]<;>omega)
 rw[a6z,← hlen]
 refine⟨.ref s.heap.objs.size,_,I.laid (t':=s.toks) (o:=.lst (cutV xs lo hi)) (fun b ob q=>Heap.get?_push_of_some _ q) (b5n _) ?_,rfl,q _ (I.hok.fresh (b5n _))⟩
 exact⟨b7j (b0a xs lo hi) hz,_,0,(r.drop (HT.sIx xs.length 0 lo)).take (HT.sIx xs.length xs.length hi - HT.sIx xs.length 0 lo),Heap.get?_push_size _ rfl⟩
theorem a8z:a2k X (.builtin "len") (fun xs H Q=>∃ p ys,xs=[.ref p]∧(SqL X.K H p ys∨SqT X.K H p ys)∧Q (.int ys.length) H):=by
 intro pins s σ H xs us Q I r h
 obtain⟨p,ys,rfl,hq,q⟩:=h
 obtain⟨u,rfl,rx⟩:=vals1 r
 cases rx
 have hn:=b0v
 rcases hq with hq | hq
 · obtain⟨its,r',pl,hz⟩:=I.list hq
   have hlen:=r'.length
   exact Calls.call_len_list pl.isList (by simp only[b5p]<;>omega) ⟨.int ys.length,H,I.tok _,⟨s.toks+1,by rw[b5p,hlen]⟩,q⟩
 · obtain⟨its,r',pl,hz⟩:=I.tuple hq
   have hlen:=r'.length
   exact len_tuple pl (by simp only[b5p]<;>omega) ⟨.int ys.length,H,I.tok _,⟨s.toks+1,by rw[b5p,hlen]⟩,q⟩
theorem a8y:a2k X (.type "list") (fun xs H Q=>∃ p ys,xs=[.ref p]∧(SqL X.K H p ys∨SqT X.K H p ys)∧∀ l,H l=none→Q (.ref l) (upd H l (.lst ys))):=by
 intro pins s σ H xs us Q I r h
 obtain⟨p,ys,rfl,hq,q⟩:=h
 obtain⟨u,rfl,rx⟩:=vals1 r
 cases rx
 have fin:∀ (its:List Value),Vals ys its→ys.length≤sizeLine→∀ (h':Heap) (c':Nat),(∀ b o',s.heap.get? b=some o'→h'.get? b=some o')→
     h'.get? s.heap.objs.size=some { cls:=.type "list",dict:=none,data:=.seq its.toArray c',slots:=#[] }→EP X pins σ Q (.ref s.heap.objs.size) { s with heap:=h' }:=fun its r' hz h' c' kp e=>
   ⟨.ref s.heap.objs.size,_,I.laid (t':=s.toks) kp (b5n _) (show a1s X.prog X.w _ h' _ (.lst ys) from ⟨hz,its,c',r',e⟩),rfl,q _ (I.hok.fresh (b5n _))⟩
 rcases hq with hq | hq
 · obtain⟨its,r',pl,hz⟩:=I.list hq
   have hlen:=r'.length
   obtain⟨o,ho,hc,n,hd⟩:=pl.isList
   exact call_list_seq p (.inl rfl) ho hc hd (fun h' c' kp e=>fin its r' hz h' c' kp e) (by simp only[b5p]<;>omega)
 · obtain⟨its,r',pl,hz⟩:=I.tuple hq
   have hlen:=r'.length
   obtain⟨o,ho,hc,n,hd⟩:=pl
   exact call_list_seq p (.inr rfl) ho hc hd (fun h' c' kp e=>fin its r' hz h' c' kp e) (by simp only[b5p]<;>omega)
def tyV(K:b5h)(T:String)(x:V)(H:Hp):Prop:=match x with
 | .str _=>T = "str"
 | .int _=>T = "int"
 | .ref p=>(T = "list" ∧ ∃ xs,SqL K H p xs)∨(T = "tuple" ∧ ∃ o,K.lookup p=some o∧o.cls=.type "tuple" ∧ o.dict=none)∨
     (T = "dict" ∧ ((∃ kvs,H p=some (.dK kvs))∨∃ kvs,H p=some (.dT kvs)))∨(T = "set" ∧ ∃ S n,H p=some (.set S n))
 | _=>False
theorem tyV_is{pins:List (Addr×Obj)}{σ:St}{H:Hp}{s:Shared}{T:String}{x:V}{v:Value}(I:Inv X pins σ H s)(r:RelV x v)(ty:tyV X.K T x H) :
   s.TypeIs v T∧∀ a,v=.ref a→∃ ob,s.heap.get? a=some ob∧ob.dict=none:=by
 cases x with
 | str z=>
   obtain⟨t,rfl⟩:=r
   cases (show T = "str" from ty)
   exact⟨typeIs_str s z t,fun _ e=>nomatch e⟩
 | int i=>
   obtain⟨t,rfl⟩:=r
   cases (show T = "int" from ty)
   exact⟨typeIs_int s i t,fun _ e=>nomatch e⟩
 | ref p=>
   cases r
   rcases ty with⟨rfl,xs,hq⟩ | ⟨rfl,o,hk,hc,hd⟩ | ⟨rfl,hk⟩ | ⟨rfl,S,n,hk⟩
   · obtain⟨its,_,pl,_⟩:=I.list hq
     refine⟨pl.isList.typeIs,fun a e=>?_⟩
     cases e
     obtain⟨o,n,e,c,hd,_⟩:=pl
     exact⟨o,e,hd⟩
   · refine⟨⟨o,I.kIn p o hk,hc⟩,fun a e=>?_⟩
     cases e
     exact⟨o,I.kIn _ o hk,hd⟩
   · have z:∃ o,s.heap.get? p=some o∧o.ExactDict:=by
       rcases hk with⟨kvs,hk⟩ | ⟨kvs,hk⟩
       · obtain⟨_,_,_,_,o,_,_,e,ex,_⟩:=I.hok p _ hk
         exact⟨o,e,ex⟩
       · obtain⟨_,_,_,_,o,_,_,e,ex,_⟩:=I.hok p _ hk
         exact⟨o,e,ex⟩
     obtain⟨o,e,ex⟩:=z
     refine⟨⟨o,e,ex.1⟩,fun a e2=>?_⟩
     cases e2
     exact⟨o,e,ex.2.1⟩
   · obtain⟨o,_,_,_,e,ex,_⟩:=I.hok p _ hk
     refine⟨⟨o,e,ex.1⟩,fun a e2=>?_⟩
     cases e2
     exact⟨o,e,ex.2.1⟩
 | _=>exact False.elim ty
def tBM0(K:b5h)(T:String)(r:V→List V→Hp→VK→Prop)(to:TE):TE:=fun σ H Q=>to σ H fun x H1=>tyV K T x H1∧r x [] H1 Q
def tBM(K:b5h)(T:String)(r:V→List V→Hp→VK→Prop)(to:TE)(t:TA):TE:=fun σ H Q=>to σ H fun x H1=>tyV K T x H1∧t σ H1 fun xs H2=>r x xs H2 Q
variable {o e:Expr} {es:List Expr} {to:TE} {t:TA} {name:Str} {apos cpos:Pos} {T id:String} {r:V→List V→Hp→VK→Prop}
theorem pe_bm0(pa:PlainAttrs T)(slot:Slot T name id)(hty:typeOf (.builtin id)=pure (.type "method_descriptor"))(hm:MtR X id r)(ho:PE X o to)(hbase:attributeBase o name X.env (eval o X.env)=eval o X.env:=by rfl)(hline:(apos.endLine == cpos.line)=true:=by rfl):PE X (.Call (.Attribute o name apos) [] [] cpos) (tBM0 X.K T r to):=by
 intro pins s σ H Q I h
 refine wpAny_Call_method0_late hbase hline (thn (ho pins s σ H _ I h) fun v s1 ⟨x,H1,I1,r1,ty,q1⟩=>?_)
 obtain⟨h1,h2⟩:=tyV_is I1 r1 ty
 exact⟨T,id,pa,slot,hty,h1,h2,Calls.callWith_builtin rfl (PySem.evalArgs_none (hm pins s1 σ H1 x [] v [] Q I1 r1 .nil q1))⟩
theorem pe_bm(pa:PlainAttrs T)(slot:Slot T name id)(hty:typeOf (.builtin id)=pure (.type "method_descriptor"))(hm:MtR X id r)(ho:PE X o to)(ha:PA X (e::es) t)(hbase:attributeBase o name X.env (eval o X.env)=eval o X.env:=by rfl)(hfew:((backTo cpos (starEach (e::es) X.env)).all (fun x=>!x.1) && (backToKw cpos (keywordEach [] X.env)).all (fun x=>x.1.isSome)
     && decide ((e::es).length+([]:List Keyword).length+(if ([]:List Keyword).isEmpty then 0 else 1)<30))=true:=by rfl)(hline:(apos.endLine == cpos.line)=true:=by rfl)(hs:starEach (e::es) X.env=(false,eval e X.env)::starEach es X.env:=by rfl)(hplain:(backTo cpos (starEach es X.env)).any (·.1)=false:=by rfl) :
   PE X (.Call (.Attribute o name apos) (e::es) [] cpos) (tBM X.K T r to t):=by
 intro pins s σ H Q I h
 refine wpAny_Call_method_late hbase hfew hline rfl (thn (ho pins s σ H _ I h) fun v s1 ⟨x,H1,I1,r1,ty,q1⟩=>?_)
 obtain⟨h1,h2⟩:=tyV_is I1 r1 ty
 refine⟨T,id,pa,slot,hty,h1,h2,?_⟩
 have hA:=ha cpos pins s1 σ H1 _ I1 q1
 rw[hs] at hA ⊢
 refine Calls.callWith_builtin (by show (false || (backTo cpos (starEach es X.env)).any (·.1))=false;rw[hplain]<;>rfl) (Calls.evalArgs_plain ?_)
 exact thn hA fun us s2 ⟨vs,H2,I2,r2,q2⟩=>hm pins s2 σ H2 x vs v us Q I2 r1 r2 q2
end
end L2
namespace L2
open PySem PySem.Spec PyProof.Rows
def MtM(X:Cx)(id:String)(r:V→List V→Hp→VK→Prop):Prop:=
 ∀ (pins:List (Addr×Obj)) (s:Shared) (σ:St) (H:Hp) (x:V) (xs:List V) (v:Value) (us:List Value) (Q:VK),Inv X pins σ H s→RelV x v→Vals xs us→r x xs H Q→
   wpAny (model X.prog X.w) X.A (call (.builtin id) (v::us)) (EP X pins σ Q) X.xe s
theorem Vals.one:∀ {x:V} {us:List Value},Vals [x] us→∃ u,us=[u]∧RelV x u
 | _,_,.cons r .nil=>⟨_,rfl,r⟩
theorem Vals.zero:∀ {us:List Value},Vals [] us→us=[]
 | _,.nil=>rfl
theorem Vals.dropLast{xs:List V}{us:List Value}(h:Vals xs us):Vals xs.dropLast us.dropLast:=by
 induction h with
 | nil=>exact .nil
 | cons r t ih=>
   cases t with
   | nil=>exact .nil
   | cons q t'=>exact .cons r ih
theorem Vals.reverse{xs:List V}{us:List Value}(h:Vals xs us):Vals xs.reverse us.reverse:=by
 induction h with
 | nil=>exact .nil
 | cons r t ih=>rw[List.reverse_cons,List.reverse_cons];exact Vals.append ih (.cons r .nil)
theorem b1t{α:Type}(l:List α):l.eraseIdx (l.length - 1)=l.dropLast:=by
 induction l with
 | nil=>rfl
 | cons a r ih=>
   cases r with
   | nil=>rfl
   | cons b r=>
     have e:(a::b::r).length - 1=((b::r).length - 1)+1:=by
       have h1:(a::b::r).length=r.length+2:=rfl
       have h2:(b::r).length=r.length+1:=rfl
       omega
     rw[e,List.eraseIdx_cons_succ,ih]
     all_goals rfl
section
variable {X:Cx} {pins:List (Addr×Obj)} {σ:St} {H:Hp} {s:Shared} {l b:Addr} {xs ys zs:List V}
theorem Inv.lset{its its':List Value}{n:Nat}{f:Array Value→Array Value}{t':Nat}(I:Inv X pins σ H s)(hH:H l=some (.lst xs))(e:s.heap.get? l=some { cls:=.type "list",data:=.seq its.toArray n })(hf:f its.toArray=its'.toArray)(hv:Vals ys its')(hz:ys.length≤sizeLine) :
   Inv X pins σ (upd H l (.lst ys)) { s with heap:=s.heap.update l (Obj.mapSeq f),toks:=t' }:=by
 have q:=PySem.IsL.update e f
 rw[hf] at q
 refine I.write (x:=l) (e:=l) (by rw[hH];exact trivial) (.inl rfl) (fun b' u hb hu=>(Heap.get?_update_other s.heap (Obj.mapSeq f) (Ne.symm hb)).trans hu) ⟨_,q⟩ ?_
 exact⟨hz,its',_,hv,q⟩
theorem Inv.lnew{its:List Value}{t':Nat}(I:Inv X pins σ H s)(hv:Vals ys its)(hz:ys.length≤sizeLine) :
   Inv X pins σ (upd H s.heap.objs.size (.lst ys)) { s with heap:=s.heap.push { cls:=.type "list",data:=.seq its.toArray },toks:=t' }:=
 I.laid (fun _ _ q=>Heap.get?_push_of_some _ q) (b5n _) ⟨hz,its,0,hv,Heap.get?_push_size _ rfl⟩
theorem Inv.fresh(I:Inv X pins σ H s):H s.heap.objs.size=none:=I.hok.fresh (b5n _)
theorem Inv.lstM(I:Inv X pins σ H s)(hH:H l=some (.lst xs)):xs.length≤sizeLine∧∃ (its:List Value) (n:Nat),Vals xs its∧xs.length=its.length∧s.heap.get? l=some { cls:=.type "list",data:=.seq its.toArray n }:=by
 obtain⟨z,its,n,r,e⟩:=I.hok l _ hH
 exact⟨z,its,n,r,r.length,e⟩
end
section
variable {X:Cx}
def rAppend:V→List V→Hp→VK→Prop:=fun x vs H Q=>∃ l xs y,x=.ref l∧vs=[y]∧H l=some (.lst xs)∧xs.length<sizeLine∧Q .non (upd H l (.lst (xs++[y])))
theorem a3h:MtM X "list.append" rAppend:=by
 intro pins s σ H x vs v us Q I rx rv h
 obtain⟨l,xs,y,rfl,rfl,hH,hz,q⟩:=h
 cases rx
 obtain⟨u,rfl,ru⟩:=rv.one
 obtain⟨z,its,n,r,hl,e⟩:=I.lstM hH
 refine call_meets F.slot_list_append ⟨_,e,rfl⟩ F.entry_list_append (F.args_list_append_2 _ _) (PySem.list_append l its.toArray n u (by rw[b5p];omega)) ⟨e,?_⟩
 refine⟨.non,_,I.lset (its':=its++[u]) hH e (by simp) (r.append (.cons ru .nil)) ?_,rfl,q⟩
 rw[b5u,List.length_singleton]
 omega
def rPop:V→List V→Hp→VK→Prop:=fun x vs H Q=>∃ l xs y,x=.ref l∧vs=[]∧H l=some (.lst xs)∧xs[xs.length - 1]?=some y∧Q y (upd H l (.lst xs.dropLast))
theorem mt_pop:MtM X "list.pop" rPop:=by
 intro pins s σ H x vs v us Q I rx rv h
 obtain⟨l,xs,y,rfl,rfl,hH,hy,q⟩:=h
 cases rx
 have hus:=rv.zero
 subst hus
 obtain⟨z,its,n,r,hl,e⟩:=I.lstM hH
 obtain⟨u,hu,ru⟩:=r.get hy
 have hy':its.toArray[its.toArray.size - 1]?=some u:=by
   show its.toArray[its.length - 1]?=some u
   rw[← b7d,← hl]
   exact hu
 refine call_meets F.slot_list_pop ⟨_,e,rfl⟩ F.entry_list_pop (F.args_list_pop_1 _) (MeetsSeq.list_pop_last l its.toArray n u hy' (by rw[b5p];omega)) ⟨e,?_⟩
 refine⟨y,_,I.lset (its':=its.dropLast) hH e ?_ r.dropLast ?_,ru,q⟩
 · show its.toArray.eraseIdxIfInBounds (its.toArray.size - 1)=its.dropLast.toArray
   rw[b5p,List.eraseIdxIfInBounds_toArray,b1t]
 · rw[b7h]
   omega
def rCat:R2:=fun x y H Q=>∃ l b xs zs,x=.ref l∧y=.ref b∧H l=some (.lst xs)∧H b=some (.lst zs)∧xs.length+zs.length≤sizeLine∧∀ p,H p=none→Q (.ref p) (upd H p (.lst (xs++zs)))
theorem b0s:OpR X (binaryOp .Add) rCat:=by
 intro pins s σ H x y v u Q I rx ry h
 obtain⟨l,b,xs,zs,rfl,rfl,hH,hB,hz,q⟩:=h
 cases rx
 cases ry
 obtain⟨z,its,n,r,hl,e⟩:=I.lstM hH
 obtain⟨z2,its2,n2,r2,hl2,e2⟩:=I.lstM hB
 refine PySem.P.add_list e e2 ?_ (by rw[b5p,b5p];omega)
 have ea:its.toArray++its2.toArray=(its++its2).toArray:=by simp
 rw[ea]
 exact⟨.ref _,_,I.lnew (t':=s.toks) (r.append r2) (by rw[b5u];omega),rfl,q _ I.fresh⟩
end
section
variable {prog:Program} {w:World} {A:Around} {E:Value→Shared→Prop} {s:Shared}
set_option maxRecDepth 100000 in
end
end L2
namespace Att
open PySem PySem.W PySem.Calls PyProof.Rows
theorem a5s{P:Params}{h:Heap}:∀ (ns:List Int) (vs:List Value),WellAll P h vs (ns.map WData.int)→IntsAre vs ns:=by
 intro ns
 induction ns with
 | nil=>
   intro vs w
   rw[List.map_nil] at w
   cases w
   exact .nil
 | cons n ns ih=>
   intro vs w
   rw[b7m] at w
   cases w with
   | cons a b=>
     cases a
     exact .cons _ _ (ih _ b)
theorem b2w{l:OpenLaw}{n:Nat}(hn:l.most=some n){P:Params}{h:Heap}{args:List WData}{vals:List Value}(hpre:l.row.toRowW.claim.pre args=true)(hwl:WellAll P h vals args) :
   ∃ a vs ns,vals=[Value.ref a]∧args=[WData.list (ns.map WData.int)]∧h.get? a=some { cls:=.type "list",data:=.seq vs.toArray }∧IntsAre vs ns∧ns.length≤n:=by
 have hsh:WShape.hasAll [] args [.list .int]=true:=(pre_splitW hpre).1
 have hc:l.pre.holds [] { args:=args }=true:=(pre_splitW hpre).2
 obtain⟨d,r,rfl,h1,h2⟩:=hasAllW_cons hsh
 obtain rfl:=hasAllW_nil h2
 obtain⟨xs,rfl,h3⟩:=hasW_list h1
 obtain⟨ns,rfl⟩:=items_int h3
 have hlen:ns.length≤n:=by
   unfold OpenLaw.pre at hc
   have h4:(WTm.not (.lt (.lit (.int (n:Int))) (.len (.arg 0)))).holds [] { args:=[.list (ns.map .int)] }=true:=by
     have h4:=(holds_andW hc).1
     rw[hn] at h4
     exact h4
   have h5:=condW_of h4 (w_not (w_lt w_lit (w_len_list (w_arg rfl))))
   rw[b5j] at h5
   refine Nat.le_of_not_lt fun q=>?_
   have q':(n:Int)<((ns.length:Nat):Int):=by omega
   first
     | (rw[decide_eq_true q'] at h5;exact absurd h5 (by decide))
     | (simp at h5;omega)
 cases hwl with
 | cons w1 w2=>
   cases w2
   cases w1 with
   | list ho hall=>exact⟨_,_,ns,rfl,rfl,ho,a5s ns _ hall,hlen⟩
theorem b3e(l:OpenLaw)(args:List WData):l.row.toRowW.claim.post args (.bool true) args=true:=
 postW_of (r:=l.row.toRowW) (X:=(true == true))
   (show WShape.has [] (.bool true) .bool=true by first | rfl | decide | simp[WShape.has,WShape.arms,WShape.armsAll])
   (show (WTm.eq .res (.lit (.bool true))).value [] { args:=args,res:=some (.bool true),after:=args }=some (.bool (true == true)) from w_eq_bool (w_res rfl) w_lit) rfl
theorem b0d{l:OpenLaw}{n:Nat}{q:Program}{loose:List Str}{XP:(Str→Option Value)→Heap→Prop}{YP:World→Heap→Prop}{d:DefRec}(hn:l.most=some n)(hdf:d.params.defaults=[])(call:∀ (w:World) (s₀ s₁:Shared) (mg mb:Str→Option Value) (fa:Addr) (o:Obj) (pm cd doc:Value) (a:Addr) (vs:List Value) (ns:List Int),
     Ground q loose [] XP w s₀ mg mb s₁.heap→YP w s₁.heap→
     s₁.heap.get? fa=some o→o.data=.func (docDef d.name d.params d.body d.scope pm cd doc)→s₁.heap.CodeRec cd d.name→mg d.name=some (.ref fa)→
     s₁.heap.get? a=some { cls:=.type "list",data:=.seq vs.toArray }→IntsAre vs ns→ns.length≤n→s₁.gens = #[]→
     codeAny (model l.prog w) callerA (.call (.ref fa) ⟨[.ref a],[]⟩) (fun r s'=>r=.ok (.ret (.bool true))∧OldK s₁.heap s'.heap∧s'.os=s₁.os∧AllBare s'.gens) s₁) :
   WalkO q loose XP YP l.row.toRowW d [] (fun f vs=>PySem.call f vs):=by
 intro w s₀ s₁ mg mb G Y fa o pm cd doc dV kV ho hd hcd hD hmg hg args vals as hpre hlay hrd hwl hlo
 obtain rfl:dV=.none:=Dflts.none hD hdf
 obtain rfl:kV=.none:=Dflts.noKw hD
 obtain⟨a,vs,ns,rfl,rfl,hobj,hints,hlen⟩:=b2w hn hpre hwl
 refine enter_call (codeAny_mono (call w s₀ s₁ mg mb fa o pm cd doc a vs ns G Y ho (fd_plain hd) hcd hmg hobj hints hlen hg) fun r s' hq=>?_)
 obtain⟨rfl,h2,h3,h4⟩:=hq
 exact⟨.inl ⟨.bool true,.bool true,[],rfl,fun _=>rfl,.bool true,b3e l _,fun _=>⟨List.Pairwise.nil,fun _ hm=>(nomatch hm)⟩⟩,h2,h3,h4⟩
end Att
namespace L2
open PySem PySem.Spec PyProof.Rows
theorem a7u:∀ {vs:List Value} {ns:List Int},IntsAre vs ns→Vals (ns.map V.int) vs
 | _,_,.nil=>.nil
 | _,_,.cons n t h=>.cons ⟨t,rfl⟩ (a7u h)
def Only(H:Hp):Prop:=∀ b,H b=none∨∃ o xs,H b=some (.frz o (.lst xs))
theorem law_call{P:Program}{w:World}{K:b5h}{mg mb:Str→Option Value}{CX:CXT}{k:Nat}{fa a:Addr}{fd:FuncData}{x:Str}{sp:Sp}{s₁:Shared}{vs:List Value}{ns:List Int}(KX:K.In s₁.heap)(hns:s₁.heap.Ns mainGlobals mg)(hb:s₁.heap.Ns builtinsNs mb)(hbb:∀ x:Str,x ≠ "__name__" → mb x=bootBuiltins x)(hlim:s₁.heap.NoLimit)(hg:s₁.gens = #[])(ha:s₁.heap.get? a=some { cls:=.type "list",data:=.seq vs.toArray })(hi:IntsAre vs ns)(hl:ns.length≤sizeLine)(hr:Room k callerA)(F:∀ base:Heap,K.In base→base.Ns mainGlobals mg→FnOk P w K mg base CX k fa fd [x] sp)(hbind:∀ (s:Shared) (u:Value),BindsTo s fd ⟨[u],[]⟩ [(x,u)])(hsp:∀ H:Hp,Only H→SqL K H a (ns.map V.int)→sp [.ref a] H (fun v _=>v=.bl true) fun _ _ _=>False)(hCX:∀ H e s',CX [] H s₁ (fun _ _ _=>False) e s'→False) :
   codeAny (model P w) callerA (.call (.ref fa) ⟨[.ref a],[]⟩) (fun r s'=>r=.ok (.ret (.bool true))∧OldK s₁.heap s'.heap∧s'.os=s₁.os∧AllBare s'.gens) s₁:=by
 have rv:=a7u hi
 have lenV:=hi.length
 have core:∀ H:Hp,Only H→SqL K H a (ns.map V.int)→HOk P w H s₁.heap→(∀ b,H b≠none→b=a)→(H a≠none→K.lookup a=none)→
     codeAny (model P w) callerA (.call (.ref fa) ⟨[.ref a],[]⟩) (fun r s'=>r=.ok (.ret (.bool true))∧OldK s₁.heap s'.heap∧s'.os=s₁.os∧AllBare s'.gens) s₁:=by
   intro H hO hS hok hA hK
   have base_of:∀ {b:Addr} {o:Obj},s₁.heap.get? b=some o→H b=none→(hidT s₁.heap H).get? b=some o:=fun e n=>hidT_get e n
   have noA:∀ {b:Addr} {o:Obj} {es:Array DictEntry} {ep:Nat},s₁.heap.get? b=some o→o.data=.dict es ep→H b=none:=fun {b o es ep} e d=>by
     cases q:H b with
     | none=>rfl
     | some u=>
       have e':b=a:=hA b (by rw[q];simp)
       subst e'
       rw[ha] at e;cases e
       have d':Data.seq vs.toArray _=Data.dict es ep:=d
       cases d'
   have nsK:∀ {b:Addr} {m:Str→Option Value},s₁.heap.Ns b m→(hidT s₁.heap H).Ns b m:=fun {b m} ⟨o,es,ep,e,d,r⟩=>⟨o,es,ep,base_of e (noA e d),d,r⟩
   have hKb:K.In (hidT s₁.heap H):=fun b o e=>base_of (KX b o e) (by
     cases q:H b with
     | none=>rfl
     | some u=>
       have e':b=a:=hA b (by rw[q];simp)
       subst e'
       rw[hK (by rw[q];simp)] at e;cases e)
   have hM:Mod K mg (hidT s₁.heap H):=⟨hKb,nsK hns,⟨mb,nsK hb,hbb⟩,let ⟨mc,h1,h2⟩:=hlim;⟨mc,nsK h1,h2⟩⟩
   have e0:Env0 P w K mg (hidT s₁.heap H) callerA [] s₁ H:=⟨rfl,hM,fun b o e=>of_hidT e,Nat.le_of_eq (b4e _ _),trivial,fun b hb=>absurd (show b∈([]:List Addr) from hb) (by simp),hok,.of_eq hg⟩
   refine codeAny_mono ((F _ hKb (nsK hns)).run callerA [] s₁ H ⟨[.ref a],[]⟩ [.ref a] [.ref a] _ _ hr e0 (hbind s₁ (.ref a)) (.cons rfl .nil) (hsp H hO hS)) fun r s' h=>?_
   cases r with
   | error e=>exact (hCX H e s' h).elim
   | ok fl=>
     cases fl with
     | next=>exact False.elim h
     | brk=>exact False.elim h
     | cont=>exact False.elim h
     | ret u=>
       obtain⟨v,H',os,bare,un,hok',r',q⟩:=h
       have q':v=.bl true:=q
       subst q'
       obtain rfl:u=Value.bool true:=r'
       refine⟨rfl,OldK.of_keep fun b o e=>?_,os,bare⟩
       cases q:H b with
       | none=>exact un.keep b o e q (by intro z;exact absurd (show b∈([]:List Addr) from z) (by simp)) (by simp)
       | some u=>
         rcases hO b with z | ⟨ob,xs,z⟩
         · rw[q] at z;cases z
         · have z2:=un.frzs b ob _ z
           obtain⟨e1,_⟩:=hok b _ z
           obtain⟨e2,_⟩:=hok' b _ z2
           rw[e] at e1;cases e1
           exact e2
 cases hk:K.lookup a with
 | some o=>
   have e:=KX a o hk
   rw[ha] at e
   cases e
   refine core (fun _=>none) (fun _=>.inl rfl) (.inr ⟨_,vs.toArray,_,hk,rfl,rfl,rfl,by rw[b5p,lenV];exact hl,by simpa using rv⟩) (fun b u z=>by have z':(none:Option HO)=some u:=z;cases z') (fun b z=>absurd rfl z) fun z=>absurd rfl z
 | none=>
   refine core (fun b=>if b=a then some (.frz { cls:=.type "list",data:=.seq vs.toArray } (.lst (ns.map V.int))) else none) (fun b=>?_) (.inl (.inr ⟨{ cls:=.type "list",data:=.seq vs.toArray },if_pos rfl⟩)) (fun b u z=>?_) (fun b z=>?_) fun _=>hk
   · by_cases hb:b=a
     · exact .inr ⟨_,_,if_pos hb⟩
     · exact .inl (if_neg hb)
   · by_cases hb:b=a
     · have z':=(if_pos hb).symm.trans z
       cases z'
       subst hb
       exact⟨ha,by rw[b5j];exact hl,vs,_,rv,ha⟩
     · have z':=(if_neg hb).symm.trans z
       cases z'
   · by_cases hb:b=a
     · exact hb
     · exact absurd (if_neg hb) z
end L2
namespace L2
open PySem PySem.Spec PyProof.Rows
theorem walk_of{l:PySem.W.OpenLaw}{n k:Nat}{q:Program}{loose:List Str}{XP:(Str→Option Value)→Heap→Prop}{YP:World→Heap→Prop}{d:DefRec}{K:Params→b5h}{CX:World→CXT}{sp:World→Sp}{x:Str}(hn:l.most=some n)(hn2:n≤sizeLine)(hdf:d.params.defaults=[])(hr:Room k callerA)(hY:∀ (w:World) (h:Heap),YP w h→(K w.params).In h)(F:∀ (w:World) (mg:Str→Option Value) (fa:Addr) (h:Heap),(K w.params).In h→h.Ns mainGlobals mg→mg d.name=some (.ref fa)→
     ∃ fd:FuncData,(∀ (s:Shared) (u:Value),BindsTo s fd ⟨[u],[]⟩ [(x,u)])∧
       ∀ base:Heap,(K w.params).In base→base.Ns mainGlobals mg→FnOk l.prog w (K w.params) mg base (CX w) k fa fd [x] (sp w))(hsp:∀ (w:World) (H:Hp) (a:Addr) (ns:List Int),ns.length≤n→Only H→SqL (K w.params) H a (ns.map V.int)→sp w [.ref a] H (fun v _=>v=.bl true) fun _ _ _=>False)(hCX:∀ (w:World) (H:Hp) (s:Shared) (e:Value) (s':Shared),CX w [] H s (fun _ _ _=>False) e s'→False) :
   PySem.W.WalkO q loose XP YP l.row.toRowW d [] (fun f vs=>PySem.call f vs):=by
 refine Att.b0d hn hdf fun w s₀ s₁ mg mb fa o pm cd doc a vs ns G Y ho hd hcd hmg hobj hints hlen hg=>?_
 have KX:=hY w _ Y
 obtain⟨fd,hb,hF⟩:=F w mg fa _ KX G.T.g hmg
 exact law_call KX G.T.g G.T.b G.T.builtins G.T.nolimit hg hobj hints (b7j hlen hn2) hr hF hb (fun H hO hS=>hsp w H a ns hlen hO hS) fun H e s'=>hCX w H s₁ e s'
end L2
namespace L2
open PySem PySem.Spec PyProof.Rows
def a2j(s:Stmt):Arguments:=match s with
 | .FunctionDef _ a _ _ _ _ _ _ _ _=>a
 | _=>{ posonlyargs:=[],args:=[],vararg:=none,kwonlyargs:=[],kw_defaults:=[],kwarg:=none,defaults:=[] }
def a1p(s:Stmt):List Stmt:=match s with
 | .FunctionDef _ _ b _ _ _ _ _ _ _=>b
 | _=>[]
def a0g(s:Stmt):Scope:=match s with
 | .FunctionDef _ _ _ _ _ _ sc _ _ _=>sc
 | _=>{ kind:=.function,names:=[],isGenerator:=false,isCoroutine:=false }
abbrev CX0:CXT:=fun _ _ _ _ _ _=>False
abbrev E0:XK:=fun _ _ _=>False
theorem a1j{X:Cx}:a9f CX0 X E0:=fun _ _ _ _ _ _ _ h=>h.elim
structure Fun(K:b5h)(x qual:Str)(st:Stmt)(f:Addr)(fd:FuncData):Prop where
 ex:∃ (oc:Value) (od:Option Addr) (kV doc pm:Value) (an:Option Addr) (cdv ct:Value) (osl:Array (Option Value)),
   fd=b6m x qual (a2j st) (a1p st) (a0g st) .none kV doc pm an cdv ct∧K.lookup f=some ⟨oc,od,.func fd,osl⟩∧b7w K cdv qual=true
 kp:b7s K (.ref f)=true
section
variable {P:Program} {w:World} {K:b5h} {mg:Str→Option Value} {base:Heap}
theorem Fun.ok{x qual:Str}{st:Stmt}{f:Addr}{fd:FuncData}{N ps:List Str}{k:Nat}{sp:Sp}(F:Fun K x qual st f fd)(S:a0t N ps (a0g st))(len:∀ vs H Q E,sp vs H Q E→vs.length=ps.length)(hbody:∀ (cdv:Value) (A:Around) (outer:List Env) (s:Shared) (H:Hp) (vs:List V) (Q:VK) (E:XK),Room k (A.deeper (envOfC qual (a0g st) s.heap.objs.size f cdv))→sp vs H Q E→
     ∃ t,PSs (cxOf CX0 P w K mg base N qual (a0g st) f cdv A outer s H E).nox (a1p st) t∧t { nx:=fun _ H'=>Q .non H',rt:=Q } (a5x N vs) H):FnOk P w K mg base CX0 (k+1) f fd ps sp:=by
 obtain⟨oc,od,kV,doc,pm,an,cdv,ct,osl,rfl,lk,hcd⟩:=F.ex
 refine fn_of lk hcd S len fun A outer s H vs Q E hr hsp=>?_
 obtain⟨t,h,q⟩:=hbody cdv A outer s H vs Q E hr hsp
 exact⟨t,h.nox,q⟩
theorem Fun.binds{x qual:Str}{st:Stmt}{f:Addr}{fd:FuncData}{ps:List Str}(F:Fun K x qual st f fd)(h:∀ (kV doc pm:Value) (an:Option Addr) (cdv ct:Value) (us:List Value),us.length=ps.length→bindArgs (b6m x qual (a2j st) (a1p st) (a0g st) .none kV doc pm an cdv ct) ⟨us,[]⟩=pure (ps.zip us)):b0f K fd ps []:=by
 obtain⟨oc,od,kV,doc,pm,an,cdv,ct,osl,rfl,lk,hcd⟩:=F.ex
 exact .all (h kV doc pm an cdv ct)
theorem fun_mk{x qual:Str}{st:Stmt}{f:Addr}{oc:Value}{od an:Option Addr}{osl:Array (Option Value)}{kV doc pm cdv ct:Value}(l:K.lookup f=some ⟨oc,od,.func (b6m x qual (a2j st) (a1p st) (a0g st) .none kV doc pm an cdv ct),osl⟩)(c:b7w K cdv qual=true)(k:b7s K (.ref f)=true):Fun K x qual st f (b6m x qual (a2j st) (a1p st) (a0g st) .none kV doc pm an cdv ct):=⟨⟨oc,od,kV,doc,pm,an,cdv,ct,osl,rfl,l,c⟩,k⟩
end
section
variable {X:Cx}
theorem pv(i:Nat){x:Str}{pos:Pos}(hN:X.N[i]?=some x:=by rfl)(hv:Vis X.env.scope x:=by first | exact Or.inl rfl | exact Or.inr (Or.inl rfl) | exact Or.inr (Or.inr rfl))(hd:(x == ("__debug__" : Str))=false:=by decide)(hcd:(x == ("__classdict__" : Str))=false:=by decide):PE X (.Name x pos) (tVar i):=pe_var hN hv hd hcd
end
theorem iteF{A B:Prop}(h:B):if false=true then A else B:=by
 rw[if_neg b5r]
 exact h
theorem iteNS{c A B:Prop}[Decidable c](hc:c)(h:B):if (!decide c)=true then A else B:=by
 rw[decide_eq_true hc]
 exact iteF h
def Same(H H':Hp):Prop:=∀ b o,H b=some o→H' b=some o
theorem Same.refl(H:Hp):Same H H:=fun _ _ h=>h
theorem Same.trans{H H1 H2:Hp}(a:Same H H1)(b:Same H1 H2):Same H H2:=fun c o h=>b c o (a c o h)
theorem Same.free{H H':Hp}(e:Same H H'){l:Addr}(h:H' l=Option.none):H l=Option.none:=by
 cases q:H l with
 | none=>rfl
 | some o=>
   rw[e l o q] at h
   cases h
theorem Same.seq{K:b5h}{H H':Hp}{a:Addr}{xs:List V}(e:Same H H')(h:SqL K H a xs):SqL K H' a xs:=by
 rcases h with (h | ⟨o,h⟩) | h
 · exact .inl (.inl (e _ _ h))
 · exact .inl (.inr ⟨o,e _ _ h⟩)
 · exact .inr h
end L2
namespace Cv
open PySem PySem.W PyProof.Rows
section
variable {n:Nat} {lt:Nat→Nat→Bool}
structure Pm(n:Nat)(p:Array Nat):Prop where
 sz:p.size=n
 pm:p.toList.Perm (b7l n)
abbrev gp(p:Array Nat)(i:Nat):Nat:=p.getD i 0
theorem gp_eq(p:Array Nat)(i:Nat):gp p i=(p[i]?).getD 0:=by unfold gp;rw[b7q]
theorem Pm.bl{p:Array Nat}(h:Pm n p)(h1:1≤n)(i:Nat):gp p i<n:=by
 rw[gp_eq]
 cases e:p[i]? with
 | none=>exact h1
 | some x=>
   have:x∈p.toList:=by rw[← b7d] at e;exact b6e e
   exact List.mem_range.mp (h.pm.mem_iff.mp this)
theorem Pm.of{p q:Array Nat}(h:Pm n p)(hs:q.size=p.size)(hp:q.Perm p):Pm n q:=⟨by rw[hs,h.sz],(Array.perm_iff_toList_perm.mp hp).trans h.pm⟩
variable {cmp:Nat→Nat→(Bool→Shared→Prop)→Shared→Prop} {s:Shared}
theorem a8g{p:Array Nat}(h:Pm n p)(i j:Nat):Pm n (kas_rev p i j):=h.of (mirror_size _ _ _ _) (mirror_perm _ _ _ _)
end
end Cv
namespace L2
open PySem PySem.Spec PyProof.Rows
section
variable {κ:Type} [DecidableEq κ]
def valV(kvs:List (κ×V))(k:κ):Option V:=(kvs.find? fun kv=>decide (kv.1=k)).map (·.2)
theorem valV_nil{k:κ}:valV ([]:List (κ×V)) k=none:=rfl
end
end L2
namespace Cv
structure Sz(n:Nat)(x:Int):Prop where
 lt:x.natAbs<2^n
theorem Sz.mono{n m:Nat}{x:Int}(h:Sz n x)(hm:n≤m):Sz m x:=⟨b5v h.lt (Nat.pow_le_pow_right (by decide) hm)⟩
theorem Sz.le{n:Nat}{x y:Int}(h:Sz n x)(hy:y.natAbs≤x.natAbs):Sz n y:=⟨Nat.lt_of_le_of_lt hy h.lt⟩
theorem Sz.mul{n m:Nat}{x y:Int}(h:Sz n x)(k:Sz m y):Sz (n+m) (x*y):=by
 refine⟨?_⟩
 rw[Int.natAbs_mul,Nat.pow_add]
 exact Nat.mul_lt_mul'' h.lt k.lt
theorem Sz.add{n m:Nat}{x y:Int}(h:Sz n x)(k:Sz m y):Sz (max n m+1) (x+y):=by
 refine⟨?_⟩
 have h1:=(h.mono (Nat.le_max_left n m)).lt
 have h2:=(k.mono (Nat.le_max_right n m)).lt
 have h3:=Int.natAbs_add_le x y
 rw[Nat.pow_succ]
 omega
theorem Sz.neg{n:Nat}{x:Int}(h:Sz n x):Sz n (-x):=⟨by rw[Int.natAbs_neg];exact h.lt⟩
theorem Sz.sub{n m:Nat}{x y:Int}(h:Sz n x)(k:Sz m y):Sz (max n m+1) (x - y):=by
 rw[Int.sub_eq_add_neg]
 exact h.add k.neg
theorem Sz.one:Sz 1 1:=⟨by decide⟩
theorem Sz.zero:Sz 0 0:=⟨by decide⟩
structure Bd(n:Nat)(q:Rat):Prop where
 num:Sz n q.num
 den:Sz n (q.den:Int)
theorem Bd.mono{n m:Nat}{q:Rat}(h:Bd n q)(hm:n≤m):Bd m q:=⟨h.num.mono hm,h.den.mono hm⟩
theorem num_le(a b:Int)(hb:b≠0):(b5l a b).num.natAbs≤a.natAbs∧(b5l a b).den≤b.natAbs:=by
 refine⟨?_,?_⟩
 · rw[Rat.num_divInt]
   have h2:(b.sign*a).natAbs=a.natAbs:=by
     rw[Int.natAbs_mul,Int.natAbs_sign_of_ne_zero hb,Nat.one_mul]
   have hd:(b.gcd a:Int)∣b.sign*a:=Int.dvd_mul_of_dvd_right (Int.gcd_dvd_right ..)
   rw[← h2]
   have:=Int.natAbs_ediv_of_dvd hd
   rw[this]
   exact Nat.div_le_self _ _
 · rw[Rat.den_divInt,if_neg hb]
   exact Nat.div_le_self _ _
theorem Bd.of{n m:Nat}{a b:Int}(ha:Sz n a)(hb:Sz m b)(h0:b≠0):Bd (max n m) (b5l a b):=
 ⟨(ha.mono (Nat.le_max_left n m)).le (num_le a b h0).1,(hb.mono (Nat.le_max_right n m)).le (by rw[Int.natAbs_natCast];exact (num_le a b h0).2)⟩
theorem a4x(q:Rat):(q.den:Int)≠0:=by have:=q.den_pos;omega
theorem add_eq(a b:Rat):b5l (a.num*b.den+b.num*a.den) ((a.den:Int)*b.den)=a+b:=by
 have:=Rat.divInt_add_divInt a.num b.num (a4x a) (a4x b)
 rw[b7g,b7g] at this
 exact this.symm
theorem sub_eq(a b:Rat):b5l (a.num*b.den - b.num*a.den) ((a.den:Int)*b.den)=a - b:=by
 have:=Rat.divInt_sub_divInt a.num b.num (a4x a) (a4x b)
 rw[b7g,b7g] at this
 exact this.symm
theorem mul_eq(a b:Rat):b5l (a.num*b.num) ((a.den:Int)*b.den)=a*b:=by
 have:=Rat.divInt_mul_divInt a.num b.num (d₁:=a.den) (d₂:=b.den)
 rw[b7g,b7g] at this
 exact this.symm
theorem a4t(a b:Rat):(a.den:Int)*b.den≠0:=Int.mul_ne_zero (a4x a) (a4x b)
theorem Bd.add{n m:Nat}{a b:Rat}(h:Bd n a)(k:Bd m b):Bd (n+m+1) (a+b):=by
 rw[← add_eq]
 exact (Bd.of ((h.num.mul k.den).add (k.num.mul h.den)) (h.den.mul k.den) (a4t a b)).mono (by omega)
theorem Bd.sub{n m:Nat}{a b:Rat}(h:Bd n a)(k:Bd m b):Bd (n+m+1) (a - b):=by
 rw[← sub_eq]
 exact (Bd.of ((h.num.mul k.den).sub (k.num.mul h.den)) (h.den.mul k.den) (a4t a b)).mono (by omega)
theorem Bd.mul{n m:Nat}{a b:Rat}(h:Bd n a)(k:Bd m b):Bd (n+m) (a*b):=by
 rw[← mul_eq]
 exact (Bd.of (h.num.mul k.num) (h.den.mul k.den) (a4t a b)).mono (by omega)
theorem b2v(t b:Int)(hb:0<b):t.fdiv (b5x t b)=(b5l t b).num∧b.fdiv (b5x t b)=((b5l t b).den:Int):=by
 rw[Rat.num_divInt,Rat.den_divInt,if_neg (by omega),Int.sign_eq_one_of_pos hb,Int.one_mul,Int.gcd_comm b t]
 refine⟨b6g _ (Int.natCast_nonneg _),?_⟩
 rw[b6g _ (Int.natCast_nonneg _),Int.natCast_ediv,Int.natAbs_of_nonneg (Int.le_of_lt hb)]
theorem b0y(a b:Int):b5x b (a.fmod b)=b5x a b:=by
 rw[Int.fmod_def,Int.sub_eq_add_neg,← Int.mul_neg,Int.gcd_add_mul_left_right,Int.gcd_comm]
theorem fmod_lt(a b:Int)(hb:b≠0):(a.fmod b).natAbs<b.natAbs:=by
 rw[Int.fmod_eq_emod]
 have h1:=b6q a hb
 have h2:=Int.emod_lt a hb
 by_cases h:0≤b∨b∣a
 · rw[if_pos h];omega
 · rw[if_neg h]
   have h3:a % b≠0:=fun z=>h (.inr (Int.dvd_of_emod_eq_zero z))
   omega
theorem gcd_zero(a:Int):(if a<0 then -a else a)=(b5x a 0:Int):=by
 rw[Int.gcd_zero]
 split<;>omega
theorem gcd_pos'(t b:Int)(hb:b≠0):(b5x t b:Int)≠0:=by
 have:=Int.gcd_pos_of_ne_zero_right t hb
 omega
end Cv
namespace Cv
theorem b0t(q:Rat):(q.num:Rat)=q*((q.den:Int):Rat):=by
 have h:=b7g q
 rw[b7i] at h
 have hd:((q.den:Int):Rat)≠0:=by
   intro z
   exact a4x q (by exact_mod_cast z)
 conv=>rhs;rw[← h]
 grind
theorem a9x(q:Rat):((q.den:Int):Rat)≠0:=by
 intro z
 exact a4x q (by exact_mod_cast z)
theorem a8q{q:Rat}{t b:Int}(hb:b≠0)(h:q*(b:Rat)=(t:Rat)):q=b5l t b:=by
 rw[b7i]
 have hb':(b:Rat)≠0:=by
   intro z
   exact hb (by exact_mod_cast z)
 grind
end Cv
namespace Cv
open PySem PySem.Spec PyProof.Rows L2
section
variable {X:Cx}
def CMulB(i j:Int):Prop:=∃ n m,Sz n i∧Sz m j∧n+m≤100000000
def CDivB(_i j:Int):Prop:=j≠0∧Sz 9000 j
theorem a5d:OpR X (binaryOp .FloorDiv) (rI CDivB fun i j=>.int (i.fdiv j)):=opI fun i j _ _ _ _ _ hc q=>by
 obtain⟨h0,h1⟩:=hc
 refine floordiv_int h0 q (.inl (PyProof.noPylong_of_log2 ?_))
 have hp:j.natAbs≠0:=by omega
 exact (Nat.log2_lt hp).mpr h1.lt
theorem a2v{x:V}{us:List Value}(r:Vals [x] us):∃ u,us=[u]∧RelV x u:=by
 cases r with
 | cons p q=>cases q;exact⟨_,rfl,p⟩
theorem a1t{x y:V}{us:List Value}(r:Vals [x,y] us):∃ u v,us=[u,v]∧RelV x u∧RelV y v:=by
 cases r with
 | cons p q=>
   obtain⟨v,rfl,p'⟩:=a2v q
   exact⟨_,_,rfl,p,p'⟩
theorem call_isi:a2k X (.builtin "isinstance") (fun xs H Q=>∃ x T t b,xs=[x,.ty T]∧TyOf X.K H x t∧b7r X.K t (.type T)=some b∧Q (.bl b) H):=by
 intro pins s σ H xs us Q I r h
 obtain⟨x,T,t,b,rfl,ty,e,q⟩:=h
 obtain⟨u,v,rfl,ru,rv⟩:=a1t r
 cases rv
 exact b4a I ru ty e fun tk=>⟨.bl b,H,I.tok tk,rfl,q⟩
mutual
def Dn(K:b5h)(H:Hp):b7e→V→Prop
 | .none,v=>v=.non
 | .bool b,v=>v=.bl b
 | .int i,v=>v=.int i
 | .str x,v=>v=.str x
 | .bytes _,_=>False
 | .tuple ds,v=>∃ a xs,v=.ref a∧SqT K H a xs∧a3q K H ds xs
 | .list ds,v=>∃ a xs,v=.ref a∧SqL K H a xs∧a3q K H ds xs
def a3q(K:b5h)(H:Hp):List b7e→List V→Prop
 | [],xs=>xs=[]
 | d::ds,xs=>∃ y ys,xs=y::ys∧Dn K H d y∧a3q K H ds ys
end
mutual
theorem a7i{pins:List (Addr×Obj)}{σ:L2.St}{H:Hp}{s:Shared}(I:Inv X pins σ H s):∀ (n:Nat) (d:b7e) (v:V) (u:Value),Dn X.K H d v→RelV v u→b5q n d=true→∃ as,Reads s.heap u (b8a d) as
 | n,.none,v,u,h,r,_=>by
   cases (show v=.non from by simpa [Dn] using h);cases r
   rw[b8a];exact⟨_,Reads.none⟩
 | n,.bool b,v,u,h,r,_=>by
   cases (show v=.bl b from by simpa [Dn] using h);cases r
   rw[b8a];exact⟨_,Reads.bool b⟩
 | n,.int i,v,u,h,r,_=>by
   cases (show v=.int i from by simpa [Dn] using h)
   obtain⟨t,rfl⟩:=r
   rw[b8a];exact⟨_,Reads.int i t⟩
 | n,.str x,v,u,h,r,_=>by
   cases (show v=.str x from by simpa [Dn] using h)
   obtain⟨t,rfl⟩:=r
   rw[b8a];exact⟨_,Reads.str x t⟩
 | n,.bytes b,v,u,h,r,_=>by simp[Dn] at h
 | 0,.tuple ds,v,u,h,r,hk=>by simp[b5q] at hk
 | 0,.list ds,v,u,h,r,hk=>by simp[b5q] at hk
 | n+1,.tuple ds,v,u,h,r,hk=>by
   rw[Dn] at h
   obtain⟨a,xs,rfl,hs,hd⟩:=h
   cases r
   obtain⟨its,rv,⟨o,ho,hc,m,hdt⟩,hz⟩:=I.tuple hs
   obtain⟨as,q⟩:=a3p I n ds xs its hd rv (by simpa [b5q] using hk)
   rw[b8a]
   exact⟨as,reads_tuple_at ho hc hdt (by simpa using q)⟩
 | n+1,.list ds,v,u,h,r,hk=>by
   rw[Dn] at h
   obtain⟨a,xs,rfl,hs,hd⟩:=h
   cases r
   obtain⟨its,rv,pl,hz⟩:=I.list hs
   obtain⟨o,ho,hc,m,hdt⟩:=pl.isList
   obtain⟨as,q⟩:=a3p I n ds xs its hd rv (by simpa [b5q] using hk)
   rw[b8a]
   exact⟨_,reads_list_at ho hc hdt (by simpa using q)⟩
theorem a3p{pins:List (Addr×Obj)}{σ:L2.St}{H:Hp}{s:Shared}(I:Inv X pins σ H s):∀ (n:Nat) (ds:List b7e) (xs:List V) (us:List Value),a3q X.K H ds xs→Vals xs us→(∀ d∈ds,b5q n d=true)→∃ as,ReadsAll s.heap us (PySem.W.kqdPs ds) as
 | n,[],xs,us,h,r,_=>by
   cases (show xs=[] from by simpa [a3q] using h)
   cases r
   rw[PySem.W.kqdPs];exact⟨_,ReadsAll.nil⟩
 | n,d::ds,xs,us,h,r,hk=>by
   rw[a3q] at h
   obtain⟨y,ys,rfl,h1,h2⟩:=h
   cases r with
   | cons p q=>
     obtain⟨as,r1⟩:=a7i I n d y _ h1 p (hk d (.head _))
     obtain⟨bs,r2⟩:=a3p I n ds ys _ h2 q fun e he=>hk e (.tail _ he)
     rw[PySem.W.kqdPs]
     exact⟨_,ReadsAll.cons r1 r2⟩
end
theorem a8d{d:b7e}(h:b5q 8 d=true):SeqAt.shaped (b8a d)=true:=by
 have la:=PySem.W.kqd_lay 8 d h
 unfold SeqAt.shaped;rw[la.1,Bool.true_and];exact decide_eq_true (b7j la.2 (by decide))
def rEqD(K:b5h):R2:=fun x y H Q=>∃ d e,Dn K H d x∧Dn K H e y∧b5q 8 d=true∧b5q 8 e=true∧∀ b:Bool,(b=true↔d=e)→Q (.bl b) H
theorem op_eqD(hu:X.A.units+64<cLine):OpR X (compareOp .Eq) (rEqD X.K):=by
 intro pins s σ H x y v u Q I rx ry h
 obtain⟨d,e,hd,he,k1,k2,q⟩:=h
 obtain⟨as,r1⟩:=a7i I 8 d x v hd rx k1
 obtain⟨bs,r2⟩:=a7i I 8 e y u he ry k2
 exact eq_dataH r1 r2 (a8d k1) (a8d k2) hu ⟨.bl _,H,I,rfl,q _ (PySem.W.kqd_eqv 8 d e 8 k1 k2)⟩
end
def ShV(H:Hp)(v:V)(q:Rat):Prop:=∃ a,v=.ref a∧H a=some (.tup [.int q.num,.int (q.den:Int)])
theorem ShV.same{H H':Hp}{v:V}{q:Rat}(h:ShV H v q)(e:Same H H'):ShV H' v q:=by
 obtain⟨a,rfl,h⟩:=h
 exact⟨a,rfl,e _ _ h⟩
def b1v(q:Rat):b7e:=.tuple [.int q.num,.int (q.den:Int)]
theorem b0z(q:Rat)(n:Nat):b5q (n+1) (b1v q)=true:=by
 cases n<;>simp[b1v,b5q]
theorem ShV.dn{K:b5h}{H:Hp}{v:V}{q:Rat}(h:ShV H v q):Dn K H (b1v q) v:=by
 obtain⟨a,rfl,h⟩:=h
 unfold b1v
 simp only[Dn,a3q]
 exact⟨a,_,rfl,SqT.of h,_,_,rfl,rfl,_,_,rfl,rfl,rfl⟩
theorem Same.new{H:Hp}{p:Addr}{o:HO}(h:H p=none):Same H (upd H p o):=fun b u e=>by
 rw[a0n (a0p e h)];exact e
end Cv
namespace Cv
open PySem PySem.Spec PyProof.Rows L2
structure a0w(K:b5h)(mg:Str→Option Value)(x:Str)(st:Stmt)(ps:List Str):Prop where
 ex:∃ (f:Addr) (fd:FuncData),Fun K x x st f fd∧mg x=some (.ref f)∧b0f K fd ps []
structure a0u(P:Program)(w:World)(K:b5h)(mg:Str→Option Value)(base:Heap)(CX:CXT)(k:Nat)(x:Str)(ps:List Str)(sp:Sp):Prop where
 ex:∃ (f:Addr) (fd:FuncData),FnOk P w K mg base CX k f fd ps sp∧mg x=some (.ref f)∧b7s K (.ref f)=true∧b0f K fd ps []∧
   ∃ (oc:Value) (od:Option Addr) (osl:Array (Option Value)),K.lookup f=some ⟨oc,od,.func fd,osl⟩
structure Blt(mg:Str→Option Value):Prop where
 len:mg "len" = none
 abs:mg "abs" = none
 range:mg "range" = none
 max:mg "max" = none
 min:mg "min" = none
 any:mg "any" = none
 all:mg "all" = none
 sum:mg "sum" = none
 isinstance:mg "isinstance" = none
 int:mg "int" = none
 bool:mg "bool" = none
 tuple:mg "tuple" = none
 list:mg "list" = none
 str:mg "str" = none
 ValueError:mg "ValueError" = none
 zip:mg "zip" = none
 reversed:mg "reversed" = none
 enumerate:mg "enumerate" = none
 sorted:mg "sorted" = none
 dict:mg "dict" = none
section
variable {P:Program} {w:World} {K:b5h} {mg:Str→Option Value} {base:Heap}
theorem a0w.mk'{x:Str}{st:Stmt}{ps:List Str}{f:Addr}{oc:Value}{od an:Option Addr}{osl:Array (Option Value)}{kV doc pm cdv ct:Value}(hm:mg x=some (.ref f))(l:K.lookup f=some ⟨oc,od,.func (b6m x x (a2j st) (a1p st) (a0g st) .none kV doc pm an cdv ct),osl⟩)(c:b7w K cdv x=true)(k:b7s K (.ref f)=true)(h:∀ (kV doc pm:Value) (an:Option Addr) (cdv ct:Value) (us:List Value),us.length=ps.length→bindArgs (b6m x x (a2j st) (a1p st) (a0g st) .none kV doc pm an cdv ct) ⟨us,[]⟩=pure (ps.zip us)):a0w K mg x st ps:=by
 have F:=fun_mk (st:=st) l c k
 exact⟨_,_,F,hm,F.binds h⟩
theorem def_ok{x:Str}{st:Stmt}{N ps:List Str}{k:Nat}{sp:Sp}(F:a0w K mg x st ps)(S:a0t N ps (a0g st))(len:∀ vs H Q E,sp vs H Q E→vs.length=ps.length)(hbody:∀ (f:Addr) (cdv:Value) (A:Around) (outer:List Env) (s:Shared) (H:Hp) (vs:List V) (Q:VK) (E:XK),Room k (A.deeper (envOfC x (a0g st) s.heap.objs.size f cdv))→sp vs H Q E→
     ∃ t,PSs (cxOf CX0 P w K mg base N x (a0g st) f cdv A outer s H E).nox (a1p st) t∧t { nx:=fun _ H'=>Q .non H',rt:=Q } (a5x N vs) H):a0u P w K mg base CX0 (k+1) x ps sp:=by
 obtain⟨f,fd,F,hm,hb⟩:=F.ex
 exact⟨f,fd,F.ok S len fun cdv A outer s H vs Q E hr h=>hbody f cdv A outer s H vs Q E hr h,hm,F.kp,hb,let ⟨oc,od,_,_,_,_,_,_,osl,_,l,_⟩:=F.ex;⟨oc,od,osl,l⟩⟩
end
section
variable {X:Cx} {CX:CXT} {k j:Nat} {ps:List Str} {sp:Sp} {E:XK} {x:Str} {p pos:Pos} {e:Expr} {es:List Expr} {t:TA}
def tFn(sp:Sp)(E:XK)(t:TA):TE:=fun σ H Q=>t σ H fun vs H1=>sp vs H1 Q E
theorem pe_fn(D:a0u X.prog X.w X.K X.mg X.base CX k x ps sp)(hr:Room j X.A)(hx:a9f CX X E)(ha:PA X (e::es) t)(hk:k≤j:=by decide)(hg:Gl X x:=by rfl)(hdb:(x == ("__debug__" : Str))=false:=by decide)(he:starEach (e::es) X.env=(false,eval e X.env)::starEach es X.env:=by rfl)(hpl:(backTo pos (starEach es X.env)).any (·.1)=false:=by rfl) :
   PE X (.Call (.Name x p) (e::es) [] pos) (tFn sp E t):=by
 obtain⟨f,fd,F,hm,kp,hb,_⟩:=D.ex
 intro pins s σ H Q I h
 have q:=pe_call (X:=X) (p:=p) (pos:=pos) F (hr.mono hk) hg hm kp hb .nil hx ha hdb he hpl
 refine q pins s σ H Q I ?_
 unfold tCall
 have e:(fun (vs:List V) (H1:Hp)=>sp (vs++[]) H1 Q E)=fun vs H1=>sp vs H1 Q E:=by
   funext vs H1
   rw[List.append_nil]
 rw[e]
 exact h
end
end Cv
namespace Cv
open PySem PySem.Spec PyProof.Rows L2
section
variable {X:Cx}
def b5g(i j:Int):Prop:=CMul i j∨CMulB i j
theorem a0y:OpR X (binaryOp .Mult) (rI b5g fun i j=>.int (i*j)):=opI fun i j _ _ _ _ _ hc q=>by
 rcases hc with hc | ⟨n,m,h1,h2,h3⟩
 · exact mul_int q hc.ok
 · exact mul_int q (IntMulOk.of_le (PySem.intBits_le_iff.mpr h1.lt) (PySem.intBits_le_iff.mpr h2.lt) (by omega))
end
theorem mulL{i j:Int}(h1:-(2^64)<i)(h2:i<2^64):b5g i j:=.inl (.inl ⟨h1,h2⟩)
theorem mulR{i j:Int}(h1:-(2^64)<j)(h2:j<2^64):b5g i j:=.inl (.inr ⟨h1,h2⟩)
theorem mulB{n m:Nat}{i j:Int}(h1:Sz n i)(h2:Sz m j)(h:n+m≤100000000:=by decide):b5g i j:=.inr ⟨n,m,h1,h2,h⟩
def spGcd:Sp:=fun vs H Q _=>∃ a b:Int,vs=[.int a,.int b]∧Q (.int (b5x a b)) H
def b2q(K:b5h):Sp:=fun vs H Q _=>∃ (a:Addr) (ns:List Int) (k:Int),vs=[.ref a,.int k]∧SqL K H a (ns.map V.int)∧0≤k∧∀ z,Q (.int z) H
def a6y:Sp:=fun vs H Q _=>∃ t b:Int,vs=[.int t,.int b]∧0<b∧Sz 9000 b∧∀ v H',Same H H'→ShV H' v (b5l t b)→Q v H'
def spLaw(K:b5h):Sp:=fun vs H Q _=>∃ (a:Addr) (ns:List Int),vs=[.ref a]∧SqL K H a (ns.map V.int)∧ns.length≤63∧∀ H',Q (.bl true) H'
theorem a4r{c:Prop}[Decidable c]{A B:Prop}(h1:c→A)(h2:¬ c→B):if decide c=true then A else B:=by
 by_cases h:c
 · rw[if_pos (decide_eq_true h)];exact h1 h
 · rw[if_neg (by simp[h])];exact h2 h
theorem ifT{b:Bool}{A B:Prop}(h:b=true)(k:A):if b=true then A else B:=by rw[if_pos h];exact k
theorem ifF{b:Bool}{A B:Prop}(h:b=false)(k:B):if b=true then A else B:=by rw[if_neg (by rw[h];decide)];exact k
theorem ifB{b:Bool}{A B:Prop}(h1:b=true→A)(h2:b=false→B):if b=true then A else B:=by
 cases b
 · exact ifF rfl (h2 rfl)
 · exact ifT rfl (h1 rfl)
end Cv
namespace Cv
open PySem PySem.Spec PyProof.Rows L2
theorem a0u.law{P:Program}{w:World}{K:b5h}{mg:Str→Option Value}{base:Heap}{CX:CXT}{k:Nat}{x:Str}{ps:List Str}{sp:Sp}{f:Addr}{fd:FuncData}{oc:Value}{od:Option Addr}{osl:Array (Option Value)}(D:a0u P w K mg base CX k x ps sp)(l:K.lookup f=some ⟨oc,od,.func fd,osl⟩)(hm:mg x=some (.ref f)):FnOk P w K mg base CX k f fd ps sp:=by
 obtain⟨f',fd',FO,hm',_,_,oc',od',osl',l'⟩:=D.ex
 have e:=hm.symm.trans hm'
 cases e
 have e2:=l.symm.trans l'
 have e3:Data.func fd=Data.func fd':=congrArg (fun (o:Obj)=>o.data) (b6l.inj e2)
 cases e3
 exact FO
theorem walk{l:PySem.W.OpenLaw}{k:Nat}{CX:CXT}{sp:b5h→Sp}{q:Program}{loose:List Str}{XP:(Str→Option Value)→Heap→Prop}{YP:World→Heap→Prop}{d:DefRec}{K:Params→b5h}{x:Str}(hn:l.most=some 63)(hdf:d.params.defaults=[])(hr:Room k callerA)(hY:∀ (w:World) (h:Heap),YP w h→(K w.params).In h)(F:∀ (w:World) (mg:Str→Option Value) (fa:Addr) (h:Heap),(K w.params).In h→h.Ns mainGlobals mg→mg d.name=some (.ref fa)→
     ∃ fd:FuncData,(∀ (s:Shared) (u:Value),BindsTo s fd ⟨[u],[]⟩ [(x,u)])∧∀ (P:Program) (base:Heap),(K w.params).In base→base.Ns mainGlobals mg→FnOk P w (K w.params) mg base CX k fa fd [x] (sp (K w.params)))(hsp:∀ (K:b5h) (H:Hp) (a:Addr) (ns:List Int),ns.length≤63→Only H→SqL K H a (ns.map V.int)→sp K [.ref a] H (fun v _=>v=.bl true) fun _ _ _=>False)(hCX:∀ (H:Hp) (s:Shared) (e:Value) (s':Shared),CX [] H s (fun _ _ _=>False) e s'→False) :
   PySem.W.WalkO q loose XP YP l.row.toRowW d [] (fun f vs=>PySem.call f vs):=
 L2.walk_of (n:=63) (k:=k) (x:=x) (CX:=fun _=>CX) (sp:=fun w=>sp (K w.params)) hn (by decide) hdf hr hY
   (fun w mg fa h a b c=>let ⟨fd,h1,h2⟩:=F w mg fa h a b c;⟨fd,h1,fun base=>h2 l.prog base⟩) (fun w H a ns=>hsp (K w.params) H a ns) fun _ H s e s'=>hCX H s e s'
end Cv
namespace Cv
open PySem PySem.Spec PyProof.Rows L2
theorem pl{j:Int}(h:0<j:=by decide):0<j:=h
theorem at_map(xs:List Int)(k:Nat)(h:k<xs.length):atI (xs.map V.int) (k:Int)=some (V.int (xs.getD k 0)):=by
 refine b4y ?_
 rw[b5s,b5i h]
 simp[b5z,b5i h]
theorem a5w(xs:List Int)(k:Int)(h0:0≤k)(h:k<(xs.length:Int)):atI (xs.map V.int) k=some (V.int (xs.getD k.toNat 0)):=by
 have e:k=((k.toNat:Nat):Int):=by omega
 have q:=at_map xs k.toNat (by omega)
 rw[← e] at q
 exact q
theorem a7g{xs:List Int}(h:∀ x∈xs,0≤x)(k:Nat):0≤xs.getD k 0:=by
 rw[b5z]
 cases e:xs[k]? with
 | none=>simp
 | some v=>exact h v (b6e e)
theorem p30:(10:Int)^(30:Int).toNat=1000000000000000000000000000000:=by decide
theorem pos30:(0:Int)<(10:Int)^(30:Int).toNat:=by rw[p30];decide
theorem a2w{n:Nat}{x:Int}{b:Nat}(h1:x.natAbs≤b)(h2:b<2^n):Sz n x:=⟨Nat.lt_of_le_of_lt h1 h2⟩
theorem gcd_abs(t b:Int):b5x (if t<0 then -t else t) b=b5x t b:=by
 split
 · rw[Int.neg_gcd]
 · rfl
theorem emod_gcd(a b:Int)(hb:0<b):b5x b (a % b)=b5x a b:=by
 have:=b0y a b
 rw[Int.fmod_eq_emod_of_nonneg a (by omega)] at this
 exact this
theorem b1u{a b:Int}(h:a≠b):(!decide (V.int a=V.int b))=true:=by simp[h]
theorem kit_ii(K:b5h):b7r K (.type "int") (.type "int")=some true:=rfl
theorem kit_ib(K:b5h):b7r K (.type "int") (.type "bool")=some false:=rfl
theorem kit_tt(K:b5h):b7r K (.type "tuple") (.type "tuple")=some true:=rfl
theorem kit_bb(K:b5h):b7r K (.type "bool") (.type "bool")=some true:=rfl
theorem kit_ll(K:b5h):b7r K (.type "list") (.type "list")=some true:=rfl
end Cv
namespace Cv
open PySem PySem.Spec PyProof.Rows L2
abbrev a1l(X:Cx)(scope:Scope)(cl:List (Str×Addr))(Nc:List Str)(C:Addr)(s0:Shared)(H0:Hp)(fp:List Addr):Cx where
 prog:=X.prog
 w:=X.w
 K:=X.K
 mg:=X.mg
 base:=X.base
 A:=X.A
 N:=Nc
 s₀:=s0
 H₀:=H0
 env:=compEnvC scope cl C X.env
 outer:=X.stack
 stack:=X.stack
 ex:=fp
 fn:=fun _=>false
 calm:=X.calm
 pn:=[]
 xe:=fun _ _=>False
def capd(σ:L2.St)(ix:List Nat):L2.St:=ix.map fun j=>(σ[j]?).getD none
end Cv
namespace Cv
open PySem PySem.Spec PyProof.Rows L2
theorem a4u{env:Env}:∀ (names:List (Str×NameKind)) (acc:List (Str×Addr)),(∀ y∈names,y.2=.free→∃ c,env.cells.lookup y.1=some c)→
   ∃ cl,(forIn names acc fun (x:Str×NameKind) (r:List (Str×Addr))=>if (x.2 == NameKind.free)=true then (do let c ← cellOf env x.1;pure (ForInStep.yield ((x.1,c)::r))) else pure (ForInStep.yield r):Sem (List (Str×Addr)))=pure cl∧
     ((∀ y c,acc.lookup y=some c→env.cells.lookup y=some c)→∀ y c,cl.lookup y=some c→env.cells.lookup y=some c)∧
     (∀ y,(∃ c,acc.lookup y=some c)→∃ c,cl.lookup y=some c)∧∀ y∈names,y.2=.free→∃ c,cl.lookup y.1=some c
 | [],acc,_=>⟨acc,by simp,fun h=>h,fun _ h=>h,fun _ h=>nomatch h⟩
 | (n,k)::r,acc,h=>by
   rw[b7t]
   by_cases hk:k=.free
   · subst hk
     obtain⟨c,hc⟩:=h (n,.free) (.head _) rfl
     obtain⟨cl,e,h1,h2,h3⟩:=a4u (env:=env) r ((n,c)::acc) fun y hy=>h y (.tail _ hy)
     refine⟨cl,?_,fun ha=>h1 fun y d hd=>?_,fun y hy=>h2 y ?_,fun y hy hf=>?_⟩
     · have ec:cellOf env n=pure c:=by
         unfold cellOf
         have hc':env.cells.lookup n=some c:=hc
         rw[hc']
       simp only[ec]
       exact e
     · rw[b6h] at hd
       by_cases hy:y == n
       · rw[hy] at hd
         cases hd
         rw[eq_of_beq hy];exact hc
       · rw[Bool.not_eq_true] at hy
         rw[hy] at hd
         exact ha y d hd
     · rw[b6h]
       by_cases hyn:y == n
       · rw[hyn];exact⟨_,rfl⟩
       · rw[Bool.not_eq_true] at hyn
         rw[hyn];exact hy
     · rcases b6a.mp hy with rfl | hy
       · exact h2 n ⟨c,by rw[b6h];simp⟩
       · exact h3 y hy hf
   · obtain⟨cl,e,h1,h2,h3⟩:=a4u (env:=env) r acc fun y hy=>h y (.tail _ hy)
     refine⟨cl,?_,h1,h2,fun y hy hf=>?_⟩
     · have hk':(k == NameKind.free)=false:=by
         cases k<;>first | rfl | exact absurd rfl hk
       simp only[hk']
       exact e
     · rcases b6a.mp hy with rfl | hy
       · exact absurd hf hk
       · exact h3 y hy hf
theorem b1w{scope:Scope}{env:Env}(h:∀ y∈scope.names,y.2=.free→∃ c,env.cells.lookup y.1=some c) :
   ∃ cl,closureFor scope env=pure cl∧(∀ y c,cl.lookup y=some c→env.cells.lookup y=some c)∧∀ y∈scope.names,y.2=.free→∃ c,cl.lookup y.1=some c:=by
 obtain⟨cl,e,h1,_,h3⟩:=a4u (env:=env) scope.names [] h
 refine⟨cl,?_,h1 (fun _ _ z=>nomatch z),h3⟩
 unfold closureFor
 have:=congrArg (fun (m:Sem (List (Str×Addr)))=>m >>= fun r=>pure r) e
 first
   | exact e
   | simpa using e
   | (simp only[bind_pure] at this ⊢;exact this)
theorem a2p{env:Env}:∀ {names:List (Str×NameKind)} {y:Str} {k:NameKind},(∀ z∈names,z.2≠.cell)→
   (names.map fun (n,k)=>if (k == NameKind.free && env.scope.kind == .function && env.kindOf n == some .cell) then (n,NameKind.cell) else (n,k)).lookup y=some k→(k=.cell∨k=.free)→(y,NameKind.free)∈names
 | [],_,_,_,h,_=>by simp at h
 | (n,q)::r,y,k,hc,h,hk=>by
   rw[b7m] at h
   by_cases hy:y == n
   · have e:y=n:=eq_of_beq hy
     subst e
     by_cases ht:(q == NameKind.free && env.scope.kind == .function && env.kindOf y == some .cell)=true
     · have:q=.free:=by
         simp only[Bool.and_eq_true] at ht
         exact eq_of_beq ht.1.1
       rw[this];exact .head _
     · simp only[ht] at h
       rw[b6h] at h
       simp at h
       subst h
       rcases hk with rfl | rfl
       · exact absurd rfl (hc _ (.head _))
       · exact .head _
   · rw[Bool.not_eq_true] at hy
     refine .tail _ (a2p (env:=env) (fun z hz=>hc z (.tail _ hz)) ?_ hk)
     by_cases ht:(q == NameKind.free && env.scope.kind == .function && env.kindOf n == some .cell)=true
     · simp only[ht] at h
       rw[b6h] at h
       have h':=h
       (simp[hy] at h';simpa using h')
     · simp only[ht] at h
       rw[b6h] at h
       have h':=h
       (simp[hy] at h';simpa using h')
section
variable {prog:Program} {w:World} {A:Around} {R:Result→Shared→Prop} {s:Shared}
theorem a6f{elt target iter:Expr}{scope:Scope}{pos:Pos}{it acc:Value}{env:Env}(I:Nat→Shared→Prop)(turn:∀ n s,I n s→wpAny (model prog w) A (pyNext it) (fun r s₁=>match r with
     | none=>R (.ok .next) s₁
     | some v=>wpAny (model prog w) A (letOwnedTupleGo target it v) (fun _ s₁'=>wpAny (model prog w) A (assign target env v) (fun _ s₂=>wpAny (model prog w) A (eval elt env) (fun x s₃=>
         wpAny (model prog w) A (call (.builtin "list.append") [acc,x]) (fun _ s₄=>∃ m,m<n∧I m s₄) (notedBy (model prog w) A env fun e s'=>R (.error e) s') s₃)
         (notedBy (model prog w) A env fun e s'=>R (.error e) s') s₂) (notedBy (model prog w) A env fun e s'=>R (.error e) s') s₁') (notedBy (model prog w) A env fun e s'=>R (.error e) s') s₁) (notedBy (model prog w) A env fun e s'=>R (.error e) s') s)(n:Nat)(h:I n s) :
   codeAny (model prog w) A (.compLoop (.ListComp elt [⟨target,iter,[],0⟩] scope pos) 0 it acc env) R s:=by
 refine codeAny_loop rfl I (fun n s hI=>?_) n h
 show wpAny _ _ ((compTurn (.ListComp elt [⟨target,iter,[],0⟩] scope pos) 0 it acc env).onRaise (fun x=>do noteFrame x env;theTreesLotGoes x)) _ _ s
 refine wpAny_noted ?_
 rw[compTurn_list1]
 refine wpAny_bind (wpAny_standAt (wpAny_bind (wpAny_mono (turn n s hI) (fun r s₁ h₁=>?_) fun _ _ h'=>h')))
 cases r with
 | none=>exact wpAny_pure h₁
 | some v=>
   refine wpAny_bind (wpAny_mono h₁ (fun _ s₁' h₁'=>?_) fun _ _ h'=>h')
   exact wpAny_bind (wpAny_mono h₁' (fun _ s₂ h₂=>wpAny_bind (wpAny_bind (wpAny_mono h₂ (fun x s₃ h₃=>wpAny_bind (wpAny_mono h₃
     (fun _ s₄ h₄=>wpAny_pure (wpAny_pure ⟨rfl,h₄⟩)) fun _ _ h'=>h')) fun _ _ h'=>h'))) fun _ _ h'=>h')
end
def a7t(k:Nat)(J:It)(H1:Hp)(g:TG)(te:TE)(cs:L2.St)(Q:VK):Prop:=∀ D,H1 D=none→∃ W:Nat→Nat→List V→Hp→Prop,(∃ m,W 0 m [] (upd H1 D (.lst [])))∧
 ∀ i m ys H2,W i m ys H2→(J.stop i H2∧Q (.ref D) H2)∨(J.go i H2∧∀ x H',J.yld i H2 x H'→∀ own:L2.St,own.length=k→g x (own++cs) H' fun σ2 H4=>(∃ own':L2.St,own'.length=k∧σ2=own'++cs)∧
   te σ2 H4 fun v H3=>H3 D=some (.lst ys)∧ys.length<sizeLine∧∃ m',m' < m∧W (i+1) m' (ys++[v]) (upd H3 D (.lst (ys++[v]))))
def a5g(k:Nat)(wi:TI)(g:TG)(te:TE)(ix:List Nat):TE:=fun σ H Q=>wi σ H fun J H1=>a7t k J H1 g te (capd σ ix) Q
section
variable {X:Cx}
theorem comp_gen{tg elt iter:Expr}{ifs:List Expr}{rest:List Comprehension}{os:List Str}{pos ipos:Pos}{scope:Scope}{wi:TI}{G:It→Hp→Addr→Prop}{caps:List (Nat×Str)}{pins:List (Addr×Obj)}{s:Shared}{σ:L2.St}{H:Hp}{Q:VK}{use:Option (Value→Sem Unit)}{R:Value→Shared→Prop}(hi:PI X tg iter wi)(hfree:∀ y∈scope.names,y.2=.free→X.env.kindOf y.1=some .cell)(hcap:∀ p∈caps,X.N[p.1]?=some p.2∧X.env.kindOf p.2=some .cell∧((relabel scope X.env).names.lookup p.2=some .cell∨(relabel scope X.env).names.lookup p.2=some .free))(hkind:scope.kind=.function)(hcell:∀ y∈scope.names,y.2≠.cell)(hnames:∀ y∈scope.names,y.2=.local→scope.names.lookup y.1=some .local)(hc:X.calm=true)(hfs:∀ v,foldedSetIterable iter X.env v=pure v)(hfin:∀ D C H5 s6 m6,Inv X pins σ H5 s6→s6.heap.Ns C m6→FpOk X pins H5 C→Q (.ref D) H5→compPost (model X.prog X.w) X.A X.xe use R (.ref D) C (.ok .next) s6)(I:Inv X pins σ H s)(h:wi σ H fun J H1=>∀ D,H1 D=none→G J H1 D)(hloop:∀ cl C s3 fp it tn J H1 D s4,G J H1 D→Turn X.prog X.w X.K tg J fp it tn→Inv (a1l X scope cl (os++caps.map (·.2)) C s3 (upd H1 D (.lst [])) fp) [] (b7p os.length none++capd σ (caps.map (·.1))) (upd H1 D (.lst [])) s4→tn 0 s4.heap→(∀ b∈fp,(upd H1 D (.lst [])) b=none)→
     (∀ H',(∀ b∈fp,H' b=none)→∀ b∈fp,FpOk (a1l X scope cl (os++caps.map (·.2)) C s3 (upd H1 D (.lst [])) fp) [] H' b)→(∀ σ' H5 s6,Inv (a1l X scope cl (os++caps.map (·.2)) C s3 (upd H1 D (.lst [])) fp) [] σ' H5 s6→Q (.ref D) H5→compPost (model X.prog X.w) X.A X.xe use R (.ref D) C (.ok .next) s6)→
     codeAny (model X.prog X.w) X.A (.compLoop (.ListComp elt (⟨tg,iter,ifs,0⟩ :: rest) scope pos) 0 (.ref it) (.ref D) (compEnvC scope cl C X.env)) (compPost (model X.prog X.w) X.A X.xe use R (.ref D) C) s4) :
   wpAny (model X.prog X.w) X.A (comprehension (.ListComp elt (⟨tg,iter,ifs,0⟩ :: rest) scope pos) scope X.env ipos (newList []) false (eval iter X.env) use) R X.xe s:=by
 obtain⟨cl,hclos,hcl,hin⟩:=b1w (scope:=scope) (env:=X.env) fun y hy hf=>I.ok.has y.1 (.inl (hfree y hy hf))
 have hhas:∀ y,((relabel scope X.env).names.lookup y=some .cell∨(relabel scope X.env).names.lookup y=some .free)→∃ c,cl.lookup y=some c:=fun y hy=>by
   rcases hy with hy | hy
   · exact hin (y,.free) (a2p (env:=X.env) hcell hy (.inl rfl)) rfl
   · exact hin (y,.free) (a2p (env:=X.env) hcell hy (.inr rfl)) rfl
 refine wpAny_comprehension_free (use:=use) rfl hfs hclos hkind hnames ?_
 refine thn (hi pins s σ H _ I h) fun v s1 h1=>thn h1 fun itv s2 h2=>?_
 obtain⟨it,fp,tn,J,H1,rfl,I2,T,st2,f2,rd⟩:=h2
 refine wpAny_newObj_type ?_ (by show 0≤sizeLine;decide)
 have hD:H1 s2.heap.objs.size=none:=I2.hok.fresh (b5n _)
 have hG:=rd s2.heap.objs.size hD
 generalize eD:s2.heap.objs.size=D at hD hG
 have I3:Inv X pins σ (upd H1 D (.lst [])) { s2 with heap:=s2.heap.push { cls:=.type "list",data:=.seq ([]:List Value).toArray } }:=by
   subst eD
   exact I2.laid (t':=s2.toks) (fun b u e=>Heap.get?_push_of_some _ e) (b5n _) ⟨b7b _,[],0,.nil,Heap.get?_push_size _ rfl⟩
 generalize e3:({ s2 with heap:=s2.heap.push { cls:=.type "list",data:=.seq ([]:List Value).toArray } }:Shared)=s3 at I3
 have hs3:s3.heap.objs.size=D+1:=by rw[← e3,← eD];simp
 have k23:∀ b o,s2.heap.get? b=some o→s3.heap.get? b=some o:=fun b o e=>by rw[← e3];exact Heap.get?_push_of_some _ e
 refine wpAny_newFunctionEnv hcell (by intro y hy;simp at hy) (fun h4 hn4 hs4=>?_) hkind
 have k34:∀ b o,s3.heap.get? b=some o→h4.get? b=some o:=fun b o e=>(hs4.2 b (b5k (Heap.lt_size e))).trans (Heap.get?_push_of_some _ e)
 generalize eC:s3.heap.objs.size=C at hn4 hs4
 have hfpC:∀ b∈fp,b≠C:=fun b hb z=>by
   obtain⟨o,e,_⟩:=T.obj 0 _ st2 b hb
   have h1:=Heap.lt_size e
   rw[z,← eC,hs3,eD] at h1
   exact absurd h1 (Nat.not_lt.mpr (Nat.le_succ D))
 have hfps:∀ b∈fp,b∉frs X.stack:=fun b hb z=>by
   rcases b6a.mp (I2.stkSub b z) with q | q
   · exact (f2 b hb).2.1 q
   · exact (f2 b hb).2.2.1 q
 have hfpD:∀ b∈fp,b≠D:=fun b hb z=>by
   obtain⟨o,e,_⟩:=T.obj 0 _ st2 b hb
   have h1:=Heap.lt_size e
   rw[z,eD] at h1
   exact b7a _ h1
 have okc:(a1l X scope cl (os++caps.map (·.2)) C s3 (upd H1 D (.lst [])) fp).Ok:=by
   refine⟨I3.ok.mod,hkind,I3.ok.glob,I3.ok.blt,Nat.le_of_eq eC,fun y z c h1 h2=>I3.ok.inj y z c (hcl y c h1) (hcl z c h2),fun y hy=>hhas y hy,fun y c hf=>absurd hf b5r,I3.ok.hd,I3.ok.frames,.inl rfl,
     fun b hb=>⟨hfpC b hb,fun y c e=>(f2 b hb).2.2.2.2.1 y c (hcl y c e)⟩,I3.bs,b7j I3.ok.bsz I3.sz,fun b o e hb=>?_,fun b hb=>hfps b hb,I3.stack,I3.stkFree⟩
   rcases (f2 b hb).2.2.2.1 with z | z
   · exact I3.ok.noex b o e z
   · exact b7a _ (b5v (Heap.lt_size (I3.ok.bs b o e).1) z)
 have capS:(capd σ (caps.map (·.1))).length=caps.length:=by unfold capd;rw[b5j,b5j]
 have Ic:Inv (a1l X scope cl (os++caps.map (·.2)) C s3 (upd H1 D (.lst [])) fp) [] (b7p os.length none++capd σ (caps.map (·.1))) (upd H1 D (.lst [])) { s3 with heap:=h4,toks:=s3.toks+([]:List (Str×Value)).length }:=by
   refine⟨okc,rfl,I3.bare,Un.kept k34,⟨_,hn4,fun i y v e1 e2 e3'=>?_⟩,fun y c e=>?_,I3.hok.fresh (Nat.le_of_eq eC),fun y c e=>I3.freeC y c (hcl y c e),fun p hp=>absurd hp (by simp),I3.hok.kept k34,?_⟩
   · by_cases hik:i<os.length
     · rw[b5w (by rw[b6o];exact hik),List.getElem?_replicate] at e2
       split at e2<;>cases e2
     · have e1':(caps.map (·.2))[i - os.length]?=some y:=by
         have z:(os++caps.map (·.2))[i]?=some y:=e1
         rw[b5y (by omega)] at z
         exact z
       have e2':(capd σ (caps.map (·.1)))[i - os.length]?=some (some v):=by
         rw[b5y (by rw[b6o];omega),b6o] at e2
         exact e2
       generalize i - os.length=i at e1' e2'
       rw[b5s] at e1'
       unfold capd at e2'
       rw[b5s,b5s] at e2'
       cases q:caps[i]? with
       | none=>rw[q] at e1';cases e1'
       | some p=>
         rw[q] at e1' e2'
         have ey:p.2=y:=b6l.inj e1'
         have ev:(σ[p.1]?).getD none=some v:=b6l.inj e2'
         have es:σ[p.1]?=some (some v):=by
           cases z:σ[p.1]? with
           | none=>rw[z] at ev;cases ev
           | some w'=>rw[z] at ev;exact congrArg some ev
         obtain⟨hN,hk,hv⟩:=hcap p (b6e q)
         obtain⟨m,_,hl⟩:=I3.loc
         obtain⟨u,r,lk⟩:=hl p.1 p.2 v hN es (.inr (.inl hk))
         rw[ey] at hk hv lk
         refine⟨u,r,.inr ⟨hv,?_⟩⟩
         obtain⟨c,hc'⟩:=hhas y hv
         rcases lk with⟨z,_⟩ | ⟨_,c2,z,ic⟩
         · rw[hk] at z;cases z
         · have ec:=(hcl y c hc').symm.trans z
           cases ec
           obtain⟨o,ho,hd⟩:=ic
           exact⟨c,hc',o,k34 _ _ ho,hd⟩
   · obtain⟨v,o,ho,hd⟩:=I3.cell y c (hcl y c e)
     exact⟨v,o,k34 _ _ ho,hd⟩
   · show (b7p os.length (none:Option V)++capd σ (caps.map fun p=>p.1)).length=(os++caps.map fun p=>p.2).length
     rw[b5u,b5u,b6o,capS,b5j]
 have fpc:∀ H',(∀ b∈fp,H' b=none)→∀ b∈fp,FpOk (a1l X scope cl (os++caps.map (·.2)) C s3 (upd H1 D (.lst [])) fp) [] H' b:=fun H' hn b hb=>
   ⟨hn b hb,hfpC b hb,hfps b hb,.inl hb,fun y c e=>(f2 b hb).2.2.2.2.1 y c (hcl y c e),fun p hp=>absurd hp (by simp)⟩
 have st4:tn 0 h4:=T.keep _ _ _ (T.keep _ _ _ st2 fun b _ o e=>k23 b o e) fun b _ o e=>k34 b o e
 have fp0:∀ b∈fp,(upd H1 D (.lst [])) b=none:=fun b hb=>by rw[a0n (hfpD b hb)];exact (f2 b hb).1
 have fin:∀ σ' H5 s6,Inv (a1l X scope cl (os++caps.map (·.2)) C s3 (upd H1 D (.lst [])) fp) [] σ' H5 s6→Q (.ref D) H5→compPost (model X.prog X.w) X.A X.xe use R (.ref D) C (.ok .next) s6:=fun σ' H5 s6 I6 qn=>by
   obtain⟨m6,hn6,_⟩:=I6.loc
   have hs':Heap.SameBut C s6.heap s6.heap:=⟨rfl,fun _ _=>rfl⟩
   generalize eh':s6.heap=h' at hs'
   have hs':Heap.SameBut C s6.heap h':=by rw[eh'];exact hs'
   have neC:∀ b o,s3.heap.get? b=some o→b≠C:=fun b o e=>b5k (eC ▸ Heap.lt_size e)
   have ns:∀ b o,s2.heap.get? b=some o→b≠D:=fun b o e=>b5k (eD ▸ Heap.lt_size e)
   have B:=I6.base
   have uu:Un (frs X.stack) fp H1 H5 s2.heap h':=by
     refine⟨fun b o e nn hb hf=>?_,fun b o e nn hb hf=>?_,fun b o e nn hf=>?_,fun b o e hf=>?_,fun b xs e=>?_,fun b o u' e=>?_,fun b ps e=>?_⟩
     · exact (hs'.2 b (neC b o (k23 b o e))).trans (B.keep b o (k23 b o e) (by show (upd H1 D _) b=none;rw[a0n (ns b o e)];exact nn) hb hf)
     · obtain⟨sl,z⟩:=B.slot b o (k23 b o e) (by show (upd H1 D _) b=none;rw[a0n (ns b o e)];exact nn) hb hf
       exact⟨sl,(hs'.2 b (neC b o (k23 b o e))).trans z⟩
     · exact B.free b o (k23 b o e) (by show (upd H1 D _) b=none;rw[a0n (ns b o e)];exact nn) hf
     · obtain⟨o',z⟩:=B.there b o (k23 b o e) hf
       exact⟨o',(hs'.2 b (neC b o (k23 b o e))).trans z⟩
     · exact B.tups b xs (by show (upd H1 D _) b=_;rw[a0n (a0p e hD)];exact e)
     · exact B.frzs b o u' (by show (upd H1 D _) b=_;rw[a0n (a0p e hD)];exact e)
     · exact B.tbls b ps (by show (upd H1 D _) b=_;rw[a0n (a0p e hD)];exact e)
   have hok':HOk X.prog X.w H5 h':=fun b o e=>by
     refine (I6.hok b o e).stay (fun c' u' hc' z=>(hs'.2 c' fun zz=>?_).trans z) (fun _ z=>z) fun _ _ z=>z
     have fr:H5 C=none:=I6.free
     rcases hc' with hc' | hc'
     · rw[← zz,hc',e] at fr;cases fr
     · rw[← zz,hc'] at fr;cases fr
   have ho6:s6.os=s2.os:=I6.os.trans (by show s3.os=s2.os;rw[← e3])
   subst eh'
   have hC2:s2.heap.objs.size≤C:=by rw[← eC,hs3,eD];exact Nat.le_succ D
   exact hfin D C H5 s6 m6 (I2.call' (s':=s6) (ch:=fp) ho6 uu hok' I6.bare (fun b hb=>⟨(f2 b hb).2.2.2.1,(f2 b hb).2.1,(f2 b hb).2.2.2.2.1,(f2 b hb).2.2.2.2.2⟩)) hn6 (I2.fpOk hC2 I6.free) qn
 have loop:=hloop cl C s3 fp it tn J H1 D _ hG T Ic st4 fp0 fpc fin
 exact codeAny_compStart_list loop (T.self _ 0 _ _ _ st4 loop)
theorem b4o{Z:Cx}{tg elt iter:Expr}{pos:Pos}{scope:Scope}{g:TG}{te:TE}{no:Nat}{cp:L2.St}{fp:List Addr}{it D:Addr}{tn:Nat→Heap→Prop}{J:It}{H1:Hp}{s4:Shared}{Q:VK}{R0:Result→Shared→Prop}(hg:PG Z tg g)(he:PE Z elt te)(hc:Z.calm=true)(hE:∀ v s,Z.xe v s→False)(hG:∃ W:Nat→Nat→List V→Hp→Prop,(∃ m,W 0 m [] (upd H1 D (.lst [])))∧
 ∀ i m ys H2,W i m ys H2→(J.stop i H2∧Q (.ref D) H2)∨(J.go i H2∧∀ x H',J.yld i H2 x H'→∀ own:L2.St,own.length=no→g x (own++cp) H' fun σ2 H4=>(∃ own':L2.St,own'.length=no∧σ2=own'++cp)∧
   te σ2 H4 fun v H3=>H3 D=some (.lst ys)∧ys.length<sizeLine∧∃ m',m' < m∧W (i+1) m' (ys++[v]) (upd H3 D (.lst (ys++[v])))))(T:Turn Z.prog Z.w Z.K tg J fp it tn)(Ic:Inv Z [] (b7p no none++cp) (upd H1 D (.lst [])) s4)(st4:tn 0 s4.heap)(fp0:∀ b∈fp,(upd H1 D (.lst [])) b=none)(fpc:∀ H',(∀ b∈fp,H' b=none)→∀ b∈fp,FpOk Z [] H' b)(fin:∀ σ' H5 s6,Inv Z [] σ' H5 s6→Q (.ref D) H5→R0 (.ok .next) s6) :
   codeAny (model Z.prog Z.w) Z.A (.compLoop (.ListComp elt [⟨tg,iter,[],0⟩] scope pos) 0 (.ref it) (.ref D) Z.env) R0 s4:=by
 obtain⟨W,⟨m0,w0⟩,turn⟩:=hG
 refine a6f (fun n s'=>∃ i ys own H',own.length=no∧Inv Z [] (own++cp) H' s'∧tn i s'.heap∧(∀ b∈fp,H' b=none)∧W i n ys H') ?_ m0 ⟨0,[],b7p no none,_,b6o,Ic,st4,fp0,w0⟩
 rintro n s5 ⟨i,ys,own,H5,ho5,I5,st5,fr5,w5⟩
 rcases turn i n ys H5 w5 with⟨stop,qn⟩ | ⟨go,step⟩
 · refine thn (T.done Z rfl rfl rfl hc i [] s5 _ H5 _ I5 (fpc H5 fr5) st5 stop) fun r s6 ⟨hr,I6⟩=>?_
   subst hr
   exact fin _ _ _ I6 qn
 · refine thn (T.item Z rfl rfl rfl hc i [] s5 _ H5 _ I5 (fpc H5 fr5) st5 go) fun r s6 ⟨u,hr,h6⟩=>?_
   subst hr
   refine (thn h6 fun _ s7 ⟨y,H7,I7,r7,y7,st7,fr7⟩=>?_)
   have I7':=I7.pinned (fpc H7 fr7) (T.obj _ _ st7)
   refine wpAny_mono (hg _ s7 _ H7 y u _ I7' r7 (step y H7 y7 own ho5)) (fun _ s8 ⟨σ8,H8,I8,⟨own',ho8,e8⟩,q8⟩=>?_) fun _ _ z=>(hE _ _ z).elim
   subst e8
   refine wpAny_mono (he _ s8 _ H8 _ I8 q8) (fun xv s9 ⟨v9,H9,I9,r9,d9,l9,m9,lt9,w9⟩=>?_) fun _ _ z=>(hE _ _ z).elim
   refine wpAny_mono (a3h (X:=Z) _ s9 _ H9 (.ref D) [v9] (.ref D) [xv] (fun _ H10=>H10=upd H9 D (.lst (ys++[v9]))) I9 rfl (.cons r9 .nil) ⟨D,ys,v9,rfl,rfl,d9,l9,rfl⟩) (fun _ s10 ⟨_,H10,I10,_,e10⟩=>?_) fun _ _ z=>(hE _ _ z).elim
   subst e10
   refine⟨m9,lt9,i+1,ys++[v9],own',_,ho8,I10.unpinned,T.keep _ _ _ st7 fun b hb o e=>(I10.pin (b,o) (b5m _ (b5m _ (a1o hb e)))).1,fun b hb=>?_,w9⟩
   obtain⟨o,e,_⟩:=T.obj _ _ st7 b hb
   exact (I10.pin (b,o) (b5m _ (b5m _ (a1o hb e)))).2.1
theorem a8w{tg elt iter:Expr}{os:List Str}{pos ipos:Pos}{scope:Scope}{wi:TI}{g:TG}{te:TE}{caps:List (Nat×Str)}{pins:List (Addr×Obj)}{s:Shared}{σ:L2.St}{H:Hp}{Q:VK}{use:Option (Value→Sem Unit)}{R:Value→Shared→Prop}(hi:PI X tg iter wi)(hg:∀ cl C s0 H0 fp,PG (a1l X scope cl (os++caps.map (·.2)) C s0 H0 fp) tg g)(he:∀ cl C s0 H0 fp,PE (a1l X scope cl (os++caps.map (·.2)) C s0 H0 fp) elt te)(hfree:∀ y∈scope.names,y.2=.free→X.env.kindOf y.1=some .cell)(hcap:∀ p∈caps,X.N[p.1]?=some p.2∧X.env.kindOf p.2=some .cell∧((relabel scope X.env).names.lookup p.2=some .cell∨(relabel scope X.env).names.lookup p.2=some .free))(hkind:scope.kind=.function)(hcell:∀ y∈scope.names,y.2≠.cell)(hnames:∀ y∈scope.names,y.2=.local→scope.names.lookup y.1=some .local)(hc:X.calm=true)(hfs:∀ v,foldedSetIterable iter X.env v=pure v)(hfin:∀ D C H5 s6 m6,Inv X pins σ H5 s6→s6.heap.Ns C m6→FpOk X pins H5 C→Q (.ref D) H5→compPost (model X.prog X.w) X.A X.xe use R (.ref D) C (.ok .next) s6)(I:Inv X pins σ H s)(h:a5g os.length wi g te (caps.map (·.1)) σ H Q) :
   wpAny (model X.prog X.w) X.A (comprehension (.ListComp elt [⟨tg,iter,[],0⟩] scope pos) scope X.env ipos (newList []) false (eval iter X.env) use) R X.xe s:=by
 refine comp_gen (os:=os) (caps:=caps) hi hfree hcap hkind hcell hnames hc hfs hfin I h (fun cl C s3 fp it tn J H1 D s4 hG T Ic st4 fp0 fpc fin=>?_)
 exact b4o (Z:=(a1l X scope cl (os++caps.map (·.2)) C s3 (upd H1 D (.lst [])) fp)) (hg _ _ _ _ _) (he _ _ _ _ _) hc (fun _ _ z=>z) hG T Ic st4 fp0 fpc fin
theorem pe_compG{tg elt iter:Expr}{os:List Str}{pos:Pos}{scope:Scope}{wi:TI}{g:TG}{te:TE}{caps:List (Nat×Str)}(hi:PI X tg iter wi)(hg:∀ cl C s0 H0 fp,PG (a1l X scope cl (os++caps.map (·.2)) C s0 H0 fp) tg g)(he:∀ cl C s0 H0 fp,PE (a1l X scope cl (os++caps.map (·.2)) C s0 H0 fp) elt te)(hfree:∀ y∈scope.names,y.2=.free→X.env.kindOf y.1=some .cell)(hcap:∀ p∈caps,X.N[p.1]?=some p.2∧X.env.kindOf p.2=some .cell∧((relabel scope X.env).names.lookup p.2=some .cell∨(relabel scope X.env).names.lookup p.2=some .free))(hkind:scope.kind=.function)(hcell:∀ y∈scope.names,y.2≠.cell)(hnames:∀ y∈scope.names,y.2=.local→scope.names.lookup y.1=some .local)(hc:X.calm=true)(hfs:∀ v,foldedSetIterable iter X.env v=pure v) :
   PE X (.ListComp elt [⟨tg,iter,[],0⟩] scope pos) (a5g os.length wi g te (caps.map (·.1))):=by
 intro pins s σ H Q I h
 rw[eval_ListComp]
 refine a8w (Q:=Q) (use:=none) (R:=EP X pins σ Q) hi hg he hfree hcap hkind hcell hnames hc hfs (fun D C H5 s6 m6 I6 n6 f6 q6=>?_) I h
 refine⟨m6,n6,fun h' hs'=>⟨.ref D,H5,?_,rfl,q6⟩⟩
 exact I6.turned (t':=s6.toks) (fun b o hb e=>(hs'.2 b hb).trans e) f6.1 f6.2.1 f6.2.2.2.1 f6.2.2.2.2.1 f6.2.2.2.2.2
theorem ps_compG{tg elt iter:Expr}{os:List Str}{i:Nat}{y:Str}{py pos spos:Pos}{scope:Scope}{wi:TI}{g:TG}{te:TE}{caps:List (Nat×Str)}(hN:X.N.Nodup)(hy:X.N[i]?=some y)(hl:X.env.kindOf y=some .local)(hi:PI X tg iter wi)(hg:∀ cl C s0 H0 fp,PG (a1l X scope cl (os++caps.map (·.2)) C s0 H0 fp) tg g)(he:∀ cl C s0 H0 fp,PE (a1l X scope cl (os++caps.map (·.2)) C s0 H0 fp) elt te)(hfree:∀ y∈scope.names,y.2=.free→X.env.kindOf y.1=some .cell)(hcap:∀ p∈caps,X.N[p.1]?=some p.2∧X.env.kindOf p.2=some .cell∧((relabel scope X.env).names.lookup p.2=some .cell∨(relabel scope X.env).names.lookup p.2=some .free))(hkind:scope.kind=.function)(hcell:∀ y∈scope.names,y.2≠.cell)(hnames:∀ y∈scope.names,y.2=.local→scope.names.lookup y.1=some .local)(hc:X.calm=true)(hfs:∀ v,foldedSetIterable iter X.env v=pure v)(hsw:swapsWith (.ListComp elt [⟨tg,iter,[],0⟩] scope pos) (some (.Name y py)) spos.line X.env=pure true) :
   PS X (.Assign [.Name y py] (.ListComp elt [⟨tg,iter,[],0⟩] scope pos) spos) (tAsg (a5g os.length wi g te (caps.map (·.1))) (a5t i)):=by
 intro pins s σ H D I h
 rw[exec_Assign_Name_used _ _ _ _ hsw]
 refine wpAny_bind (wpAny_standAt (wpAny_bind ?_))
 show wpAny _ X.A (do let _ ← comprehension (.ListComp elt [⟨tg,iter,[],0⟩] scope pos) scope X.env _ (newList []) false (eval iter X.env) (some (assign (.Name y py) X.env))) _ _ s
 refine wpAny_bind (wpAny_mono (a8w (Q:=fun x H1=>a5t i x σ H1 D.nx) (use:=some (assign (.Name y py) X.env)) (R:=fun _ s'=>SP X pins D .next s') hi hg he hfree hcap hkind hcell hnames hc hfs (fun D' C H5 s6 m6 I6 n6 f6 q6=>?_) I h) (fun _ s' hq=>wpAny_pure (wpAny_pure hq)) fun _ _ e=>e)
 show wpAny _ X.A (assign (.Name y py) X.env (.ref D')) _ _ s6
 obtain⟨oC,es,ep,hoC,rC⟩:=n6
 have dC:∀ v,oC.data≠.cell v:=fun v z=>by
   first
     | (rw[rC.2.1] at z;cases z)
     | (obtain⟨_,hd,_⟩:=rC;rw[hd] at z;cases z)
     | (obtain⟨hd,_⟩:=rC;rw[hd] at z;cases z)
 have Ip:Inv X (pins++[(C,oC)]) σ H5 s6:=I6.pins_of fun p hp=>(b6n.mp hp).elim (fun z=>I6.pin p (b5m _ z)) fun z=>by
   have e:p=(C,oC):=by simpa using z
   subst e
   exact⟨hoC,f6.1,f6.2.1,f6.2.2.1,dC⟩
 refine wpAny_assign_Name (a3r Ip hN hy (.inl hl) (v:=.ref D') rfl (fun s7 I7=>?_) (.inr hl))
 have h7:=(I7.pin (C,oC) (b5m _ (b5m _ (by simp)))).1
 refine⟨m6,⟨oC,es,ep,h7,rC⟩,fun h' hs'=>⟨_,H5,?_,q6⟩⟩
 have I8:=I7.unpinned
 exact I8.turned (t':=s7.toks) (fun b o hb e=>(hs'.2 b hb).trans e) f6.1 f6.2.1 f6.2.2.2.1 f6.2.2.2.2.1 f6.2.2.2.2.2
end
end Cv
namespace Cv
open PySem PySem.Spec PyProof.Rows L2
def a6q(N:List Str)(sc scope:Scope)(caps:List (Nat×Str)):Bool:=
 decide (scope.kind=.function) && scope.names.all (fun y=>decide (y.2≠.cell) && (!decide (y.2=.free) || decide (sc.names.lookup y.1=some .cell)) && (!decide (y.2=.local) || decide (scope.names.lookup y.1=some .local))) &&
   caps.all fun p=>decide (N[p.1]?=some p.2) && decide (sc.names.lookup p.2=some .cell) && decide (scope.names.lookup p.2=some .free)
theorem a3f{env:Env}:∀ {names:List (Str×NameKind)} {y:Str},names.lookup y=some .free→
   (names.map fun (n,k)=>if (k == NameKind.free && env.scope.kind == .function && env.kindOf n == some .cell) then (n,NameKind.cell) else (n,k)).lookup y=some .cell∨
   (names.map fun (n,k)=>if (k == NameKind.free && env.scope.kind == .function && env.kindOf n == some .cell) then (n,NameKind.cell) else (n,k)).lookup y=some .free
 | [],_,h=>by simp at h
 | (n,q)::r,y,h=>by
   rw[b6h] at h
   rw[b7m]
   by_cases hy:y == n
   · rw[hy] at h
     cases h
     by_cases ht:(NameKind.free == NameKind.free && env.scope.kind == .function && env.kindOf n == some .cell)=true
     · left;simp only[ht];rw[b6h];simp[eq_of_beq hy]
     · right;simp only[ht];rw[b6h];simp[eq_of_beq hy]
   · rw[Bool.not_eq_true] at hy
     rw[hy] at h
     have ih:=a3f (env:=env) h
     by_cases ht:(q == NameKind.free && env.scope.kind == .function && env.kindOf n == some .cell)=true
     · simp only[ht];rw[b6h];simpa [hy] using ih
     · simp only[ht];rw[b6h];simpa [hy] using ih
section
variable {X:Cx}
theorem pe_compS{tg elt iter:Expr}{os:List Str}{pos:Pos}{scope:Scope}{wi:TI}{g:TG}{te:TE}{caps:List (Nat×Str)}(N:List Str)(sc:Scope)(hi:PI X tg iter wi)(hg:∀ cl C s0 H0 fp,PG (a1l X scope cl (os++caps.map (·.2)) C s0 H0 fp) tg g)(he:∀ cl C s0 H0 fp,PE (a1l X scope cl (os++caps.map (·.2)) C s0 H0 fp) elt te)(ok:a6q N sc scope caps=true)(hN:X.N=N:=by rfl)(hsc:X.env.scope=sc:=by rfl)(hc:X.calm=true:=by rfl)(hfs:∀ v,foldedSetIterable iter X.env v=pure v:=by intro _;rfl) :
   PE X (.ListComp elt [⟨tg,iter,[],0⟩] scope pos) (a5g os.length wi g te (caps.map (·.1))):=by
 subst hN hsc
 unfold a6q at ok
 simp only[Bool.and_eq_true,b8e,decide_eq_true_eq,Bool.or_eq_true,Bool.not_eq_true',decide_eq_false_iff_not] at ok
 obtain⟨⟨h1,h2⟩,h3⟩:=ok
 refine pe_compG hi hg he (fun y hy hf=>?_) (fun p hp=>?_) h1 (fun y hy=>(h2 y hy).1.1) (fun y hy hl=>?_) hc hfs
 · rcases (h2 y hy).1.2 with z | z
   · exact absurd hf z
   · exact z
 · obtain⟨⟨a,b⟩,c⟩:=h3 p hp
   exact⟨a,b,a3f c⟩
 · rcases (h2 y hy).2 with z | z
   · exact absurd hl z
   · exact z
theorem ps_compS{tg elt iter:Expr}{os:List Str}{i:Nat}{y:Str}{py pos spos:Pos}{scope:Scope}{wi:TI}{g:TG}{te:TE}{caps:List (Nat×Str)}(N:List Str)(sc:Scope)(hNd:X.N.Nodup)(hy:X.N[i]?=some y)(hl:X.env.kindOf y=some .local)(hi:PI X tg iter wi)(hg:∀ cl C s0 H0 fp,PG (a1l X scope cl (os++caps.map (·.2)) C s0 H0 fp) tg g)(he:∀ cl C s0 H0 fp,PE (a1l X scope cl (os++caps.map (·.2)) C s0 H0 fp) elt te)(ok:a6q N sc scope caps=true)(hN:X.N=N:=by rfl)(hsc:X.env.scope=sc:=by rfl)(hc:X.calm=true:=by rfl)(hfs:∀ v,foldedSetIterable iter X.env v=pure v:=by intro _;rfl)(hsw:swapsWith (.ListComp elt [⟨tg,iter,[],0⟩] scope pos) (some (.Name y py)) spos.line X.env=pure true:=by rfl) :
   PS X (.Assign [.Name y py] (.ListComp elt [⟨tg,iter,[],0⟩] scope pos) spos) (tAsg (a5g os.length wi g te (caps.map (·.1))) (a5t i)):=by
 subst hN hsc
 unfold a6q at ok
 simp only[Bool.and_eq_true,b8e,decide_eq_true_eq,Bool.or_eq_true,Bool.not_eq_true',decide_eq_false_iff_not] at ok
 obtain⟨⟨h1,h2⟩,h3⟩:=ok
 refine ps_compG hNd hy hl hi hg he (fun y hy hf=>?_) (fun p hp=>?_) h1 (fun y hy=>(h2 y hy).1.1) (fun y hy hl=>?_) hc hfs hsw
 · rcases (h2 y hy).1.2 with z | z
   · exact absurd hf z
   · exact z
 · obtain⟨⟨a,b⟩,c⟩:=h3 p hp
   exact⟨a,b,a3f c⟩
 · rcases (h2 y hy).2 with z | z
   · exact absurd hl z
   · exact z
end
def Tup(H H':Hp):Prop:=∀ b xs,H b=some (.tup xs)→H' b=some (.tup xs)
theorem _root_.L2.Same.tup{H H':Hp}(h:Same H H'):Tup H H':=fun b xs e=>h b _ e
theorem Tup.trans{H H1 H2:Hp}(a:Tup H H1)(b:Tup H1 H2):Tup H H2:=fun c xs e=>b c xs (a c xs e)
theorem Tup.lst{H:Hp}{D:Addr}{ys:List V}{o:HO}(h:H D=some (.lst ys)):Tup H (upd H D o):=fun b xs e=>by
 rw[a0n (fun z=>by rw[z,h] at e;cases e)];exact e
theorem ShV.tup{H H':Hp}{v:V}{q:Rat}(h:ShV H v q)(e:Tup H H'):ShV H' v q:=by
 obtain⟨a,rfl,h⟩:=h
 exact⟨a,rfl,e _ _ h⟩
def b5f(J:It)(H1:Hp)(n:Nat)(f:Nat→V):Prop:=∀ H2,Same H1 H2→∀ i,(i<n→J.go i H2∧∀ x H',J.yld i H2 x H'→H'=H2∧x=f i)∧(i=n→J.stop i H2)
def b5e(K:b5h)(J:It)(H1:Hp)(n:Nat)(f g:Nat→V):Prop:=∀ H2,Same H1 H2→∀ i,(i<n→J.go i H2∧∀ x H',J.yld i H2 x H'→Same H2 H'∧∃ a,x=.ref a∧SqT K H' a [f i,g i])∧(i=n→J.stop i H2)
theorem a5m(lo:Int)(n:Nat)(H1:Hp):b5f (Itr lo n) H1 n fun i=>.int (lo+i):=fun H2 _ i=>
 ⟨fun hi=>⟨hi,fun x H' y=>⟨y.1,y.2⟩⟩,fun e=>by subst e;exact b5n _⟩
theorem a2t{K:b5h}{a:Addr}{xs:List V}{H1:Hp}(h:SqL K H1 a xs):b5f (Itl K a) H1 xs.length fun i=>(xs[i]?).getD .non:=fun H2 s i=>
 ⟨fun hi=>⟨⟨xs,xs[i],s.seq h,by simp[hi]⟩,fun x H' y=>⟨y.1,by show x=(xs[i]?).getD .non;rw[y.2 xs (s.seq h)];rfl⟩⟩,fun e=>by subst e;exact⟨xs,s.seq h,b5n _⟩⟩
theorem a0s{n:Nat}(h:n≤100000):n<sizeLine:=Nat.lt_of_le_of_lt h (by rw[sizeLine_eq];decide)
section
variable {K:b5h} {J:It} {H1:Hp} {te:TE} {cs:L2.St} {Q:VK} {n:Nat}
theorem b0b{f:Nat→V}(hJ:b5f J H1 n f)(hn:n≤100000)(R:Nat→V→Hp→Prop)(hR:∀ i v H H',Tup H H'→R i v H→R i v H')(he:∀ i H2 (k:VK),i<n→Same H1 H2→(∀ v H3,Same H2 H3→R i v H3→k v H3)→te (some (f i)::cs) H2 k)(hq:∀ D ys H2,H1 D=none→Same H1 H2→H2 D=some (.lst ys)→ys.length=n→(∀ i v,ys[i]?=some v→R i v H2)→Q (.ref D) H2) :
   a7t 1 J H1 (a5t 0) te cs Q:=by
 intro D hD
 refine⟨fun i m ys H2=>m=n - i∧i≤n∧ys.length=i∧Same H1 H2∧H2 D=some (.lst ys)∧∀ j v,ys[j]?=some v→R j v H2,⟨n,by simp,b7b _,rfl,Same.new hD,a0f,fun j v e=>by simp at e⟩,?_⟩
 rintro i m ys H2 ⟨rfl,hi,hl,s2,d2,r2⟩
 by_cases hlt:i<n
 · refine .inr ⟨((hJ H2 s2 i).1 hlt).1,fun x H' y own ho=>?_⟩
   obtain⟨rfl,rfl⟩:=((hJ H2 s2 i).1 hlt).2 x H' y
   cases own with
   | nil=>cases ho
   | cons o1 r=>
     cases r with
     | cons _ _=>cases ho
     | nil=>
       refine⟨⟨[some (f i)],rfl,rfl⟩,he i _ _ hlt s2 fun v H3 s3 r3=>⟨s3 _ _ d2,a0s (by omega),n - (i+1),by omega,rfl,hlt,by rw[b5u,hl];rfl,fun b o e=>?_,a0f,fun j w e=>?_⟩⟩
       · rw[a0n (a0p e hD)];exact s3 _ _ (s2 _ _ e)
       · have t3:Tup H3 (upd H3 D (.lst (ys++[v]))):=Tup.lst (s3 _ _ d2)
         by_cases hj:j<ys.length
         · rw[b5w hj] at e
           exact hR _ _ _ _ (s3.tup.trans t3) (r2 j w e)
         · rw[b5y (by omega)] at e
           have hj0:j - ys.length=0:=by
             cases q:j - ys.length with
             | zero=>rfl
             | succ k=>rw[q] at e;simp at e
           rw[hj0] at e
           have e':v=w:=by simpa using e
           have hji:j=i:=by omega
           rw[← e',hji]
           exact hR _ _ _ _ t3 r3
 · have e:i=n:=by omega
   subst e
   exact .inl ⟨(hJ H2 s2 i).2 rfl,hq D ys H2 hD s2 d2 hl r2⟩
theorem comp2{f g:Nat→V}(hJ:b5e K J H1 n f g)(hn:n≤100000)(R:Nat→V→Hp→Prop)(hR:∀ i v H H',Tup H H'→R i v H→R i v H')(he:∀ i H2 (k:VK),i<n→Same H1 H2→(∀ v H3,Same H2 H3→R i v H3→k v H3)→te (some (f i)::some (g i)::cs) H2 k)(hq:∀ D ys H2,H1 D=none→Same H1 H2→H2 D=some (.lst ys)→ys.length=n→(∀ i v,ys[i]?=some v→R i v H2)→Q (.ref D) H2) :
   a7t 2 J H1 (gTup K 2 (gCons (a5t 0) (gCons (a5t 1) gNil))) te cs Q:=by
 intro D hD
 refine⟨fun i m ys H2=>m=n - i∧i≤n∧ys.length=i∧Same H1 H2∧H2 D=some (.lst ys)∧∀ j v,ys[j]?=some v→R j v H2,⟨n,by simp,b7b _,rfl,Same.new hD,a0f,fun j v e=>by simp at e⟩,?_⟩
 rintro i m ys H2 ⟨rfl,hi,hl,s2,d2,r2⟩
 by_cases hlt:i<n
 · refine .inr ⟨((hJ H2 s2 i).1 hlt).1,fun x H' y own ho=>?_⟩
   obtain⟨s2',a,rfl,ht⟩:=((hJ H2 s2 i).1 hlt).2 x H' y
   cases own with
   | nil=>cases ho
   | cons o1 r=>
     cases r with
     | nil=>cases ho
     | cons o2 r=>
       cases r with
       | cons _ _=>cases ho
       | nil=>
         refine⟨a,_,rfl,ht,rfl,_,_,rfl,_,_,rfl,rfl,⟨[some (f i),some (g i)],rfl,rfl⟩,he i _ _ hlt (s2.trans s2') fun v H3 s3 r3=>⟨s3 _ _ (s2' _ _ d2),a0s (by omega),n - (i+1),by omega,rfl,hlt,by rw[b5u,hl];rfl,fun b o e=>?_,a0f,fun j w e=>?_⟩⟩
         · rw[a0n (a0p e hD)];exact s3 _ _ (s2' _ _ (s2 _ _ e))
         · have t3:Tup H3 (upd H3 D (.lst (ys++[v]))):=Tup.lst (s3 _ _ (s2' _ _ d2))
           by_cases hj:j<ys.length
           · rw[b5w hj] at e
             exact hR _ _ _ _ ((s2'.trans s3).tup.trans t3) (r2 j w e)
           · rw[b5y (by omega)] at e
             have hj0:j - ys.length=0:=by
               cases q:j - ys.length with
               | zero=>rfl
               | succ k=>rw[q] at e;simp at e
             rw[hj0] at e
             have e':v=w:=by simpa using e
             have hji:j=i:=by omega
             rw[← e',hji]
             exact hR _ _ _ _ t3 r3
 · have e:i=n:=by omega
   subst e
   exact .inl ⟨(hJ H2 s2 i).2 rfl,hq D ys H2 hD s2 d2 hl r2⟩
end
section
variable {X:Cx}
theorem a0k(K:b5h)(h:X.K=K:=by rfl):IxR X (rIxL K):=by subst h;exact ix_list
theorem a0m(K:b5h)(h:X.K=K:=by rfl):IxR X (rIxT K):=by subst h;exact ix_tup
theorem a2x(K:b5h)(h:X.K=K:=by rfl):SlR X (rSlL K):=by subst h;exact sl_list
theorem a7c(K:b5h)(hu:X.A.units+64<cLine)(h:X.K=K:=by rfl):OpR X (compareOp .Eq) (rEqD K):=by subst h;exact op_eqD hu
theorem a1q(K:b5h)(h:X.K=K:=by rfl):a2k X (.builtin "len") (fun xs H Q=>∃ p ys,xs=[.ref p]∧(SqL K H p ys∨SqT K H p ys)∧Q (.int ys.length) H):=by subst h;exact a8z
theorem b4v(K:b5h)(h:X.K=K:=by rfl):a2k X (.builtin "isinstance") (fun xs H Q=>∃ x T t b,xs=[x,.ty T]∧TyOf K H x t∧b7r K t (.type T)=some b∧Q (.bl b) H):=by subst h;exact call_isi
theorem pg_tupK(K:b5h){es:List Expr}{k:Nat}{t:TGs}{n:Nat}{pos:Pos}(hc:X.calm=true)(h:PGs X es t)(hK:X.K=K:=by rfl)(hn:(assignEach es X.env).length=n:=by rfl)(hst:(assignEach es X.env).findIdx? (·.1)=none:=by rfl):PG X (.Tuple es k pos) (gTup K n t):=by subst hK;exact pg_tup hc h hn hst
end
end Cv
namespace Cv
open PySem PySem.Spec PyProof.Rows L2
section
variable {X:Cx}
def tBack(K:b5h)(te:TE)(ts:TO):TE:=fun σ H Q=>te σ H fun x H1=>ts σ H1 fun o H2=>o=some (-1)∧∃ (a:Addr) (xs:List V),x=.ref a∧SqL K H2 a xs∧∀ l,H2 l=none→Q (.ref l) (upd H2 l (.lst xs.reverse))
theorem a9o(K:b5h){e:Expr}{st:Expr}{te:TE}{ts:TO}{p2 pos:Pos}(he:PE X e te)(hs:PO X (some st) ts)(hK:X.K=K:=by rfl):PE X (.Subscript e (.Slice none none (some st) p2) pos) (tBack K te ts):=by
 subst hK
 intro pins s σ H Q I h
 refine Subscript_ (thn (he pins s σ H _ I h) fun v s1 ⟨x,H1,I1,r1,q1⟩=>?_)
 refine wpAny_Slice ?_
 rw[evalPart_none]
 refine wpAny_pure ?_
 refine wpAny_pure ?_
 refine thn (hs pins s1 σ H1 _ I1 q1) fun vs s3 ⟨o,H3,I3,pu,q3⟩=>?_
 obtain⟨rfl,a,xs,rfl,hq,q⟩:=q3
 cases r1
 have I4:Inv X pins σ H3 { s3 with heap:=s3.heap.push { cls:=.type "slice",data:=.fields #[.none,.none,vs] } }:=I3.kept (t':=s3.toks) fun b ob q=>Heap.get?_push_of_some _ q
 obtain⟨its,r,ht,hz⟩:=I4.list hq
 have hlen:=r.length
 have hg:wpAny (model X.prog X.w) X.A (getItem (.ref a) (.ref s3.heap.objs.size)) (EP X pins σ Q) X.xe { s3 with heap:=s3.heap.push { cls:=.type "slice",data:=.fields #[.none,.none,vs] } }:=by
   refine wpAny_getItem_list_slice ht.isList (Heap.IsSliceOf.new ..) .none .none pu (by decide) ?_ (by rw[b5p]<;>omega)
   rw[PySem.W.krv_pick]
   refine⟨.ref _,_,I4.laid (t':=s3.toks) (o:=.lst xs.reverse) (fun b ob q=>Heap.get?_push_of_some _ q) (b5n _) ?_,rfl,q _ (I4.hok.fresh (b5n _))⟩
   exact⟨by rw[b7n];exact hz,_,0,r.reverse,Heap.get?_push_size _ rfl⟩
 show wpAny (model X.prog X.w) X.A (subscriptTail e (.Slice none none (some st) p2) (.ref a) (.ref s3.heap.objs.size)) (EP X pins σ Q) X.xe { s3 with heap:=s3.heap.push { cls:=.type "slice",data:=.fields #[.none,.none,vs] } }
 exact tail_any (ops:=[.ref a,.ref s3.heap.objs.size]) ht.isList.typeIs slot_list_getitem.lookup hg (by with_unfolding_all rfl)
end
end Cv
namespace Cv
open PySem PySem.Spec PyProof.Rows L2
section
variable {X:Cx} {pins:List (Addr×Obj)} {σ:L2.St} {H:Hp} {s:Shared} {h':Heap}
theorem a7v{t':Nat}{ch:List Addr}{a:Addr}{o:HO}(I:Inv X pins σ H s)(hf:∀ b∈ch,FpOk X pins H b)(k:∀ b o,b∉ch→s.heap.get? b=some o→h'.get? b=some o)(ha:s.heap.objs.size≤a)(new:a1s X.prog X.w (upd H a o) h' a o):Inv X pins σ (upd H a o) { s with heap:=h',toks:=t' }:=by
 have hna:H a=none:=I.hok.fresh ha
 have nit:∀ b u,H b=some u→b∉ch:=fun b u e z=>by rw[(hf b z).1] at e;cases e
 have up:∀ b u,H b=some u→upd H a o b=some u:=fun b u e=>by rw[a0n (a0p e hna)];exact e
 refine I.step (g':=s.gens) (d':=s.drawn) (ch:=ch) (fun b hb=>⟨(hf b hb).2.2.2.1,(hf b hb).2.1,(hf b hb).2.2.2.2.1,(hf b hb).2.2.2.2.2⟩) (fun b o _ _ hc e _=>k b o hc e) (fun b o _ _ hc e _=>⟨o.slots,k b o hc e⟩) (fun b o _ e n=>?_)
   (fun b o hc e=>⟨o,k b o hc e⟩) (fun _ _ e=>up _ _ e) (fun _ _ _ e=>up _ _ e) (fun b ps e=>⟨#[],by rw[up _ _ e];simp⟩) (fun m hm=>?_) (fun b u e=>?_) I.bare
 · rw[a0n (fun z=>by rw[z] at e;exact absurd (Heap.lt_size e) (Nat.not_lt.mpr ha))];exact n
 · obtain⟨o,es,ep,ho,r⟩:=hm
   exact⟨o,es,ep,k _ o (fun z=>(hf _ z).2.1 rfl) ho,r⟩
 · by_cases hb:b=a
   · subst hb
     rw[a0f] at e
     cases e
     exact new
   · rw[a0n hb] at e
     refine (I.hok b u e).stay (fun c v hc q=>k c v ?_ q) (fun _ q=>up _ _ q) fun _ _ q=>up _ _ q
     rcases hc with z | z
     · rw[z];exact nit b u e
     · exact nit c _ z
theorem b2f{t':Nat}{ch:List Addr}(I:Inv X pins σ H s)(hf:∀ b∈ch,FpOk X pins H b)(k:∀ b o,b∉ch→s.heap.get? b=some o→h'.get? b=some o):Inv X pins σ H { s with heap:=h',toks:=t' }:=by
 have nit:∀ b u,H b=some u→b∉ch:=fun b u e z=>by rw[(hf b z).1] at e;cases e
 refine I.step (g':=s.gens) (d':=s.drawn) (ch:=ch) (fun b hb=>⟨(hf b hb).2.2.2.1,(hf b hb).2.1,(hf b hb).2.2.2.2.1,(hf b hb).2.2.2.2.2⟩) (fun b o _ _ hc e _=>k b o hc e) (fun b o _ _ hc e _=>⟨o.slots,k b o hc e⟩) (fun _ _ _ _ n=>n)
   (fun b o hc e=>⟨o,k b o hc e⟩) (fun _ _ e=>e) (fun _ _ _ e=>e) (fun b ps e=>⟨#[],by rw[e];simp⟩) (fun m hm=>?_) (fun b u e=>?_) I.bare
 · obtain⟨o,es,ep,ho,r⟩:=hm
   exact⟨o,es,ep,k _ o (fun z=>(hf _ z).2.1 rfl) ho,r⟩
 · refine (I.hok b u e).stay (fun c v hc q=>k c v ?_ q) (fun _ q=>q) fun _ _ q=>q
   rcases hc with z | z
   · rw[z];exact nit b u e
   · exact nit c _ z
end
def Itz(K:b5h)(l1 l2:Addr):It:=
 ⟨fun i H=>∃ xs ys x y,SqL K H l1 xs∧SqL K H l2 ys∧xs[i]?=some x∧ys[i]?=some y,
  fun i H v H'=>∃ T a b,v=.ref T∧H T=none∧H'=upd H T (.tup [a,b])∧(∀ xs,SqL K H l1 xs→xs[i]?=some a)∧∀ ys,SqL K H l2 ys→ys[i]?=some b,
  fun i H=>∃ xs ys,SqL K H l1 xs∧SqL K H l2 ys∧(xs[i]?=none∨ys[i]?=none)⟩
theorem turn_zip{P:Program}{w:World}{K:b5h}{elts:List Expr}{k0:Nat}{pos:Pos}{z TI TO i1 i2 l1 l2:Addr}(D:ZipApart z TI TO i1 i2 l1 l2):Turn P w K (.Tuple elts k0 pos) (Itz K l1 l2) [z,TI,TO,i1,i2] z
   (fun i h=>IsZip h z TI TO .none∧IsPair h TI (.ref i1) (.ref i2)∧(∃ a b,IsPair h TO a b)∧h.IsListIter i1 l1 i∧h.IsListIter i2 l2 i) where
 mem:=by simp
 obj:=fun i h st b hb=>by
   obtain⟨hz,hTI,⟨a,b',hTO⟩,⟨o1,e1,c1,d1⟩,⟨o2,e2,c2,d2⟩⟩:=st
   simp only[b6a,b6k,or_false] at hb
   rcases hb with rfl | rfl | rfl | rfl | rfl
   · exact⟨_,hz,fun v q=>by have q':Data.fields _=Data.cell v:=q;cases q'⟩
   · exact⟨_,hTI,fun v q=>by have q':Data.seq _ _=Data.cell v:=q;cases q'⟩
   · exact⟨_,hTO,fun v q=>by have q':Data.seq _ _=Data.cell v:=q;cases q'⟩
   · exact⟨_,e1,fun v q=>by rw[d1] at q;cases q⟩
   · exact⟨_,e2,fun v q=>by rw[d2] at q;cases q⟩
 keep:=fun i h h' st k=>by
   obtain⟨hz,hTI,⟨a,b,hTO⟩,h1,h2⟩:=st
   exact⟨k z (by simp) _ hz,k TI (by simp) _ hTI,⟨a,b,k TO (by simp) _ hTO⟩,h1.at fun o e=>k i1 (by simp) o e,h2.at fun o e=>k i2 (by simp) o e⟩
 item:=by
   intro X hP hw hK hc i pins s σ H E I hf st hg
   subst hP hw hK
   obtain⟨xs,ys,x,y,hq1,hq2,hx,hy⟩:=hg
   obtain⟨hz,hTI,⟨a,b,hTO⟩,h1,h2⟩:=st
   obtain⟨its1,rv1,p1,hz1⟩:=I.list hq1
   obtain⟨its2,rv2,p2,hz2⟩:=I.list hq2
   obtain⟨u1,hu1,ru1⟩:=rv1.get hx
   obtain⟨u2,hu2,ru2⟩:=rv2.get hy
   refine wpAny_pyNext_zip_item D hz hTI hTO h1 h2 p1.isList p2.isList (x:=u1) (y:=u2) (by simpa using hu1) (by simpa using hu2) fun h' a1 a2 a3 a4 a5 a6 a7=>?_
   refine⟨_,rfl,wpAny_letOwnedTupleGo_zip a1 fun h'' b1 b2=>?_⟩
   have hT:H s.heap.objs.size=none:=I.hok.fresh (b5n _)
   have neT:∀ {c o},s.heap.get? c=some o→c≠s.heap.objs.size:=fun e=>b5k (Heap.lt_size e)
   have kk:∀ b o,b∉[z,TI,TO,i1,i2]→s.heap.get? b=some o→h''.get? b=some o:=fun b o hb e=>by
     simp only[b6a,b6k,or_false,not_or] at hb
     exact b2.extBut b o hb.1 (a7 b o hb.1 hb.2.2.1 hb.2.2.2.1 hb.2.2.2.2 e)
   have tT:h''.get? s.heap.objs.size=some { cls:=.type "tuple",data:=.seq #[u1,u2] }:=b2.extBut _ _ (Ne.symm (neT hz)) a5
   have I1:=a7v (t':=s.toks) (a:=s.heap.objs.size) (o:=.tup [x,y]) (h':=h'') I hf kk (b5n _) ⟨by show 2≤sizeLine;decide,[u1,u2],.cons ru1 (.cons ru2 .nil),⟨_,tT,rfl,_,rfl⟩⟩
   refine⟨.ref s.heap.objs.size,_,I1,rfl,⟨s.heap.objs.size,x,y,rfl,hT,rfl,fun xs' hx'=>by rw[I.list_inj hx' hq1];exact hx,fun ys' hy'=>by rw[I.list_inj hy' hq2];exact hy⟩,?_,fun c hc=>?_⟩
   · exact⟨b1,b2.extBut _ _ D.TIz (a7 _ _ D.TIz D.TITO D.TIi1 D.TIi2 hTI),⟨_,_,b2.extBut _ _ D.TOz a2⟩,a3.extBut b2.extBut D.i1z,a4.extBut b2.extBut D.i2z⟩
   · have e0:=(hf c hc).1
     rw[a0n ?_]
     · exact e0
     · intro q
       obtain⟨o1,e1,_⟩:=h1
       obtain⟨o2,e2,_⟩:=h2
       simp only[b6a,b6k,or_false] at hc
       rcases hc with rfl | rfl | rfl | rfl | rfl
       · exact neT hz q
       · exact neT hTI q
       · exact neT hTO q
       · exact neT e1 q
       · exact neT e2 q
 done:=by
   intro X hP hw hK hc i pins s σ H E I hf st hg
   subst hP hw hK
   obtain⟨xs,ys,hq1,hq2,hend⟩:=hg
   obtain⟨hz,hTI,⟨a,b,hTO⟩,h1,h2⟩:=st
   obtain⟨its1,rv1,p1,hz1⟩:=I.list hq1
   obtain⟨its2,rv2,p2,hz2⟩:=I.list hq2
   refine wpAny_pyNext_zip_end (I.ok.hd hc) D hz hTI hTO h1 h2 p1.isList p2.isList (hend.imp (fun e=>by simpa using rv1.none_of e) fun e=>by simpa using rv2.none_of e) fun h' kk=>⟨rfl,b2f (t':=s.toks) I hf fun b o hb e=>?_⟩
   simp only[b6a,b6k,or_false,not_or] at hb
   exact kk b o hb.1 hb.2.2.1 hb.2.2.2.1 hb.2.2.2.2 e
 self:=fun _ _ _ _ _ st h=>wpAny_pyIter_zip st.1 h
section
variable {X:Cx}
def iZip(K:b5h)(ta:TA):TI:=fun σ H R=>ta σ H fun vs H1=>∃ l1 l2,vs=[.ref l1,.ref l2]∧(∃ xs,SqL K H1 l1 xs)∧(∃ ys,SqL K H1 l2 ys)∧R (Itz K l1 l2) H1
theorem pi_zip{a b:Expr}{ta:TA}{p pos ppos:Pos}{elts:List Expr}{k0:Nat}(hg:Gl X "zip")(hm:X.mg "zip" = none)(ha:PA X [a,b] ta)(he:starEach [a,b] X.env=(false,eval a X.env)::starEach [b] X.env:=by rfl)(hpl:(backTo pos (starEach [b] X.env)).any (·.1)=false:=by rfl):PI X (.Tuple elts k0 ppos) (.Call (.Name "zip" p) [a,b] [] pos) (iZip X.K ta):=by
 intro pins s σ H R I h
 refine wpAny_Call_Name_kw (a5q I hg hm boot_zip ?_ (by decide) (by decide))
 refine b6v (thn (ha pos pins s σ H _ I h) fun us s1 ⟨vs,H1,I1,r1,q1⟩=>?_) he hpl
 obtain⟨l1,l2,rfl,⟨xs,hq1⟩,⟨ys,hq2⟩,q⟩:=q1
 obtain⟨u1,u2,rfl,e1,e2⟩:=a1t r1
 cases e1;cases e2
 obtain⟨its1,rv1,p1,hz1⟩:=I1.list hq1
 obtain⟨its2,rv2,p2,hz2⟩:=I1.list hq2
 have a1:l1<s1.heap.objs.size:=by obtain⟨_,e,_⟩:=p1.isList;exact Heap.lt_size e
 have a2:l2<s1.heap.objs.size:=by obtain⟨_,e,_⟩:=p2.isList;exact Heap.lt_size e
 refine call_zip_2 p1.isList p2.isList fun h' hz hTI hTO hi1 hi2 _ hk=>?_
 refine wpAny_pyIter_zip hz ?_
 refine⟨_,[s1.heap.objs.size+4,s1.heap.objs.size+2,s1.heap.objs.size+3,s1.heap.objs.size,s1.heap.objs.size+1],_,_,H1,rfl,I1.kept (t':=s1.toks) hk,turn_zip (zipApart_new a1 a2),⟨hz,hTI,⟨_,_,hTO⟩,hi1,hi2⟩,fun c hc=>?_,q⟩
 have hge:s1.heap.objs.size≤c:=by
   simp only[b6a,b6k,or_false] at hc
   rcases hc with rfl | rfl | rfl | rfl | rfl<;>omega
 exact I1.fpOk hge (I1.hok.fresh hge)
theorem b3g{K:b5h}{l1 l2:Addr}{xs ys:List V}{H1:Hp}(h1:SqL K H1 l1 xs)(h2:SqL K H1 l2 ys):b5e K (Itz K l1 l2) H1 (min xs.length ys.length) (fun i=>(xs[i]?).getD .non) (fun i=>(ys[i]?).getD .non):=fun H2 s i=>by
 refine⟨fun hi=>⟨⟨xs,ys,xs[i]'(by omega (config:={})),ys[i]'(by omega (config:={})),s.seq h1,s.seq h2,by simp[show i<xs.length by omega],by simp[show i<ys.length by omega]⟩,fun x H' y=>?_⟩,fun e=>⟨xs,ys,s.seq h1,s.seq h2,?_⟩⟩
 · obtain⟨T,a,b,rfl,hT,rfl,e1,e2⟩:=y
   refine⟨Same.new hT,T,rfl,?_⟩
   show SqT K _ T [(xs[i]?).getD .non,(ys[i]?).getD .non]
   rw[e1 xs (s.seq h1),e2 ys (s.seq h2)]
   exact SqT.of a0f
 · rcases Nat.le_total xs.length ys.length with h | h
   · exact .inl (b6p (by omega))
   · exact .inr (b6p (by omega))
theorem b5b(bs:List Bool):(b7l bs.length).all (fun i=>(bs[i]?).getD false)=bs.all id:=by
 rw[b7u,b8e,b8e]
 constructor
 · intro h b hb
   obtain⟨i,hi,rfl⟩:=b6y hb
   have:=h i (List.mem_range.mpr hi)
   simpa [hi] using this
 · intro h i hi
   have hi':=List.mem_range.mp hi
   have:=h bs[i] (b6z hi')
   simpa [hi'] using this
theorem b2x{bs:List Bool}{us:List Value}(r:Vals (bs.map V.bl) us):us=bs.map Value.bool:=by
 induction bs generalizing us with
 | nil=>cases r;rfl
 | cons b r' ih=>
   cases r with
   | cons p q=>rw[b7m,← ih q];cases p;rfl
theorem b4w(hc:X.calm=true):a2k X (.builtin "all") (fun xs H Q=>∃ (p:Addr) (bs:List Bool),xs=[.ref p]∧SqL X.K H p (bs.map V.bl)∧Q (.bl (bs.all id)) H):=by
 intro pins s σ H xs us Q I r h
 obtain⟨p,bs,rfl,hq,q⟩:=h
 obtain⟨u,rfl,ru⟩:=a2v r
 cases ru
 obtain⟨its,rv,pl,hz⟩:=I.list hq
 have e:=b2x rv
 subst e
 have a1:p<s.heap.objs.size:=by obtain⟨_,e,_⟩:=pl.isList;exact Heap.lt_size e
 have hne:p≠s.heap.objs.size:=b5k a1
 refine call_all_walk (wpAny_pyIter_list pl.isList ⟨_,_,_,_,_,_,fun i=>(bs[i]?).getD false,rfl,Walks.list (A:=X.A.in1) (show X.A.in1.handled=none from I.ok.hd hc) _ p hne _,⟨⟨_,Heap.get?_push_size _ rfl,rfl,rfl⟩,Heap.IsList.push pl.isList _⟩,fun i v s' Q' E' hv hQ=>?_,fun h' tk hk=>?_⟩)
 · have hv':(bs.map Value.bool)[i]?=some v:=by simpa using hv
   have hQ:Q' ((bs[i]?).getD false) s':=hQ
   rw[b5s] at hv'
   cases eb:bs[i]? with
   | none=>rw[eb] at hv';cases hv'
   | some b=>
     rw[eb] at hv' hQ
     cases hv'
     exact wpAny_truthy_bool hQ
 · have ea:(b7l (bs.map Value.bool).toArray.size).all (fun i=>(bs[i]?).getD false)=bs.all id:=by
     rw[← b5b bs];simp
   rw[ea]
   exact⟨.bl _,H,I.kept (h':=h') (t':=tk) (fun b o eb=>hk b o (by
     intro hm
     have:b=s.heap.objs.size:=by simpa using hm
     rw[this] at eb
     exact absurd (Heap.lt_size eb) (b7a _)) (Heap.get?_push_of_some _ eb)),rfl,q⟩
end
end Cv
namespace Cv
open PySem PySem.Spec PyProof.Rows L2
section
set_option autoImplicit true
@[irreducible] def PEi(X:Cx)(e:Expr)(t:TE):Prop:=PE X e t
@[irreducible] def PAi(X:Cx)(e:List Expr)(t:TA):Prop:=PA X e t
@[irreducible] def PTi(X:Cx)(e:Expr)(t:TT):Prop:=PT X e t
@[irreducible] def PWi(X:Cx)(e:Expr)(t:TT):Prop:=PW X e t
@[irreducible] def PSi(X:Cx)(e:Stmt)(t:TS):Prop:=PS X e t
@[irreducible] def PSsi(X:Cx)(e:List Stmt)(t:TS):Prop:=PSs X e t
@[irreducible] def PGi(X:Cx)(e:Expr)(t:TG):Prop:=PG X e t
@[irreducible] def PGsi(X:Cx)(e:List Expr)(t:TGs):Prop:=PGs X e t
@[irreducible] def PIi(X:Cx)(tg e:Expr)(t:TI):Prop:=PI X tg e t
@[irreducible] def POi(X:Cx)(e:Option Expr)(t:TO):Prop:=PO X e t
theorem pvI(i:Nat){x:Str}{pos:Pos}(hN:X.N[i]?=some x:=by rfl)(hv:Vis X.env.scope x:=by first | exact Or.inl rfl | exact Or.inr (Or.inl rfl) | exact Or.inr (Or.inr rfl))(hd:(x == ("__debug__" : Str))=false:=by decide)(hcd:(x == ("__classdict__" : Str))=false:=by decide):PEi X (.Name x pos) (tVar i):=by with_unfolding_all exact pv (i:=i) (hN:=hN) (hv:=hv) (hd:=hd) (hcd:=hcd)
theorem a0b{i j pos}:PEi X (.Constant (.int i) j pos) (tC (.int i)):=by with_unfolding_all exact pe_int
theorem b0r{b j pos}:PEi X (.Constant (.bool b) j pos) (tC (.bl b)):=by with_unfolding_all exact pe_bl
theorem pe_bltnI{x:Str}{v:V}{u:Value}{pos:Pos}(hg:Gl X x)(hm:X.mg x=none)(hv:bootBuiltins x=some u)(r:RelV v u)(hn:x ≠ "__name__":=by decide)(hd:(x == ("__debug__" : Str))=false:=by decide):PEi X (.Name x pos) (tC v):=by with_unfolding_all exact pe_bltn (hg:=hg) (hm:=hm) (hv:=hv) (r:=r) (hn:=hn) (hd:=hd)
theorem a0e{op:Operator}{r:R2}(ho:OpR X (binaryOp op) r)(ha:PEi X a ta)(hb:PEi X b tb):PEi X (.BinOp a op b pos) (tOp r ta tb):=by with_unfolding_all exact pe_op (ho:=ho) (ha:=ha) (hb:=hb)
theorem b0q{op:UnaryOp}{r:V→Hp→VK→Prop}(ho:UnR X (unaryOp op) r)(ha:PEi X a ta):PEi X (.UnaryOp op a pos) (tUn r ta):=by with_unfolding_all exact pe_un (ho:=ho) (ha:=ha)
theorem a2n{op:CmpOp}{r:R2}(ho:OpR X (compareOp op) r)(ha:PEi X a ta)(hb:PEi X b tb)(hm:behindInMarks op b=false):PEi X (.Compare a [op] [b] pos) (tOp r ta tb):=by with_unfolding_all exact pe_cmpR (ho:=ho) (ha:=ha) (hb:=hb) (hm:=hm)
theorem b3k{op op':CmpOp}{r r':R2}(ho:OpR X (compareOp op) r)(ho':OpR X (compareOp op') r')(ha:PEi X a ta)(hb:PEi X b tb)(hc:PEi X c tc)(hm:lastMarks [op,op'] [b,c]=false:=by with_unfolding_all rfl):PEi X (.Compare a [op,op'] [b,c] pos) (b0h r r' ta tb tc):=by with_unfolding_all exact pe_chain (ho:=ho) (ho':=ho') (ha:=ha) (hb:=hb) (hc:=hc) (hm:=hm)
theorem a9p{rest:List Expr}(ha:PEi X a ta)(hb:PEi X (.BoolOp .And (b::rest) pos) tb):PEi X (.BoolOp .And (a::b::rest) pos) (tAndV ta tb):=by with_unfolding_all exact pe_and (ha:=ha) (hb:=hb)
theorem b3j{op}{t:TE}(h:PEi X a t):PEi X (.BoolOp op [a] pos) t:=by with_unfolding_all exact pe_one (h:=h)
theorem a0v(D:a0u X.prog X.w X.K X.mg X.base CX k x ps sp)(hr:Room j X.A)(hx:a9f CX X E)(ha:PAi X (e::es) t)(hk:k≤j:=by decide)(hg:Gl X x:=by rfl)(hdb:(x == ("__debug__" : Str))=false:=by decide)(he:starEach (e::es) X.env=(false,eval e X.env)::starEach es X.env:=by rfl)(hpl:(backTo pos (starEach es X.env)).any (·.1)=false:=by rfl):PEi X (.Call (.Name x p) (e::es) [] pos) (tFn sp E t):=by with_unfolding_all exact pe_fn (D:=D) (hr:=hr) (hx:=hx) (ha:=ha) (hk:=hk) (hg:=hg) (hdb:=hdb) (he:=he) (hpl:=hpl)
theorem a0r{id:String}(hc:a2k X (.builtin id) r)(hg:Gl X x)(hm:X.mg x=none)(hv:bootBuiltins x=some (.builtin id))(ha:PAi X (e::es) t)(hn:x ≠ "__name__":=by decide)(hdb:(x == ("__debug__" : Str))=false:=by decide)(he:starEach (e::es) X.env=(false,eval e X.env)::starEach es X.env:=by rfl)(hpl:(backTo pos (starEach es X.env)).any (·.1)=false:=by rfl):PEi X (.Call (.Name x p) (e::es) [] pos) (tCB r t):=by with_unfolding_all exact pe_callB (hc:=hc) (hg:=hg) (hm:=hm) (hv:=hv) (ha:=ha) (hn:=hn) (hdb:=hdb) (he:=he) (hpl:=hpl)
theorem a6n(hc:a2k X (.type T) r)(hg:Gl X x)(hm:X.mg x=none)(hv:bootBuiltins x=some (.type T))(ha:PAi X (e::es) t)(hn:x ≠ "__name__":=by decide)(hdb:(x == ("__debug__" : Str))=false:=by decide)(he:starEach (e::es) X.env=(false,eval e X.env)::starEach es X.env:=by rfl)(hpl:(backTo pos (starEach es X.env)).any (·.1)=false:=by rfl):PEi X (.Call (.Name x p) (e::es) [] pos) (tCB r t):=by with_unfolding_all exact b3l (hc:=hc) (hg:=hg) (hm:=hm) (hv:=hv) (ha:=ha) (hn:=hn) (hdb:=hdb) (he:=he) (hpl:=hpl)
theorem b3m{id:String}(pa:PlainAttrs T)(slot:Slot T name id)(hty:typeOf (.builtin id)=pure (.type "method_descriptor"))(hm:MtR X id r)(ho:PEi X o to)(ha:PAi X (e::es) t)(hbase:attributeBase o name X.env (eval o X.env)=eval o X.env:=by rfl)(hfew:((backTo cpos (starEach (e::es) X.env)).all (fun x=>!x.1) && (backToKw cpos (keywordEach [] X.env)).all (fun x=>x.1.isSome)
 && decide ((e::es).length+([]:List Keyword).length+(if ([]:List Keyword).isEmpty then 0 else 1)<30))=true:=by rfl)(hline:(apos.endLine == cpos.line)=true:=by rfl)(hs:starEach (e::es) X.env=(false,eval e X.env)::starEach es X.env:=by rfl)(hplain:(backTo cpos (starEach es X.env)).any (·.1)=false:=by rfl):PEi X (.Call (.Attribute o name apos) (e::es) [] cpos) (tBM X.K T r to t):=by with_unfolding_all exact pe_bm (pa:=pa) (slot:=slot) (hty:=hty) (hm:=hm) (ho:=ho) (ha:=ha) (hbase:=hbase) (hfew:=hfew) (hline:=hline) (hs:=hs) (hplain:=hplain)
theorem b3n{id:String}(pa:PlainAttrs T)(slot:Slot T name id)(hty:typeOf (.builtin id)=pure (.type "method_descriptor"))(hm:MtR X id r)(ho:PEi X o to)(hbase:attributeBase o name X.env (eval o X.env)=eval o X.env:=by rfl)(hline:(apos.endLine == cpos.line)=true:=by rfl):PEi X (.Call (.Attribute o name apos) [] [] cpos) (tBM0 X.K T r to):=by with_unfolding_all exact pe_bm0 (pa:=pa) (slot:=slot) (hty:=hty) (hm:=hm) (ho:=ho) (hbase:=hbase) (hline:=hline)
theorem a0i{r:R2}(hr:IxR X r)(ha:PEi X a ta)(hb:PEi X b tb)(hs:b5d b):PEi X (.Subscript a b pos) (tOp r ta tb):=by with_unfolding_all exact pe_ix (hr:=hr) (ha:=ha) (hb:=hb) (hs:=hs)
theorem a2g{lo hi:Option Expr}{r:V→Option Int→Option Int→Hp→VK→Prop}(hr:SlR X r)(he:PEi X e te)(hl:POi X lo tl)(hu:POi X hi th):PEi X (.Subscript e (.Slice lo hi none p2) pos) (tSl r te tl th):=by with_unfolding_all exact pe_slice (hr:=hr) (he:=he) (hl:=hl) (hu:=hu)
theorem a1g{x1}(h:PAi X es t):PEi X (.Tuple es x1 pos) (tTup t):=by with_unfolding_all exact pe_tup (h:=h)
theorem a4k(h:PAi X es t):PEi X (.List es pos) (tLst t):=by with_unfolding_all exact pe_lst (h:=h)
theorem a2h{tg elt iter:Expr}{os:List Str}{pos:Pos}{scope:Scope}{wi:TI}{g:TG}{te:TE}{caps:List (Nat×Str)}(N:List Str)(sc:Scope)(hi:PIi X tg iter wi)(hg:∀ cl C s0 H0 fp,PGi (a1l X scope cl (os++caps.map (·.2)) C s0 H0 fp) tg g)(he:∀ cl C s0 H0 fp,PEi (a1l X scope cl (os++caps.map (·.2)) C s0 H0 fp) elt te)(ok:a6q N sc scope caps=true)(hN:X.N=N:=by rfl)(hsc:X.env.scope=sc:=by rfl)(hc:X.calm=true:=by rfl)(hfs:∀ v,foldedSetIterable iter X.env v=pure v:=by intro _;rfl):PEi X (.ListComp elt [⟨tg,iter,[],0⟩] scope pos) (a5g os.length wi g te (caps.map (·.1))):=by with_unfolding_all exact pe_compS (N:=N) (sc:=sc) (hi:=hi) (hg:=hg) (he:=he) (ok:=ok) (hN:=hN) (hsc:=hsc) (hc:=hc) (hfs:=hfs)
theorem a8l(K:b5h){e:Expr}{st:Expr}{te:TE}{ts:TO}{p2 pos:Pos}(he:PEi X e te)(hs:POi X (some st) ts)(hK:X.K=K:=by rfl):PEi X (.Subscript e (.Slice none none (some st) p2) pos) (tBack K te ts):=by with_unfolding_all exact a9o (K:=K) (he:=he) (hs:=hs) (hK:=hK)
theorem a0d   : PAi X [] tNil:=by with_unfolding_all exact pa_nil
theorem a0a(ha:PEi X e te)(hr:PAi X es t)(hs:starEach (e::es) X.env=(false,eval e X.env)::starEach es X.env:=by rfl):PAi X (e::es) (tCons te t):=by with_unfolding_all exact pa_cons (ha:=ha) (hr:=hr) (hs:=hs)
theorem a0z{op:CmpOp}{r:R2}(ho:OpR X (compareOp op) r)(ha:PEi X a ta)(hb:PEi X b tb)(hm:behindInMarks op b=false):PTi X (.Compare a [op] [b] pos) (tTest (tOp r ta tb)):=by with_unfolding_all exact pt_cmpR (ho:=ho) (ha:=ha) (hb:=hb) (hm:=hm)
theorem b3c{op op':CmpOp}{r r':R2}(ho:OpR X (compareOp op) r)(ho':OpR X (compareOp op') r')(ha:PEi X a ta)(hb:PEi X b tb)(hc:PEi X c tc)(hm:lastMarks [op,op'] [b,c]=false:=by with_unfolding_all rfl):PTi X (.Compare a [op,op'] [b,c] pos) (tTest (b0h r r' ta tb tc)):=by with_unfolding_all exact pt_chain (ho:=ho) (ho':=ho') (ha:=ha) (hb:=hb) (hc:=hc) (hm:=hm)
theorem a9l(ha:PTi X a tA):PTi X (.UnaryOp .Not a pos) (tNot tA):=by with_unfolding_all exact pt_not (ha:=ha)
theorem b3b{e:Expr}{t:TE}(h:PEi X e t)(he:∀ whole,isTrue e X.env whole=(do let v ← whole;standAt e.pos;holding [v] (truthy v)):=by intro _;rfl):PTi X e (tB t):=by with_unfolding_all exact pt_val (h:=h) (he:=he)
theorem PW_ptI{X:Cx}{e:Expr}{t:TT}(h:PWi X e t):PTi X e t:=by with_unfolding_all exact L2.PW.pt (h:=h)
theorem pw_and1I(ha:PTi X a tA):PWi X (.BoolOp .And [a] pos) tA:=by with_unfolding_all exact pw_and1 (ha:=ha)
theorem pw_andI{rest:List Expr}(ha:PTi X a tA)(hb:PWi X (.BoolOp .And (b::rest) pos) tB'):PWi X (.BoolOp .And (a::b::rest) pos) (tAnd tA tB'):=by with_unfolding_all exact pw_and (ha:=ha) (hb:=hb)
theorem a1c   : PSsi X [] tNext:=by with_unfolding_all exact pss_nil
theorem a0c{st:Stmt}{rest:List Stmt}(h1:PSi X st t)(h2:PSsi X rest u):PSsi X (st::rest) (tSeq t u):=by with_unfolding_all exact pss_cons (h1:=h1) (h2:=h2)
theorem a0h{st:Stmt}(h1:PSi X st t):PSsi X [st] t:=by with_unfolding_all exact pss_one (h1:=h1)
theorem a5c(he:PEi X e te)(hs:swapsWith e none pos.line X.env=pure false:=by rfl):PSi X (.Expr e pos) (tDrop te):=by with_unfolding_all exact ps_expr (he:=he) (hs:=hs)
theorem a0o(he:PEi X e te):PSi X (.Return (some e) pos) (tRet te):=by with_unfolding_all exact ps_ret (he:=he)
theorem a1v{c:Expr}{a b:List Stmt}{tc:TT}(hc:PTi X c tc)(ha:PSsi X a t)(hb:PSsi X b u):PSi X (.If c a b pos) (tIfS tc t u):=by with_unfolding_all exact ps_if (hc:=hc) (ha:=ha) (hb:=hb)
theorem a4j{tg e:Expr}{te:TE}{g:TG}(he:PEi X e te)(hg:PGi X tg g)(hs:swapsWithSole [tg] e pos.line X.env=pure false:=by rfl)(hw:swappedStores [tg] e X.env=pure none:=by rfl)(h1:(assignEach [tg] X.env).map (·.2)=[assign tg X.env]:=by rfl):PSi X (.Assign [tg] e pos) (tAsg te g):=by with_unfolding_all exact ps_asg (he:=he) (hg:=hg) (hs:=hs) (hw:=hw) (h1:=h1)
theorem a0l{i:Nat}{x:Str}{e:Expr}{te:TE}{pos':Pos}(hN:X.N.Nodup)(hi:X.N[i]?=some x)(hx:Loc X.env.scope x)(he:PEi X e te)(hs:swapsWith e (some (.Name x pos')) pos.line X.env=pure false:=by rfl)(hf:X.fn x=true∨X.env.scope.names.lookup x=some .local:=by first | exact .inl rfl | exact .inr rfl | assumption):PSi X (.Assign [.Name x pos'] e pos) (tAsg te (a5t i)):=by with_unfolding_all exact ps_set (hN:=hN) (hi:=hi) (hx:=hx) (he:=he) (hs:=hs) (hf:=hf)
theorem ps_parI{i j:Nat}{x y:Str}{a b:Expr}{ta:TA}{px py pt:Pos}{kt k2 pt2}(hc:X.calm=true)(hN:X.N.Nodup)(hi:X.N[i]?=some x)(hj:X.N[j]?=some y)(hij:i≠j)(hx:X.env.scope.names.lookup x=some .local)(hy:X.env.scope.names.lookup y=some .local)(ha:PAi X [a,b] ta)(hw:swappedStores [.Tuple [.Name x px,.Name y py] kt pt] (.Tuple [a,b] k2 pt2) X.env=pure (some [x,y]))(hs:swapsWithSole [.Tuple [.Name x px,.Name y py] kt pt] (.Tuple [a,b] k2 pt2) pos.line X.env=pure false:=by rfl):PSi X (.Assign [.Tuple [.Name x px,.Name y py] kt pt] (.Tuple [a,b] k2 pt2) pos) (tPar i j ta):=by with_unfolding_all exact ps_par (hc:=hc) (hN:=hN) (hi:=hi) (hj:=hj) (hij:=hij) (hx:=hx) (hy:=hy) (ha:=ha) (hw:=hw) (hs:=hs)
theorem a5j{c:Expr}{body:List Stmt}{tc:TT}{tb:TS}(hp:PassesOwn (model X.prog X.w) X.A X.env X.xe)(hc:PTi X c tc)(hb:PSsi X body tb):PSi X (.While c body [] pos) (b2k tc tb):=by with_unfolding_all exact ps_while (hp:=hp) (hc:=hc) (hb:=hb)
theorem a3g{iter:Expr}{body:List Stmt}{wi:TI}{g:TG}{tb:TS}{pos:Pos}(hp:PassesOwn (model X.prog X.w) X.A X.env X.xe)(hc:X.calm=true)(hi:PIi X tg iter wi)(hg:PGi X tg g)(hb:PSsi X body tb)(hs:∀ x,foldedSetIterable iter X.env x=pure x:=by intro _;rfl):PSi X (.For tg iter body [] pos) (tFor wi g tb):=by with_unfolding_all exact ps_for (hp:=hp) (hc:=hc) (hi:=hi) (hg:=hg) (hb:=hb) (hs:=hs)
theorem a8i{tg elt iter:Expr}{os:List Str}{i:Nat}{y:Str}{py pos spos:Pos}{scope:Scope}{wi:TI}{g:TG}{te:TE}{caps:List (Nat×Str)}(N:List Str)(sc:Scope)(hNd:X.N.Nodup)(hy:X.N[i]?=some y)(hl:X.env.kindOf y=some .local)(hi:PIi X tg iter wi)(hg:∀ cl C s0 H0 fp,PGi (a1l X scope cl (os++caps.map (·.2)) C s0 H0 fp) tg g)(he:∀ cl C s0 H0 fp,PEi (a1l X scope cl (os++caps.map (·.2)) C s0 H0 fp) elt te)(ok:a6q N sc scope caps=true)(hN:X.N=N:=by rfl)(hsc:X.env.scope=sc:=by rfl)(hc:X.calm=true:=by rfl)(hfs:∀ v,foldedSetIterable iter X.env v=pure v:=by intro _;rfl)(hsw:swapsWith (.ListComp elt [⟨tg,iter,[],0⟩] scope pos) (some (.Name y py)) spos.line X.env=pure true:=by rfl):PSi X (.Assign [.Name y py] (.ListComp elt [⟨tg,iter,[],0⟩] scope pos) spos) (tAsg (a5g os.length wi g te (caps.map (·.1))) (a5t i)):=by with_unfolding_all exact ps_compS (N:=N) (sc:=sc) (hNd:=hNd) (hy:=hy) (hl:=hl) (hi:=hi) (hg:=hg) (he:=he) (ok:=ok) (hN:=hN) (hsc:=hsc) (hc:=hc) (hfs:=hfs) (hsw:=hsw)
theorem a0j{i:Nat}{x:Str}(hN:X.N.Nodup)(hi:X.N[i]?=some x)(hx:Loc X.env.scope x)(hf:X.fn x=true∨X.env.scope.names.lookup x=some .local:=by first | exact .inl rfl | exact .inr rfl | assumption):PGi X (.Name x pos) (a5t i):=by with_unfolding_all exact pg_name (hN:=hN) (hi:=hi) (hx:=hx) (hf:=hf)
theorem a1z   : PGsi X [] gNil:=by with_unfolding_all exact pgs_nil
theorem a0q{e:Expr}{es:List Expr}{t:TG}{u:TGs}(h1:PGi X e t)(h2:PGsi X es u)(hs:(assignEach (e::es) X.env).map (·.2)=assign e X.env::(assignEach es X.env).map (·.2):=by rfl):PGsi X (e::es) (gCons t u):=by with_unfolding_all exact pgs_cons (h1:=h1) (h2:=h2) (hs:=hs)
theorem a2m(K:b5h){es:List Expr}{k:Nat}{t:TGs}{n:Nat}{pos:Pos}(hc:X.calm=true)(h:PGsi X es t)(hK:X.K=K:=by rfl)(hn:(assignEach es X.env).length=n:=by rfl)(hst:(assignEach es X.env).findIdx? (·.1)=none:=by rfl):PGi X (.Tuple es k pos) (gTup K n t):=by with_unfolding_all exact pg_tupK (K:=K) (hc:=hc) (h:=h) (hK:=hK) (hn:=hn) (hst:=hst)
theorem pg_subI{o i:Expr}{to ti:TE}{t:TSet}(ho:PEi X o to)(hi:PEi X i ti)(hs:PSet X t)(ha:∀ v,assign (.Subscript o i pos) X.env v=(do
 let ov ← holding [v] (eval o X.env)
 let iv ← holding [v,ov] (eval i X.env)
 standAt pos
 holding [v,ov,iv] (setItem ov iv v)
 release [v,ov,iv] []):=by intro _;rfl):PGi X (.Subscript o i pos) (gSub to ti t):=by with_unfolding_all exact pg_sub (ho:=ho) (hi:=hi) (hs:=hs) (ha:=ha)
theorem pi_listI{l:Expr}{tl:TE}(hl:PEi X l tl):PIi X tg l (iList X.K tl):=by with_unfolding_all exact pi_list (hl:=hl)
theorem a2c{a:Expr}{ta:TA}{p pos:Pos}(hg:Gl X "range")(hm:X.mg "range" = none)(ha:PAi X [a] ta)(hs:starEach [a] X.env=[(false,eval a X.env)]:=by rfl):PIi X tg (.Call (.Name "range" p) [a] [] pos) (iRng1 ta):=by with_unfolding_all exact b3i (hg:=hg) (hm:=hm) (ha:=ha) (hs:=hs)
theorem pi_zipI{a b:Expr}{ta:TA}{p pos ppos:Pos}{elts:List Expr}{k0:Nat}(hg:Gl X "zip")(hm:X.mg "zip" = none)(ha:PAi X [a,b] ta)(he:starEach [a,b] X.env=(false,eval a X.env)::starEach [b] X.env:=by rfl)(hpl:(backTo pos (starEach [b] X.env)).any (·.1)=false:=by rfl):PIi X (.Tuple elts k0 ppos) (.Call (.Name "zip" p) [a,b] [] pos) (iZip X.K ta):=by with_unfolding_all exact pi_zip (hg:=hg) (hm:=hm) (ha:=ha) (he:=he) (hpl:=hpl)
theorem a3l   : POi X none b2l:=by with_unfolding_all exact po_none
theorem a1y(h:PEi X e te):POi X (some e) (tPart te):=by with_unfolding_all exact po_some (h:=h)
theorem a1b{P:Program}{w:World}{K:b5h}{mg:Str→Option Value}{base:Heap}{x:Str}{st:Stmt}{N ps:List Str}{k:Nat}{sp:Sp}(F:a0w K mg x st ps)(S:a0t N ps (a0g st))(len:∀ vs H Q E,sp vs H Q E→vs.length=ps.length)(hbody:∀ (f:Addr) (cdv:Value) (A:Around) (outer:List Env) (s:Shared) (H:Hp) (vs:List V) (Q:VK) (E:XK),Room k (A.deeper (envOfC x (a0g st) s.heap.objs.size f cdv))→sp vs H Q E→
 ∃ t,PSsi (cxOf CX0 P w K mg base N x (a0g st) f cdv A outer s H E).nox (a1p st) t∧t { nx:=fun _ H'=>Q .non H',rt:=Q } (a5x N vs) H):a0u P w K mg base CX0 (k+1) x ps sp:=by with_unfolding_all exact def_ok (F:=F) (S:=S) (len:=len) (hbody:=hbody)
end
end Cv
namespace Cv
open PySem PySem.Spec PyProof.Rows L2
theorem st4{l:L2.St}(h:l.length=4):∃ a b c d,l=[a,b,c,d]:=by
 match l,h with
 | [a,b,c,d],_=>exact⟨a,b,c,d,rfl⟩
end Cv
namespace Cv
open PySem PySem.Spec PyProof.Rows L2
theorem uln0{α:Type}{P:List α→Prop}(h:P []):∀ us:List α,us.length=0→P us
 | [],_=>h
theorem ulnS{α:Type}{n:Nat}{P:List α→Prop}(h:∀ a,∀ us:List α,us.length=n→P (a::us)):∀ us:List α,us.length=n+1→P us
 | [],e=>nomatch e
 | a::us,e=>h a us (Nat.succ.inj e)
@[elab_as_elim] theorem uln1{α:Type}{P:List α→Prop}(h:∀ a,P [a])(us:List α)(hl:us.length=1):P us:=(ulnS fun a=>uln0 (h a)) us hl
@[elab_as_elim] theorem uln2{α:Type}{P:List α→Prop}(h:∀ a b,P [a,b])(us:List α)(hl:us.length=2):P us:=(ulnS fun a=>ulnS fun b=>uln0 (h a b)) us hl
@[elab_as_elim] theorem uln3{α:Type}{P:List α→Prop}(h:∀ a b c,P [a,b,c])(us:List α)(hl:us.length=3):P us:=(ulnS fun a=>ulnS fun b=>ulnS fun c=>uln0 (h a b c)) us hl
end Cv
namespace Cv
open PySem PySem.Spec PyProof.Rows L2
section
variable {X:Cx}
theorem a6r(K:b5h)(hc:X.calm=true)(h:X.K=K:=by rfl):a2k X (.builtin "all") (fun xs H Q=>∃ (p:Addr) (bs:List Bool),xs=[.ref p]∧SqL K H p (bs.map V.bl)∧Q (.bl (bs.all id)) H):=by subst h;exact b4w hc
theorem a6g(K:b5h)(h:X.K=K:=by rfl):a2k X (.type "list") (fun xs H Q=>∃ p ys,xs=[.ref p]∧(SqL K H p ys∨SqT K H p ys)∧∀ l,H l=none→Q (.ref l) (upd H l (.lst ys))):=by subst h;exact a8y
end
end Cv
namespace Cv
open PySem PySem.Spec PyProof.Rows L2
def PtV(H:Hp)(v:V)(x y:Rat):Prop:=∃ a vx vy,v=.ref a∧H a=some (.tup [vx,vy])∧ShV H vx x∧ShV H vy y
theorem PtV.same{H H':Hp}{v:V}{x y:Rat}(h:PtV H v x y)(e:Same H H'):PtV H' v x y:=by
 obtain⟨a,vx,vy,rfl,h,h1,h2⟩:=h
 exact⟨a,vx,vy,rfl,e _ _ h,h1.same e,h2.same e⟩
end Cv
namespace Cv
open PySem PySem.Spec PyProof.Rows L2
def RwV(H:Hp)(v:V)(t b:Int):Prop:=∃ a,v=.ref a∧H a=some (.tup [.int t,.int b])
theorem RwV.same{H H':Hp}{v:V}{t b:Int}(h:RwV H v t b)(e:Same H H'):RwV H' v t b:=by
 obtain⟨a,rfl,h⟩:=h
 exact⟨a,rfl,e _ _ h⟩
end Cv
namespace Cv
open PySem PySem.Spec PyProof.Rows L2
theorem a1x{H:Hp}{p b:Addr}{o x:HO}(h:H p=none)(e:H b=some x):upd H p o b=some x:=by rw[a0n (a0p e h)];exact e
theorem Bd.zero':Bd 1 (0:Rat):=⟨⟨by decide⟩,⟨by decide⟩⟩
theorem Bd.one':Bd 1 (1:Rat):=⟨⟨by decide⟩,⟨by decide⟩⟩
theorem PtV.tup{H H':Hp}{v:V}{x y:Rat}(h:PtV H v x y)(e:Tup H H'):PtV H' v x y:=by
 obtain⟨a,vx,vy,rfl,h,h1,h2⟩:=h
 exact⟨a,vx,vy,rfl,e _ _ h,h1.tup e,h2.tup e⟩
theorem RwV.tup{H H':Hp}{v:V}{x y:Int}(h:RwV H v x y)(e:Tup H H'):RwV H' v x y:=by
 obtain⟨a,rfl,h⟩:=h
 exact⟨a,rfl,e _ _ h⟩
theorem SqL.same'{K:b5h}{H H':Hp}{a:Addr}{xs:List V}(h:SqL K H a xs)(e:Same H H'):SqL K H' a xs:=e.seq h
end Cv
namespace Cv
open PySem PySem.Spec PyProof.Rows L2
def RwQ(H:Hp)(v:V)(r:Rat)(n:Nat):Prop:=∃ t b:Int,RwV H v t b∧0<b∧(t:Rat)=r*(b:Rat)∧Sz n t∧Sz n b
theorem RwQ.same{H H':Hp}{v:V}{r:Rat}{n:Nat}(h:RwQ H v r n)(e:Same H H'):RwQ H' v r n:=by
 obtain⟨t,b,h1,h2⟩:=h
 exact⟨t,b,h1.same e,h2⟩
theorem cast_ne{b:Int}(h:0<b):(b:Rat)≠0:=by
 intro z
 have:b=0:=by exact_mod_cast z
 omega
theorem mulN{n m:Nat}{i j:Int}(h1:Sz n i)(h2:Sz m j)(h:n+m≤100000000):b5g i j:=mulB h1 h2 h
end Cv
namespace Cv
abbrev Pt:=Rat×Rat
def Ov(D:Int)(n:Nat)(x:Rat):Prop:=∃ m:Int,x*(D:Rat)=(m:Rat)∧Sz n m
theorem Ov.bd{D:Int}{n d:Nat}{x:Rat}(h:Ov D n x)(hD:D≠0)(hd:Sz d D):Bd (max n d) x:=by
 obtain⟨m,e,z⟩:=h
 rw[a8q hD e]
 exact Bd.of z hd hD
def OvP(D:Int)(n:Nat)(p:Pt):Prop:=Ov D n p.1∧Ov D n p.2
end Cv
namespace Cv
open PySem PySem.Spec PyProof.Rows L2
structure PtsV(H:Hp)(vs:List V)(ps:List Pt):Prop where
 len:vs.length=ps.length
 get:∀ (i:Nat) v p,vs[i]?=some v→ps[i]?=some p→PtV H v p.1 p.2
theorem PtsV.tup{H H':Hp}{vs:List V}{ps:List Pt}(h:PtsV H vs ps)(t:Tup H H'):PtsV H' vs ps:=⟨h.len,fun i v p e1 e2=>(h.get i v p e1 e2).tup t⟩
theorem PtsV.same{H H':Hp}{vs:List V}{ps:List Pt}(h:PtsV H vs ps)(t:Same H H'):PtsV H' vs ps:=h.tup t.tup
theorem PtsV.snoc{H:Hp}{vs:List V}{ps:List Pt}{v:V}{p:Pt}(h:PtsV H vs ps)(hv:PtV H v p.1 p.2):PtsV H (vs++[v]) (ps++[p]):=by
 refine⟨by simp[h.len],fun i w q e1 e2=>?_⟩
 by_cases hi:i<vs.length
 · rw[b5w hi] at e1
   rw[b5w (by rw[← h.len];exact hi)] at e2
   exact h.get i w q e1 e2
 · rw[b5y (by omega)] at e1
   rw[b5y (by rw[← h.len];omega),← h.len] at e2
   cases hk:i - vs.length with
   | zero=>
     rw[hk] at e1 e2
     simp at e1 e2
     subst e1 e2
     exact hv
   | succ k=>rw[hk] at e1;simp at e1
def a9y(p:Pt):b7e:=.tuple [b1v p.1,b1v p.2]
def a5u(ps:List Pt):b7e:=.list (ps.map a9y)
theorem datPt_ok(p:Pt)(n:Nat):b5q (n+2) (a9y p)=true:=by
 have h1:=b0z p.1 n
 have h2:=b0z p.2 n
 simp[a9y,b5q,h1,h2]
theorem a8t(ps:List Pt)(n:Nat):b5q (n+3) (a5u ps)=true:=by
 have h:∀ p:Pt,b5q (n+2) (a9y p)=true:=fun p=>datPt_ok p n
 simp[a5u,b5q,h]
theorem PtV.dn{K:b5h}{H:Hp}{v:V}{p:Pt}(h:PtV H v p.1 p.2):Dn K H (a9y p) v:=by
 obtain⟨a,vx,vy,rfl,h,h1,h2⟩:=h
 unfold a9y
 simp only[Dn,a3q]
 exact⟨a,_,rfl,SqT.of h,_,_,rfl,h1.dn,_,_,rfl,h2.dn,rfl⟩
theorem a8s{K:b5h}{H:Hp}:∀ {ps:List Pt} {vs:List V},PtsV H vs ps→a3q K H (ps.map a9y) vs
 | [],vs,h=>by
   have:vs=[]:=List.length_eq_zero_iff.mp h.len
   subst this
   simp[a3q]
 | p::ps,vs,h=>by
   cases vs with
   | nil=>have:=h.len;simp at this
   | cons v vs=>
     simp only[b7m,a3q]
     exact⟨v,vs,rfl,(h.get 0 v p rfl rfl).dn,a8s ⟨by have:=h.len;simpa using this,fun i w q e1 e2=>h.get (i+1) w q (by simpa using e1) (by simpa using e2)⟩⟩
theorem PtsV.dn{K:b5h}{H:Hp}{a:Addr}{vs:List V}{ps:List Pt}(h:PtsV H vs ps)(hs:SqL K H a vs):Dn K H (a5u ps) (.ref a):=by
 unfold a5u
 simp only[Dn]
 exact⟨a,vs,rfl,hs,a8s h⟩
theorem a9e{α:Type}(xs:List α)(v:α)(h:xs[xs.length - 1]?=some v)(hl:1≤xs.length):atI xs (-1)=some v:=by
 rcases List.eq_nil_or_concat xs with rfl | ⟨ys,y,rfl⟩
 · simp at hl
 · have:(ys++[y])[ys.length]?=some v:=by simpa using h
   have e:y=v:=by simpa using this
   subst e
   have:=atI_last ys y
   simpa using this
theorem a4e{α:Type}{xs:List α}{j:Nat}{i:Int}{v:α}(e:i=(j:Int))(h:xs[j]?=some v):atI xs i=some v:=by subst e;exact b4y h
end Cv
namespace Cv
open PySem PySem.Spec PyProof.Rows L2
theorem cut_from{α:Type}(f:α→V)(xs:List α)(k:Nat)(h:k≤xs.length):cutV (xs.map f) (some (k:Int)) none=(xs.drop k).map f:=by
 unfold cutV
 have e:HT.sIx (xs.map f).length 0 (some (k:Int))=k:=by
   have:=HT.a9k (xs.map f).length 0 k
   rw[b5j] at this
   rw[b5j]
   exact this.trans (by omega)
 rw[e,HT.a5a,← List.map_drop]
 refine List.take_of_length_le ?_
 rw[b5j,b7z,b5j]
 omega
theorem a8v{α:Type}(f:α→V)(xs:List α)(k:Int)(n:Nat)(e:k=(n:Int))(h:n≤xs.length):cutV (xs.map f) (some k) none=(xs.drop n).map f:=by subst e;exact cut_from f xs n h
theorem low_gcd{t b x:Int}(hx:0≤x)(e:b5x x 0=b5x t b):x=(b5x t b:Int):=by
 rw[Int.gcd_zero] at e
 omega
theorem a3z{B m:Int}{n:Nat}(hB:B≠0)(h:Sz n m):Ov B n (b5l m B):=by
 refine⟨m,?_,h⟩
 rw[b7i]
 have hb':(B:Rat)≠0:=by
   intro z
   exact hB (by exact_mod_cast z)
 grind
theorem getD_bnd{T:List Int}{lo hi:Int}(h:∀ x∈T,lo≤x∧x≤hi){j:Nat}(hj:j<T.length):lo≤T.getD j 0∧T.getD j 0≤hi:=by
 rw[b5z,b5i hj]
 exact h _ (b6z hj)
theorem tab(T:List Int)(lo hi i:Int)(h:∀ x∈T,lo≤x∧x≤hi)(h0:0≤i)(h1:i<(T.length:Int)):∃ v:Int,atI (T.map V.int) i=some (.int v)∧lo≤v∧v≤hi:=
 ⟨_,a5w T i h0 h1,getD_bnd h (by omega)⟩
theorem p29:(10:Int)^(29:Int).toNat=100000000000000000000000000000:=by decide
theorem p9:(10:Int)^(9:Int).toNat=1000000000:=by decide
end Cv
namespace Cv
open PySem PySem.Spec PyProof.Rows L2
structure Mp where
 a:Rat
 b:Rat
 c:Rat
 d:Rat
 e:Rat
 f:Rat
def MpV(H:Hp)(v:V)(m:Mp):Prop:=∃ x v0 v1 v2 v3 v4 v5,v=.ref x∧H x=some (.tup [v0,v1,v2,v3,v4,v5])∧ShV H v0 m.a∧ShV H v1 m.b∧ShV H v2 m.c∧ShV H v3 m.d∧ShV H v4 m.e∧ShV H v5 m.f
theorem MpV.tup{H H':Hp}{v:V}{m:Mp}(h:MpV H v m)(t:Tup H H'):MpV H' v m:=by
 obtain⟨x,v0,v1,v2,v3,v4,v5,rfl,h,h0,h1,h2,h3,h4,h5⟩:=h
 exact⟨x,v0,v1,v2,v3,v4,v5,rfl,t _ _ h,h0.tup t,h1.tup t,h2.tup t,h3.tup t,h4.tup t,h5.tup t⟩
theorem MpV.same{H H':Hp}{v:V}{m:Mp}(h:MpV H v m)(t:Same H H'):MpV H' v m:=h.tup t.tup
theorem dnP{K:b5h}{H:Hp}{a:Addr}{vs:List V}{ps:List Pt}(hs:H a=some (.lst vs))(h:PtsV H vs ps):Dn K H (a5u ps) (.ref a):=h.dn (SqL.of hs)
end Cv
namespace Cv
def a1r:List Int→Int
 | []=>1
 | b::r=>b*a1r r
theorem a8j(xs ys:List Int):a1r (xs++ys)=a1r xs*a1r ys:=by
 induction xs with
 | nil=>simp[a1r]
 | cons x r ih=>simp only[List.cons_append,a1r,ih,Int.mul_assoc]
theorem a6l(xs:List Int)(y:Int):a1r (xs++[y])=a1r xs*y:=by rw[a8j];simp[a1r]
theorem a5k{xs:List Int}(h:∀ x∈xs,0<x):0<a1r xs:=by
 induction xs with
 | nil=>decide
 | cons x r ih=>exact Int.mul_pos (h x (.head _)) (ih fun y hy=>h y (.tail _ hy))
def axR(tops bs:List Int):List Rat:=tops.map fun x=>b5l x (a1r bs)
theorem b4c{y x u:Int}(hc:b5x y x=1)(h:y∣x*u):y∣u:=by
 have h2:y.natAbs∣x.natAbs*u.natAbs:=by rw[← Int.natAbs_mul];exact Int.natAbs_dvd_natAbs.mpr h
 exact Int.natAbs_dvd_natAbs.mp (Nat.Coprime.dvd_of_dvd_mul_left hc h2)
theorem b4h(a b:Int)(hb:0<b):∃ g x y:Int,(b5x a b:Int)=g∧0<g∧a=g*x∧b=g*y∧b5x x y=1∧0<y∧a.fdiv g=x∧b.fdiv g=y:=by
 have g0:0<(b5x a b:Int):=by
   have:=Int.gcd_pos_of_ne_zero_right a (show b≠0 by omega)
   omega
 obtain⟨x,hx⟩ : (b5x a b:Int)∣a:=Int.gcd_dvd_left ..
 obtain⟨y,hy⟩ : (b5x a b:Int)∣b:=Int.gcd_dvd_right ..
 have hc:b5x x y=1:=by
   have h1:b5x a b=b5x ((b5x a b:Int)*x) ((b5x a b:Int)*y):=by rw[← hx,← hy]
   rw[Int.gcd_mul_left,Int.natAbs_natCast] at h1
   have h2:0<b5x a b:=by omega
   have h3:b5x a b*1=b5x a b*b5x x y:=by rw[Nat.mul_one];exact h1
   exact (Nat.eq_of_mul_eq_mul_left h2 h3).symm
 generalize (b5x a b:Int)=g at g0 hx hy
 have hyp:0<y:=by
   rw[hy] at hb
   rcases Int.lt_trichotomy y 0 with h | h | h
   · have:=Int.mul_neg_of_pos_of_neg g0 h;omega
   · rw[h,Int.mul_zero] at hb;omega
   · exact h
 refine⟨g,x,y,rfl,g0,hx,hy,hc,hyp,?_,?_⟩
 · rw[b6g _ (Int.le_of_lt g0),hx]
   exact b7v _ (by omega)
 · rw[b6g _ (Int.le_of_lt g0),hy]
   exact b7v _ (by omega)
theorem a7k{q:Rat}{D:Int}{n:Nat}(h:Ov D n q):(q.den:Int)∣D:=by
 obtain⟨m,e,_⟩:=h
 have h1:=b0t q
 have hd:=a9x q
 have e2:(q.num:Rat)*(D:Rat)=(m:Rat)*((q.den:Int):Rat):=by rw[h1,← e];grind
 have e3:q.num*D=m*q.den:=by exact_mod_cast e2
 have hr:b5x q.den q.num=1:=by rw[Int.gcd_comm];exact q.reduced
 exact b4c hr ⟨m,by rw[e3];exact Int.mul_comm ..⟩
theorem lcm_step{W d D:Int}(hd:0<d)(h1:W∣D)(h2:d∣D):d∣W*d.fdiv (b5x W d)∧W*d.fdiv (b5x W d)∣D∧0<d.fdiv (b5x W d)∧0<(b5x W d:Int)∧(b5x W d:Int)∣d:=by
 obtain⟨g,x,y,eg,g0,hx,hy,hc,hyp,ex,ey⟩:=b4h W d hd
 rw[eg,ey]
 refine⟨⟨x,by rw[hx,hy];grind⟩,?_,hyp,g0,⟨y,hy⟩⟩
 obtain⟨u,hu⟩:=h1
 obtain⟨v,hv⟩:=h2
 have e:x*u=y*v:=by
   have:g*(x*u)=g*(y*v):=by rw[← Int.mul_assoc,← Int.mul_assoc,← hx,← hy,← hu,hv]
   exact Int.eq_of_mul_eq_mul_left (by omega) this
 obtain⟨w,hw⟩:=b4c (y:=y) (x:=x) (u:=u) (by rw[Int.gcd_comm];exact hc) ⟨v,e⟩
 exact⟨w,by rw[hu,hw];grind⟩
theorem a6h{n:Nat}{x D:Int}(hD:D≠0)(h:x∣D)(z:Sz n D):Sz n x:=z.le (Nat.le_of_dvd (by omega) (Int.natAbs_dvd_natAbs.mpr h))
end Cv
namespace Cv
open PySem PySem.Spec PyProof.Rows L2
structure ShL(H:Hp)(vs:List V)(qs:List Rat):Prop where
 len:vs.length=qs.length
 get:∀ (i:Nat) v q,vs[i]?=some v→qs[i]?=some q→ShV H v q
theorem ShL.tup{H H':Hp}{vs:List V}{qs:List Rat}(h:ShL H vs qs)(t:Tup H H'):ShL H' vs qs:=⟨h.len,fun i v q e1 e2=>(h.get i v q e1 e2).tup t⟩
theorem ShL.same{H H':Hp}{vs:List V}{qs:List Rat}(h:ShL H vs qs)(t:Same H H'):ShL H' vs qs:=h.tup t.tup
theorem ShL.atV{H:Hp}{vs:List V}{qs:List Rat}(h:ShL H vs qs){i:Nat}{v:V}(hv:vs[i]?=some v):∃ q,qs[i]?=some q∧ShV H v q:=by
 have hi:i<vs.length:=(b5t.mp hv).1
 have e:qs[i]?=some (qs[i]'(by rw[← h.len];exact hi)):=b5i _
 exact⟨_,e,h.get i v _ hv e⟩
theorem PtsV.atV{H:Hp}{vs:List V}{ps:List Pt}(h:PtsV H vs ps){i:Nat}{v:V}(hv:vs[i]?=some v):∃ p,ps[i]?=some p∧PtV H v p.1 p.2:=by
 have hi:i<vs.length:=(b5t.mp hv).1
 have e:ps[i]?=some (ps[i]'(by rw[← h.len];exact hi)):=b5i _
 exact⟨_,e,h.get i v _ hv e⟩
def AxV(H:Hp)(v:V)(n:Nat)(tops bs:List Int):Prop:=∃ a lt lb,v=.ref a∧H a=some (.tup [.ref lt,.ref lb])∧H lt=some (.lst (tops.map V.int))∧H lb=some (.lst (bs.map V.int))∧(∀ x∈tops,Sz n x)∧(∀ b∈bs,0<b∧Sz 9000 b)∧bs.length≤100∧tops.length≤1000
theorem AxV.same{H H':Hp}{v:V}{n:Nat}{tops bs:List Int}(h:AxV H v n tops bs)(s:Same H H'):AxV H' v n tops bs:=by
 obtain⟨a,lt,lb,e,h1,h2,h3,h4⟩:=h
 exact⟨a,lt,lb,e,s _ _ h1,s _ _ h2,s _ _ h3,h4⟩
def b0m(K:b5h):Sp:=fun vs H Q _=>∃ (a:Addr) (ws:List V) (qs:List Rat) (D:Int),vs=[.ref a]∧SqL K H a ws∧ShL H ws qs∧0<D∧Sz 9000 D∧(∀ q∈qs,(q.den:Int)∣D)∧qs.length≤40∧
 ∀ (l:Addr) (bs:List Int) (H':Hp),Same H H'→H' l=some (.lst (bs.map V.int))→(∀ b∈bs,0<b∧Sz 9000 b)→(∀ q∈qs,(q.den:Int)∣a1r bs)→a1r bs∣D→bs.length≤qs.length→Q (.ref l) H'
def a7y(K:b5h):Sp:=fun vs H Q _=>∃ (a:Addr) (bs:List Int),vs=[.ref a]∧SqL K H a (bs.map V.int)∧(∀ b∈bs,0<b∧Sz 9000 b)∧bs.length≤100∧Q (.int (a1r bs)) H
def spAxis(K:b5h):Sp:=fun vs H Q _=>∃ (a:Addr) (ws:List V) (qs:List Rat) (D:Int) (m:Nat),vs=[.ref a]∧SqL K H a ws∧ShL H ws qs∧0<D∧Sz 9000 D∧(∀ q∈qs,(q.den:Int)∣D∧Bd m q)∧m≤9000∧qs.length≤40∧
 ∀ v tops bs H',Same H H'→AxV H' v (m+9000) tops bs→axR tops bs=qs→bs.length≤qs.length→Q v H'
def spAxes(K:b5h):Sp:=fun vs H Q _=>∃ (a:Addr) (ws:List V) (ps:List Pt) (D:Int) (m:Nat),vs=[.ref a]∧SqL K H a ws∧PtsV H ws ps∧0<D∧Sz 9000 D∧(∀ p∈ps,((p.1.den:Int)∣D∧Bd m p.1)∧(p.2.den:Int)∣D∧Bd m p.2)∧m≤9000∧ps.length≤40∧
 ∀ c x y t1 b1 t2 b2 H',Same H H'→H' c=some (.tup [x,y])→AxV H' x (m+9000) t1 b1→AxV H' y (m+9000) t2 b2→axR t1 b1=ps.map (·.1)→axR t2 b2=ps.map (·.2)→b1.length≤ps.length→b2.length≤ps.length→Q (.ref c) H'
theorem prod_sz{bs:List Int}(h:∀ b∈bs,0<b∧Sz 9000 b):Sz (9000*bs.length+1) (a1r bs):=by
 induction bs with
 | nil=>exact⟨by decide⟩
 | cons b r ih=>
   show Sz _ (b*a1r r)
   exact ((h b (.head _)).2.mul (ih fun c hc=>h c (.tail _ hc))).mono (by rw[b6c];omega)
theorem top_of{q:Rat}{W:Int}(hW:0<W)(h:(q.den:Int)∣W):b5l (q.num*W.fdiv q.den) W=q:=by
 have hd:0<(q.den:Int):=by have:=q.den_pos;omega
 obtain⟨w,hw⟩:=h
 have e:W.fdiv q.den=w:=by
   rw[b6g _ (Int.le_of_lt hd)]
   conv=>lhs;rw[hw]
   exact b7v _ (by omega)
 rw[e]
 symm
 refine a8q (by omega) ?_
 have h1:=b0t q
 rw[hw]
 simp only[Rat.intCast_mul]
 rw[h1];grind
theorem b2y{n:Nat}{W d:Int}(hW:0<W)(hd:0<d)(h:d∣W)(z:Sz n W):Sz n (W.fdiv d):=by
 obtain⟨w,hw⟩:=h
 have e:W.fdiv d=w:=by
   rw[b6g _ (Int.le_of_lt hd)]
   conv=>lhs;rw[hw]
   exact b7v _ (by omega)
 rw[e]
 exact a6h (by omega) ⟨d,by rw[hw];exact Int.mul_comm ..⟩ z
theorem ints_at{bs:List Int}{i:Nat}{x:V}(h:(bs.map V.int)[i]?=some x):∃ b,bs[i]?=some b∧x=.int b:=by
 rw[b5s] at h
 cases e:bs[i]? with
 | none=>rw[e] at h;cases h
 | some b=>rw[e] at h;cases h;exact⟨b,rfl,rfl⟩
theorem b2j{α:Type}{bs:List α}{i:Nat}{b:α}(h:bs[i]?=some b):bs.take (i+1)=bs.take i++[b]:=by rw[List.take_succ,h];rfl
theorem ints_of{α:Type}{ys:List V}{qs:List α}{f:α→Int}(hl:ys.length=qs.length)(h:∀ (i:Nat) v,ys[i]?=some v→∀ q,qs[i]?=some q→v=.int (f q)):ys=(qs.map f).map V.int:=by
 refine List.ext_getElem? fun i=>?_
 rw[b5s,b5s]
 cases e:ys[i]? with
 | none=>
   have:qs[i]?=none:=b6p (by have:=List.getElem?_eq_none_iff.mp e;omega)
   rw[this];rfl
 | some v=>
   have hi:i<qs.length:=by have:=(b5t.mp e).1;omega
   have e2:qs[i]?=some qs[i]:=b5i hi
   rw[h i v e _ e2,e2];rfl
theorem axR_tops{qs:List Rat}{bs:List Int}(hb:0<a1r bs)(h:∀ q∈qs,(q.den:Int)∣a1r bs):axR (qs.map fun q=>q.num*(a1r bs).fdiv q.den) bs=qs:=by
 unfold axR
 rw[List.map_map]
 conv=>rhs;rw[← List.map_id qs]
 refine List.map_congr_left fun q hq=>?_
 exact top_of hb (h q hq)
theorem ShL.map{H:Hp}{ys:List V}{ps:List Pt}{f:Pt→Rat}(hl:ys.length=ps.length)(h:∀ (i:Nat) v,ys[i]?=some v→∀ p,ps[i]?=some p→ShV H v (f p)):ShL H ys (ps.map f):=by
 refine⟨by rw[hl,b5j],fun i v q e1 e2=>?_⟩
 rw[b5s] at e2
 cases e3:ps[i]? with
 | none=>rw[e3] at e2;cases e2
 | some p=>rw[e3] at e2;cases e2;exact h i v e1 p e3
theorem int_at{t:List Int}{i:Nat}{x:Int}(h:t[i]?=some x):((t.map V.int)[i]?).getD V.non=.int x:=by rw[b5s,h];rfl
end Cv
namespace Cv
open PySem PySem.Spec PyProof.Rows L2
def sm(f:Nat→Rat):Nat→Rat
 | 0=>0
 | n+1=>sm f n+f n
end Cv
namespace Cv
open PySem PySem.Spec PyProof.Rows L2
section
variable {X:Cx}
theorem b4p(hc:X.calm=true):a2k X (.builtin "sum") (fun xs H Q=>∃ (p:Addr) (ns:List Int),xs=[.ref p]∧SqL X.K H p (ns.map V.int)∧Q (.int ns.sum) H):=by
 intro pins s σ H xs us Q I r h
 obtain⟨p,ns,rfl,hq,q⟩:=h
 obtain⟨u,rfl,ru⟩:=a2v r
 cases ru
 obtain⟨its,rv,pl,hz⟩:=I.list hq
 have hi:IntsAre its ns:=a4s rv
 obtain⟨ys,hx⟩:=hi.allInts.items
 have hl':s.heap.IsList p (intItems ys):=hx ▸ pl.isList
 refine sum_intListG (show X.A.handled=none from I.ok.hd hc) hl' fun h' tk t' hk=>?_
 have e1:ns=ys.toList.map (·.1):=by
   rw[← nums_intItems,← hx]
   exact (show numsOf its.toArray.toList=ns from hi.numsOf).symm
 have e2:preSum (numAt ys) ys.size=ns.sum:=by
   rw[preSum_eq,List.take_of_length_le (by simp),e1]
 rw[e2]
 exact⟨.int _,H,I.kept (h':=h') (t':=tk) hk,⟨_,rfl⟩,q⟩
end
end Cv
namespace Cv
open PySem PySem.Spec PyProof.Rows L2
def TK(K:b5h)(H:Hp)(a:Addr)(xs:List V):Prop:=H a=some (.tup xs)∨∃ (o:Obj) (its:Array Value) (n:Nat),K.lookup a=some o∧o.cls=.type "tuple" ∧ o.data=.seq its n∧its.size≤sizeLine∧Vals xs its.toList
theorem TK.of{K:b5h}{H:Hp}{a:Addr}{xs:List V}(h:H a=some (.tup xs)):TK K H a xs:=.inl h
theorem TK.sq{K:b5h}{H:Hp}{a:Addr}{xs:List V}(h:TK K H a xs):SqT K H a xs:=by
 rcases h with h | h
 · exact SqT.of h
 · exact .inr h
theorem TK.tup{K:b5h}{H H':Hp}{a:Addr}{xs:List V}(h:TK K H a xs)(t:Tup H H'):TK K H' a xs:=by
 rcases h with h | h
 · exact .inl (t _ _ h)
 · exact .inr h
structure ShK(K:b5h)(H:Hp)(v:V)(q:Rat):Prop where
 ex:∃ a,v=.ref a∧TK K H a [.int q.num,.int (q.den:Int)]
structure PtK(K:b5h)(H:Hp)(v:V)(x y:Rat):Prop where
 ex:∃ a vx vy,v=.ref a∧TK K H a [vx,vy]∧ShK K H vx x∧ShK K H vy y
structure PtsK(K:b5h)(H:Hp)(vs:List V)(ps:List Pt):Prop where
 len:vs.length=ps.length
 get:∀ (i:Nat) v p,vs[i]?=some v→ps[i]?=some p→PtK K H v p.1 p.2
section
variable {K:b5h} {H H':Hp} {v:V} {q x y:Rat} {vs:List V} {ps:List Pt}
theorem ShK.tup(h:ShK K H v q)(t:Tup H H'):ShK K H' v q:=by obtain⟨a,rfl,h⟩:=h;exact⟨a,rfl,h.tup t⟩
theorem ShK.same(h:ShK K H v q)(t:Same H H'):ShK K H' v q:=h.tup t.tup
theorem ShV.k(h:ShV H v q):ShK K H v q:=by obtain⟨a,rfl,h⟩:=h;exact⟨a,rfl,.inl h⟩
theorem PtK.tup(h:PtK K H v x y)(t:Tup H H'):PtK K H' v x y:=by obtain⟨a,vx,vy,rfl,h,h1,h2⟩:=h;exact⟨a,vx,vy,rfl,h.tup t,h1.tup t,h2.tup t⟩
theorem PtK.same(h:PtK K H v x y)(t:Same H H'):PtK K H' v x y:=h.tup t.tup
theorem PtV.k(h:PtV H v x y):PtK K H v x y:=by obtain⟨a,vx,vy,rfl,h,h1,h2⟩:=h;exact⟨a,vx,vy,rfl,.inl h,h1.k,h2.k⟩
theorem PtsK.tup(h:PtsK K H vs ps)(t:Tup H H'):PtsK K H' vs ps:=⟨h.len,fun i v p e1 e2=>(h.get i v p e1 e2).tup t⟩
theorem PtsK.same(h:PtsK K H vs ps)(t:Same H H'):PtsK K H' vs ps:=h.tup t.tup
theorem PtsV.k(h:PtsV H vs ps):PtsK K H vs ps:=⟨h.len,fun i v p e1 e2=>(h.get i v p e1 e2).k⟩
end
end Cv
namespace Cv
open PySem PySem.Spec PyProof.Rows L2
section
variable {prog:Program} {w:World} {A:Around} {E:Value→Shared→Prop}
theorem a8r{it t:Addr}{itz:Array Value}(hne:t≠it):∀ (n i:Nat) (s:Shared) (Q:List Value→Shared→Prop),s.heap.IsListIter it t i→s.heap.IsList t itz→i+n≤itz.size→
   (∀ h',h'.IsListIter it t (i+n)→Heap.SameBut it s.heap h'→Q ((itz.toList.drop i).take n) { s with heap:=h' })→wpAny (model prog w) A (draw (.ref it) n) Q E s
 | 0,i,s,Q,hit,_,_,hQ=>by
   show wpAny _ _ (pure []) Q E s
   exact wpAny_pure (by simpa using hQ s.heap hit (Heap.SameBut.refl ..))
 | n+1,i,s,Q,hit,ht,hle,hQ=>by
   have hl9:i<itz.size:=by omega
   show wpAny _ _ (pyNext (.ref it) >>= _) Q E s
   refine wpAny_bind (wpAny_pyNext_list_item hit ht (x:=itz[i]) (by simp[hl9]) fun hA hiA hsA=>?_)
   refine wpAny_bind (wpAny_holding (a8r hne n (i+1) _ _ hiA (ht.extBut hsA.extBut hne) (by omega) fun hB hiB hsB=>wpAny_pure ?_))
   have hd:itz.toList.drop i=itz[i]::itz.toList.drop (i+1):=by simp[List.drop_eq_getElem_cons,hl9]
   have:=hQ hB (by rw[show i+(n+1)=i+1+n by omega];exact hiB) (hsA.trans hsB)
   rw[hd,List.take_succ_cons] at this
   exact this
variable {s:Shared}
theorem a4y{t:Addr}{itz:Array Value}{Q:List Value→Shared→Prop}(hh:A.handled=none)(ht:s.heap.IsList t itz)(hQ:∀ h',Heap.ExtBut s.heap.objs.size s.heap h'→Q itz.toList { s with heap:=h' }):wpAny (model prog w) A (unpackItems (.ref t) itz.size none) Q E s:=by
 have hl9:t≠s.heap.objs.size:=by obtain⟨o,ho,_⟩:=ht;exact b5k (Heap.lt_size ho)
 unfold unpackItems
 refine wpAny_bind ?_
 · unfold notIterableAtAll
   refine wpAny_bind (wpAny_specialOf ht.typeIs F.slot_list_iter.lookup ?_)
   refine wpAny_pure ?_
   simp only[if_false,b6s]
   refine wpAny_bind (wpAny_holding (wpAny_pyIter_list ht ?_))
   refine wpAny_bind (wpAny_holding (a8r hl9 itz.size 0 _ _ ⟨_,Heap.get?_push_size _ rfl,rfl,rfl⟩ (Heap.IsList.push ht _) (by omega) fun hA hiA hsA=>?_))
   have hal0:List.take itz.size (List.drop 0 itz.toList)=itz.toList:=by
     rw[List.drop_zero];exact List.take_of_length_le (by simp)
   rw[hal0]
   rw[if_neg (by simp)]
   have htA:hA.IsList t itz:=(Heap.IsList.push ht _).extBut hsA.extBut hl9
   refine wpAny_bind (wpAny_holding (wpAny_pyNext_list_end hh hiA htA (by simp) fun hB heB=>?_))
   simp only[if_false,b6s,Option.isSome_none]
   refine wpAny_pure (hQ hB fun b o hb e=>heB b o hb (hsA.extBut b o hb (Heap.get?_push_of_some _ e)))
theorem a4v{env:Env}{elts:List Expr}{x1}{pos:Pos}{t:Addr}{itz:Array Value}{Q:Unit→Shared→Prop}(hh:A.handled=none)(ht:s.heap.IsList t itz)(hn:(assignEach elts env).length=itz.size)(hstar:(assignEach elts env).findIdx? (·.1)=none)(h:∀ h',Heap.ExtBut s.heap.objs.size s.heap h'→wpAny (model prog w) A (assignInOrder ((assignEach elts env).map (·.2)) itz.toList) Q E { s with heap:=h' }) :
   wpAny (model prog w) A (assign (.Tuple elts x1 pos) env (.ref t)) Q E s:=by
 rw[arm_assign_Tuple]
 refine wpAny_bind (wpAny_standAt ?_)
 unfold unpack
 rw[hn,hstar]
 exact wpAny_bind (wpAny_holding (a4y hh ht h))
end
section
variable {X:Cx}
def gTupL(K:b5h)(n:Nat)(t:TGs):TG:=fun v σ H Q=>∃ a xs,v=.ref a∧SqL K H a xs∧xs.length=n∧t xs σ H Q
theorem pg_lstK(K:b5h){es:List Expr}{k:Nat}{t:TGs}{n:Nat}{pos:Pos}(hc:X.calm=true)(h:PGs X es t)(hK:X.K=K:=by rfl)(hn:(assignEach es X.env).length=n:=by rfl)(hst:(assignEach es X.env).findIdx? (·.1)=none:=by rfl):PG X (.Tuple es k pos) (gTupL K n t):=by
 subst hK
 intro pins s σ H v u Q I r hw
 obtain⟨a,xs,e1,hq,hl,hw⟩:=hw
 subst e1
 cases r
 obtain⟨its,rv,ht,hz⟩:=I.list hq
 refine a4v (I.ok.hd hc) ht.isList (by simp[hn,← hl,rv.length]) hst fun h' hx=>?_
 have I1:Inv X pins σ H { s with heap:=h' }:=I.kept (t':=s.toks) fun b o e=>hx b o (b5k (Heap.lt_size e)) e
 exact h pins _ σ H xs _ Q I1 (by simpa using rv) hw
theorem pg_lstKI(K:b5h){es:List Expr}{k:Nat}{t:TGs}{n:Nat}{pos:Pos}(hc:X.calm=true)(h:PGsi X es t)(hK:X.K=K:=by rfl)(hn:(assignEach es X.env).length=n:=by rfl)(hst:(assignEach es X.env).findIdx? (·.1)=none:=by rfl):PGi X (.Tuple es k pos) (gTupL K n t):=by with_unfolding_all exact pg_lstK (K:=K) (hc:=hc) (h:=h) (hK:=hK) (hn:=hn) (hst:=hst)
end
end Cv
namespace Cv
open PySem PySem.Spec PyProof.Rows L2
abbrev Pl:=Int×Int
structure PlsV(H:Hp)(vs:List V)(pl:List Pl):Prop where
 len:vs.length=pl.length
 get:∀ (i:Nat) v p,vs[i]?=some v→pl[i]?=some p→RwV H v p.1 p.2
section
variable {H H':Hp} {vs:List V} {pl:List Pl}
theorem PlsV.tup(h:PlsV H vs pl)(t:Tup H H'):PlsV H' vs pl:=⟨h.len,fun i v p e1 e2=>(h.get i v p e1 e2).tup t⟩
theorem PlsV.same(h:PlsV H vs pl)(t:Same H H'):PlsV H' vs pl:=h.tup t.tup
theorem PlsV.at(h:PlsV H vs pl){i:Nat}{p:Pl}(hp:pl[i]?=some p):∃ a,vs[i]?=some (.ref a)∧H a=some (.tup [.int p.1,.int p.2]):=by
 have hi:i<pl.length:=(b5t.mp hp).1
 have e:vs[i]?=some (vs[i]'(by rw[h.len];exact hi)):=b5i _
 obtain⟨a,e2,h2⟩:=h.get i _ p e hp
 exact⟨a,by rw[e,e2],h2⟩
theorem a5l{n:Nat}:∀ {ys:List V},(∀ (i:Nat) v,ys[i]?=some v→∃ x y:Int,RwV H v x y∧Sz n x∧Sz n y)→∃ pl:List Pl,PlsV H ys pl∧∀ p∈pl,Sz n p.1∧Sz n p.2
 | [],_=>⟨[],⟨rfl,fun i v p e=>by simp at e⟩,fun _ h=>nomatch h⟩
 | y::ys,h=>by
   obtain⟨a,b,hp,z1,z2⟩:=h 0 y rfl
   obtain⟨pl,hP,hO⟩:=a5l (ys:=ys) fun i v e=>h (i+1) v e
   refine⟨(a,b)::pl,⟨by rw[b6c,b6c,hP.len],fun i v q e1 e2=>?_⟩,fun q hq=>?_⟩
   · cases i with
     | zero=>cases e1;cases e2;exact hp
     | succ i=>exact hP.get i v q e1 e2
   · rcases b6a.mp hq with rfl | hq
     · exact⟨z1,z2⟩
     · exact hO q hq
end
theorem a8k{K:b5h}{a:Addr}{ws:List V}{pl:List Pl}{H1:Hp}(h:SqL K H1 a ws)(hP:PlsV H1 ws pl):b5e K (Itl K a) H1 pl.length (fun i=>.int ((pl[i]?).getD (0,0)).1) (fun i=>.int ((pl[i]?).getD (0,0)).2):=fun H2 s i=>by
 refine⟨fun hi=>?_,fun e=>⟨ws,s.seq h,by rw[hP.len];omega⟩⟩
 obtain⟨b,e1,hb⟩:=hP.at (b5i hi)
 refine⟨⟨ws,_,s.seq h,e1⟩,fun x H' y=>?_⟩
 obtain⟨rfl,y2⟩:=y
 have:=y2 ws (s.seq h)
 rw[e1] at this
 refine⟨L2.Same.refl _,b,(b6l.inj this).symm,SqT.of ?_⟩
 show H' b=some (.tup [.int ((pl[i]?).getD (0,0)).1,.int ((pl[i]?).getD (0,0)).2])
 rw[b5i hi]
 exact s _ _ hb
structure WayV(H:Hp)(v:V)(B kd:Int):Prop where
 ex:∃ (a s b:Addr) (sx sy bx by_:Int),v=.ref a∧H a=some (.tup [.int B,.int kd,.ref s,.ref b])∧H s=some (.tup [.int sx,.int sy])∧H b=some (.tup [.int bx,.int by_])∧1≤B∧B≤1000000007∧sx.natAbs≤20∧sy.natAbs≤20∧bx.natAbs≤3∧by_.natAbs≤3
theorem WayV.same{H H':Hp}{v:V}{B kd:Int}(h:WayV H v B kd)(t:Same H H'):WayV H' v B kd:=by
 obtain⟨a,s,b,sx,sy,bx,by_,rfl,h1,h2,h3,r⟩:=h
 exact⟨a,s,b,sx,sy,bx,by_,rfl,t _ _ h1,t _ _ h2,t _ _ h3,r⟩
def a3c:Sp:=fun vs H Q _=>∃ c:Int,∃ n:Nat,vs=[.int c,.int (n:Int)]∧n≤1000∧∀ (l:Addr) (xs:List Int) (H':Hp),Same H H'→H l=none→H' l=some (.lst (xs.map V.int))→xs.length=n→(∀ x∈xs,0≤x∧x≤2147483647)→Q (.ref l) H'
def spWay:Sp:=fun vs H Q _=>∃ c:Int,vs=[.int c]∧∀ v B kd H',Same H H'→WayV H' v B kd→Q v H'
def b2o:Sp:=fun vs H Q _=>∃ (c:Int) (w:V) (B kd:Int),vs=[.int c,w]∧WayV H w B kd∧∀ v x y H',Same H H'→RwV H' v x y→Sz 110 x→Sz 110 y→Q v H'
def a4i(B:Int)(pl:List Pl):List Pt:=pl.map fun p=>(b5l p.1 B,b5l p.2 B)
def b0k(K:b5h):Sp:=fun vs H Q _=>∃ (a:Addr) (ws:List V) (pl:List Pl) (B:Int),vs=[.ref a,.int B]∧SqL K H a ws∧PlsV H ws pl∧1≤B∧Sz 9000 B∧pl.length≤1000∧∀ (l:Addr) (us:List V) (H':Hp),Same H H'→H l=none→H' l=some (.lst us)→PtsV H' us (a4i B pl)→Q (.ref l) H'
theorem p25:(10:Int)^(25:Int).toNat=10000000000000000000000000:=by decide
theorem div_le{x y P:Int}(hP:0<P)(h:x≤y):b5l x P≤b5l y P:=by
 have hP':(0:Rat)<(P:Rat):=by exact_mod_cast hP
 have hn:(P:Rat)≠0:=cast_ne hP
 have e:∀ z:Int,b5l z P*(P:Rat)=(z:Rat):=fun z=>by rw[b7i];grind
 refine Rat.le_of_mul_le_mul_right ?_ hP'
 rw[e,e]
 exact_mod_cast h
def a7l(ms:List Int):b7e:=.list (ms.map .int)
theorem a6p(ms:List Int)(n:Nat):b5q (n+1) (a7l ms)=true:=by
 have h:∀ i:Int,b5q n (.int i)=true:=fun i=>by cases n<;>simp[b5q]
 simp[a7l,b5q,h]
theorem a6o{K:b5h}{H:Hp}:∀ ms:List Int,a3q K H (ms.map .int) (ms.map V.int)
 | []=>by simp[a3q]
 | m::ms=>by
   simp only[b7m,a3q]
   exact⟨_,_,rfl,rfl,a6o ms⟩
theorem dnInts{K:b5h}{H:Hp}{a:Addr}{ms:List Int}(h:SqL K H a (ms.map V.int)):Dn K H (a7l ms) (.ref a):=by
 unfold a7l
 simp only[Dn]
 exact⟨a,_,rfl,h,a6o ms⟩
theorem a7m(ns:List Int)(lo hi:Option Int):∃ ms:List Int,cutV (ns.map V.int) lo hi=ms.map V.int∧ms.length≤HT.sIx ns.length ns.length hi - HT.sIx ns.length 0 lo:=by
 refine⟨(ns.drop (HT.sIx ns.length 0 lo)).take (HT.sIx ns.length ns.length hi - HT.sIx ns.length 0 lo),?_,by rw[b7y];omega⟩
 unfold cutV
 rw[b5j,List.map_take,List.map_drop]
theorem a5b(n d:Nat)(k:Int)(h:0≤k):HT.sIx n d (some k)=min k.toNat n:=by
 have:=HT.a9k n d k.toNat
 rw[Int.toNat_of_nonneg h] at this
 exact this
theorem b3a(B:Int)(pl:List Pl):(a4i B pl).length=pl.length:=by unfold a4i;simp
theorem ptsOf_ov{B:Int}{pl:List Pl}{n:Nat}(hB:0<B)(h:∀ p∈pl,Sz n p.1∧Sz n p.2):∀ p∈a4i B pl,OvP B n p:=fun p hp=>by
 unfold a4i at hp
 obtain⟨q,hq,rfl⟩:=b8c.mp hp
 exact⟨a3z (by omega) (h q hq).1,a3z (by omega) (h q hq).2⟩
end Cv
namespace Cv
open PySem PySem.Spec PyProof.Rows L2
theorem a7o(elt t1 i1 t2 i2:Expr)(scope:Scope)(pos:Pos)(it acc:Value)(env:Env) :
 compTurn (.ListComp elt [⟨t1,i1,[],0⟩,⟨t2,i2,[],0⟩] scope pos) 0 it acc env=(standAt i1.pos >>= fun _=>pyNext it >>= fun r=>match r with
   | none=>pure (.done .next)
   | some v=>letOwnedTupleGo t1 it v >>= fun _=>assign t1 env v >>= fun _=>
     eval i2 env >>= fun x=>standAt i2.pos >>= fun _=>foldedSetIterable i2 env x >>= fun x=>holding [x] (pyIter x) >>= fun it2=>
       runOwn (.compStart (.ListComp elt [⟨t1,i1,[],0⟩,⟨t2,i2,[],0⟩] scope pos) 1 it2 acc env) env >>= fun _=>
       again (.compLoop (.ListComp elt [⟨t1,i1,[],0⟩,⟨t2,i2,[],0⟩] scope pos) 0 it acc env)):=by rfl
theorem a7n(elt t1 i1 t2 i2:Expr)(scope:Scope)(pos:Pos)(it acc:Value)(env:Env) :
 compTurn (.ListComp elt [⟨t1,i1,[],0⟩,⟨t2,i2,[],0⟩] scope pos) 1 it acc env=(standAt i2.pos >>= fun _=>pyNext it >>= fun r=>match r with
   | none=>pure (.done .next)
   | some v=>letOwnedTupleGo t2 it v >>= fun _=>assign t2 env v >>= fun _=>
     (eval elt env >>= fun x=>call (.builtin "list.append") [acc,x] >>= fun _=>pure ()) >>= fun _=>
       again (.compLoop (.ListComp elt [⟨t1,i1,[],0⟩,⟨t2,i2,[],0⟩] scope pos) 1 it acc env)):=by rfl
section
variable {prog:Program} {w:World} {A:Around} {R:Result→Shared→Prop} {s:Shared}
theorem a6e{elt t1 i1 t2 i2:Expr}{scope:Scope}{pos:Pos}{it acc:Value}{env:Env}(h0:codeAny (model prog w) A (.compLoop (.ListComp elt [⟨t1,i1,[],0⟩,⟨t2,i2,[],0⟩] scope pos) 1 it acc env) R s)(h:wpAny (model prog w) A (pyIter it) (fun it' s'=>codeAny (model prog w) A (.compLoop (.ListComp elt [⟨t1,i1,[],0⟩,⟨t2,i2,[],0⟩] scope pos) 1 it' acc env) R s')
     (notedBy (model prog w) A env fun x s'=>R (.error x) s') s) :
   codeAny (model prog w) A (.compStart (.ListComp elt [⟨t1,i1,[],0⟩,⟨t2,i2,[],0⟩] scope pos) 1 it acc env) R s:=by
 refine codeAny_of_tree ?_
 show wpAny _ _ ((compStart (.ListComp elt [⟨t1,i1,[],0⟩,⟨t2,i2,[],0⟩] scope pos) 1 it acc env).onRaise (fun x=>do noteFrame x env;standAt theWindowsPlace)) _ _ s
 refine wpAny_notedAt ?_
 unfold compStart
 show wpAny _ _ (ask >>= _) _ _ s
 refine wpAny_bind (wpAny_askSetting (wpAny_ite ?_))
 split
 · first
     | exact wpAny_bind (wpAny_pure (wpAny_pure (And.intro rfl h0)))
     | exact wpAny_pure (And.intro rfl h0)
 · first
     | exact wpAny_bind (wpAny_rule (wpAny_bind (wpAny_standAt (wpAny_bind (wpAny_mono h (fun it' s' h'=>wpAny_pure (And.intro rfl h')) fun _ _ x=>x)))))
     | (refine wpAny_bind (wpAny_rule ?_);show wpAny _ _ (standAt i2.pos >>= _) _ _ s;exact wpAny_bind (wpAny_standAt (wpAny_bind (wpAny_mono h (fun it' s' h'=>wpAny_pure (And.intro rfl h')) fun _ _ x=>x))))
theorem a7p{elt t1 i1 t2 i2:Expr}{scope:Scope}{pos:Pos}{it acc:Value}{env:Env}(I:Nat→Shared→Prop)(turn:∀ n s,I n s→wpAny (model prog w) A (pyNext it) (fun r s₁=>match r with
     | none=>R (.ok .next) s₁
     | some v=>wpAny (model prog w) A (letOwnedTupleGo t2 it v) (fun _ s₁'=>wpAny (model prog w) A (assign t2 env v) (fun _ s₂=>wpAny (model prog w) A (eval elt env) (fun x s₃=>
         wpAny (model prog w) A (call (.builtin "list.append") [acc,x]) (fun _ s₄=>∃ m,m<n∧I m s₄) (notedBy (model prog w) A env fun e s'=>R (.error e) s') s₃)
         (notedBy (model prog w) A env fun e s'=>R (.error e) s') s₂) (notedBy (model prog w) A env fun e s'=>R (.error e) s') s₁') (notedBy (model prog w) A env fun e s'=>R (.error e) s') s₁) (notedBy (model prog w) A env fun e s'=>R (.error e) s') s)(n:Nat)(h:I n s) :
   codeAny (model prog w) A (.compLoop (.ListComp elt [⟨t1,i1,[],0⟩,⟨t2,i2,[],0⟩] scope pos) 1 it acc env) R s:=by
 refine codeAny_loop rfl I (fun n s hI=>?_) n h
 show wpAny _ _ ((compTurn (.ListComp elt [⟨t1,i1,[],0⟩,⟨t2,i2,[],0⟩] scope pos) 1 it acc env).onRaise (fun x=>do noteFrame x env;theTreesLotGoes x)) _ _ s
 refine wpAny_noted ?_
 rw[a7n]
 refine wpAny_bind (wpAny_standAt (wpAny_bind (wpAny_mono (turn n s hI) (fun r s₁ h₁=>?_) fun _ _ h'=>h')))
 cases r with
 | none=>exact wpAny_pure h₁
 | some v=>
   refine wpAny_bind (wpAny_mono h₁ (fun _ s₁' h₁'=>?_) fun _ _ h'=>h')
   exact wpAny_bind (wpAny_mono h₁' (fun _ s₂ h₂=>wpAny_bind (wpAny_bind (wpAny_mono h₂ (fun x s₃ h₃=>wpAny_bind (wpAny_mono h₃
     (fun _ s₄ h₄=>wpAny_pure (wpAny_pure ⟨rfl,h₄⟩)) fun _ _ h'=>h')) fun _ _ h'=>h'))) fun _ _ h'=>h')
theorem a7q{elt t1 i1 t2 i2:Expr}{scope:Scope}{pos:Pos}{it acc:Value}{env:Env}(I:Nat→Shared→Prop)(hfs:∀ v,foldedSetIterable i2 env v=pure v)(turn:∀ n s,I n s→wpAny (model prog w) A (pyNext it) (fun r s₁=>match r with
     | none=>R (.ok .next) s₁
     | some v=>wpAny (model prog w) A (letOwnedTupleGo t1 it v) (fun _ s₁'=>wpAny (model prog w) A (assign t1 env v) (fun _ s₂=>wpAny (model prog w) A (eval i2 env) (fun x s₃=>
         wpAny (model prog w) A (pyIter x) (fun it2 s₄=>codeAny (model prog w) A (.compStart (.ListComp elt [⟨t1,i1,[],0⟩,⟨t2,i2,[],0⟩] scope pos) 1 it2 acc env) (fun r s'=>match r with | .ok _=>∃ m,m<n∧I m s' | .error e=>cameBackBy (model prog w) A env (notedBy (model prog w) A env fun e s'=>R (.error e) s') e s') s₄) (notedBy (model prog w) A env fun e s'=>R (.error e) s') s₃)
         (notedBy (model prog w) A env fun e s'=>R (.error e) s') s₂) (notedBy (model prog w) A env fun e s'=>R (.error e) s') s₁') (notedBy (model prog w) A env fun e s'=>R (.error e) s') s₁) (notedBy (model prog w) A env fun e s'=>R (.error e) s') s)(n:Nat)(h:I n s) :
   codeAny (model prog w) A (.compLoop (.ListComp elt [⟨t1,i1,[],0⟩,⟨t2,i2,[],0⟩] scope pos) 0 it acc env) R s:=by
 refine codeAny_loop rfl I (fun n s hI=>?_) n h
 show wpAny _ _ ((compTurn (.ListComp elt [⟨t1,i1,[],0⟩,⟨t2,i2,[],0⟩] scope pos) 0 it acc env).onRaise (fun x=>do noteFrame x env;theTreesLotGoes x)) _ _ s
 refine wpAny_noted ?_
 rw[a7o]
 refine wpAny_bind (wpAny_standAt (wpAny_bind (wpAny_mono (turn n s hI) (fun r s₁ h₁=>?_) fun _ _ h'=>h')))
 cases r with
 | none=>exact wpAny_pure h₁
 | some v=>
   refine wpAny_bind (wpAny_mono h₁ (fun _ s₁' h₁'=>?_) fun _ _ h'=>h')
   refine wpAny_bind (wpAny_mono h₁' (fun _ s₂ h₂=>?_) fun _ _ h'=>h')
   refine wpAny_bind (wpAny_mono h₂ (fun x s₃ h₃=>?_) fun _ _ h'=>h')
   refine wpAny_bind (wpAny_standAt (wpAny_bind (wpAny_of_eq (hfs x) (wpAny_bind (wpAny_holding (wpAny_mono h₃ (fun it2 s₄ h₄=>?_) fun _ _ h'=>h'))))))
   refine wpAny_bind (wpAny_runOwn (codeAny_mono h₄ fun r s' h'=>?_))
   cases r with
   | ok f=>exact wpAny_pure ⟨rfl,h'⟩
   | error e=>exact h'
end
theorem hidR{M:Model}{A:Around}{c:Code}{R:Result→Shared→Prop}{s:Shared}(P:Shared→Prop)(h:∀ f s',P s'→R (.ok f) s')(k:∀ R1:Result→Shared→Prop,(∀ f s',P s'→R1 (.ok f) s')→codeAny M A c R1 s):codeAny M A c R s:=k R h
theorem comp2_loop{Z:Cx}{tg elt iter tg2 iter2:Expr}{pos:Pos}{scope:Scope}{wi2:TI}{g g2:TG}{te:TE}{no:Nat}{cp:L2.St}{fp:List Addr}{it D:Addr}{tn:Nat→Heap→Prop}{J:It}{H1:Hp}{s4:Shared}{Q:VK}{R0:Result→Shared→Prop}(hg:PG Z tg g)(hi2:PI Z tg2 iter2 wi2)(hg2:PG Z tg2 g2)(he:PE Z elt te)(hc:Z.calm=true)(hE:∀ v s,Z.xe v s→False)(hfs2:∀ v,foldedSetIterable iter2 Z.env v=pure v)(hG:∃ W:Nat→Nat→List V→Hp→Prop,(∃ m,W 0 m [] (upd H1 D (.lst [])))∧
 ∀ i m ys H2,W i m ys H2→(J.stop i H2∧Q (.ref D) H2)∨(J.go i H2∧∀ x H',J.yld i H2 x H'→∀ own:L2.St,own.length=no→g x (own++cp) H' fun σ2 H4=>∃ own1:L2.St,own1.length=no∧σ2=own1++cp∧
   wi2 σ2 H4 fun J2 H5=>∃ W2:Nat→Nat→List V→L2.St→Hp→Prop,(∃ m2,W2 0 m2 ys own1 H5)∧
     ∀ j m2 ys2 own2 H6,W2 j m2 ys2 own2 H6→(J2.stop j H6∧∃ m',m' < m∧W (i+1) m' ys2 H6)∨(J2.go j H6∧∀ x2 H7,J2.yld j H6 x2 H7→own2.length=no→g2 x2 (own2++cp) H7 fun σ2 H4=>∃ own3:L2.St,own3.length=no∧σ2=own3++cp∧
       te σ2 H4 fun v H3=>H3 D=some (.lst ys2)∧ys2.length<sizeLine∧∃ m',m' < m2∧W2 (j+1) m' (ys2++[v]) own3 (upd H3 D (.lst (ys2++[v]))))))(T:Turn Z.prog Z.w Z.K tg J fp it tn)(Ic:Inv Z [] (b7p no none++cp) (upd H1 D (.lst [])) s4)(st4:tn 0 s4.heap)(fp0:∀ b∈fp,(upd H1 D (.lst [])) b=none)(fpc:∀ H',(∀ b∈fp,H' b=none)→∀ b∈fp,FpOk Z [] H' b)(fin:∀ σ' H5 s6,Inv Z [] σ' H5 s6→Q (.ref D) H5→R0 (.ok .next) s6) :
   codeAny (model Z.prog Z.w) Z.A (.compLoop (.ListComp elt [⟨tg,iter,[],0⟩,⟨tg2,iter2,[],0⟩] scope pos) 0 (.ref it) (.ref D) Z.env) R0 s4:=by
 obtain⟨W,⟨m0,w0⟩,turn⟩:=hG
 refine a7q (fun n s'=>∃ i ys own H',own.length=no∧Inv Z [] (own++cp) H' s'∧tn i s'.heap∧(∀ b∈fp,H' b=none)∧W i n ys H') hfs2 ?_ m0 ⟨0,[],b7p no none,_,b6o,Ic,st4,fp0,w0⟩
 rintro n s5 ⟨i,ys,own,H5,ho5,I5,st5,fr5,w5⟩
 rcases turn i n ys H5 w5 with⟨stop,qn⟩ | ⟨go,step⟩
 · refine thn (T.done Z rfl rfl rfl hc i [] s5 _ H5 _ I5 (fpc H5 fr5) st5 stop) fun r s6 ⟨hr,I6⟩=>?_
   subst hr
   exact fin _ _ _ I6 qn
 · refine thn (T.item Z rfl rfl rfl hc i [] s5 _ H5 _ I5 (fpc H5 fr5) st5 go) fun r s6 ⟨u,hr,h6⟩=>?_
   subst hr
   refine (thn h6 fun _ s7 ⟨y,H7,I7,r7,y7,st7,fr7⟩=>?_)
   have I7':=I7.pinned (fpc H7 fr7) (T.obj _ _ st7)
   refine wpAny_mono (hg _ s7 _ H7 y u _ I7' r7 (step y H7 y7 own ho5)) (fun _ s8 ⟨σ8,H8,I8,own1,ho8,e8,q8⟩=>?_) fun _ _ z=>(hE _ _ z).elim
   subst e8
   refine wpAny_mono (hi2 _ s8 _ H8 _ I8 q8) (fun v2 s9 h9=>?_) fun _ _ z=>(hE _ _ z).elim
   refine wpAny_mono h9 (fun itv2 s10 h10=>?_) fun _ _ z=>(hE _ _ z).elim
   obtain⟨it2,fp2,tn2,J2,H10,rfl,I10,T2,st10,f10,W2,⟨m2,w2⟩,turn2⟩:=h10
   have stat:∀ {H':Hp},(∀ b∈fp2,H' b=none)→∀ b∈fp2,FpOk Z ([]++a6m fp s7.heap) H' b:=fun hn b hb=>⟨hn b hb,(f10 b hb).2⟩
   refine (fun L=>a6e L (T2.self _ 0 _ _ _ st10 L)) ?_
   refine hidR (fun s'=>∃ m,m<n∧∃ i ys own H',own.length=no∧Inv Z [] (own++cp) H' s'∧tn i s'.heap∧(∀ b∈fp,H' b=none)∧W i m ys H') (fun f s' z=>z) fun R1 hR1=>?_
   refine a7p (fun n2 s'=>∃ j ys2 own2 H',own2.length=no∧Inv Z ([]++a6m fp s7.heap) (own2++cp) H' s'∧tn2 j s'.heap∧(∀ b∈fp2,H' b=none)∧W2 j n2 ys2 own2 H') ?_ m2 ⟨0,ys,own1,H10,ho8,I10,st10,fun b hb=>(f10 b hb).1,w2⟩
   rintro n2 s11 ⟨j,ys2,own2,H11,ho11,I11,st11,fr11,w11⟩
   rcases turn2 j n2 ys2 own2 H11 w11 with⟨stop2,m',hm',w'⟩ | ⟨go2,step2⟩
   · refine thn (T2.done Z rfl rfl rfl hc j _ s11 _ H11 _ I11 (stat fr11) st11 stop2) fun r s12 ⟨hr,I12⟩=>?_
     subst hr
     refine hR1 _ _ ⟨m',hm',i+1,ys2,own2,H11,ho11,I12.unpinned,T.keep _ _ _ st7 fun b hb o e=>(I12.pin (b,o) (b5m _ (b5m _ (a1o hb e)))).1,fun b hb=>?_,w'⟩
     obtain⟨o,e,_⟩:=T.obj _ _ st7 b hb
     exact (I12.pin (b,o) (b5m _ (b5m _ (a1o hb e)))).2.1
   · refine thn (T2.item Z rfl rfl rfl hc j _ s11 _ H11 _ I11 (stat fr11) st11 go2) fun r s12 ⟨u2,hr,h12⟩=>?_
     subst hr
     refine (thn h12 fun _ s13 ⟨y2,H13,I13,r13,y13,st13,fr13⟩=>?_)
     have I13':=I13.pinned (stat fr13) (T2.obj _ _ st13)
     refine wpAny_mono (hg2 _ s13 _ H13 y2 u2 _ I13' r13 (step2 y2 H13 y13 ho11)) (fun _ s14 ⟨σ14,H14,I14,own3,ho14,e14,q14⟩=>?_) fun _ _ z=>(hE _ _ z).elim
     subst e14
     refine wpAny_mono (he _ s14 _ H14 _ I14 q14) (fun xv s15 ⟨v15,H15,I15,r15,d15,l15,m15,lt15,w15⟩=>?_) fun _ _ z=>(hE _ _ z).elim
     refine wpAny_mono (a3h (X:=Z) _ s15 _ H15 (.ref D) [v15] (.ref D) [xv] (fun _ H10=>H10=upd H15 D (.lst (ys2++[v15]))) I15 rfl (.cons r15 .nil) ⟨D,ys2,v15,rfl,rfl,d15,l15,rfl⟩) (fun _ s16 ⟨_,H16,I16,_,e16⟩=>?_) fun _ _ z=>(hE _ _ z).elim
     subst e16
     refine⟨m15,lt15,j+1,ys2++[v15],own3,_,ho14,I16.unpinned,T2.keep _ _ _ st13 fun b hb o e=>(I16.pin (b,o) (b5m _ (b5m _ (a1o hb e)))).1,fun b hb=>?_,w15⟩
     obtain⟨o,e,_⟩:=T2.obj _ _ st13 b hb
     exact (I16.pin (b,o) (b5m _ (b5m _ (a1o hb e)))).2.1
end Cv
namespace Cv
open PySem PySem.Spec PyProof.Rows L2
section
variable {X:Cx}
theorem a1m(K:b5h){tg l:Expr}{tl:TE}(hl:PEi X l tl)(hK:X.K=K:=by rfl):PIi X tg l (iList K tl):=by subst hK;exact pi_listI hl
end
end Cv
namespace Cv
open PySem PySem.Spec PyProof.Rows L2
section
variable {prog:Program} {w:World} {A:Around} {E:Value→Shared→Prop} {s:Shared}
theorem alive_ok{a:Addr}{o:Obj}{Q:Option Obj→Shared→Prop}(ho:s.heap.get? a=some o)(h:Q (some o) s):wpAny (model prog w) A (loadIfAlive a) Q E s:=fun Γ p _=>by
 show Sem.wp _ _ (Sem.loadIfAlive a Sem.pure) _ _ _ _
 rw[Sem.wp_loadIfAlive,ho]
 exact h
abbrev ZipK(h:Heap)(z TI TO T:Addr)(b:Bool):Prop:=
 h.get? z=some { cls:=.type "zip",dict:=none,data:=.fields #[rawInt T,.bool b,.bool false,.ref TI,.ref TO],slots:=#[] }
theorem a8o{z TI TO T:Addr}{b:Bool}{o:Obj}{Q:Bool→Shared→Prop}(hz:ZipK s.heap z TI TO T b)(hT:s.heap.get? T=some o)(hQ:∀ h',ZipK h' z TI TO T true→Heap.SameBut z s.heap h'→Q false { s with heap:=h' }) :
   wpAny (model prog w) A (Builtin.SmallTypes.ownedTupleIsFree (.ref z)) Q E s:=by
 unfold Builtin.SmallTypes.ownedTupleIsFree
 refine wpAny_bind (wpAny_field hz rfl (x:=rawInt T) rfl ?_)
 show wpAny _ _ (loadIfAlive ((T:Int)).toNat >>= _) _ _ _
 rw[b6w]
 refine wpAny_bind (alive_ok hT ?_)
 simp only[Option.isNone_some,b6s,if_false]
 refine wpAny_bind (wpAny_field hz rfl (x:=.bool b) rfl ?_)
 cases b with
 | true=>
   show wpAny _ _ (pure false) _ _ _
   exact wpAny_pure (hQ s.heap hz (Heap.SameBut.refl ..))
 | false=>
   show wpAny _ _ (setField (.ref z) 1 (.bool true) >>= _) _ _ _
   exact wpAny_bind (wpAny_setField_rec hz (by simp) fun h' hz' hs'=>wpAny_pure (hQ h' hz' hs'))
theorem b3y{z TI TO T i1 i2 l1 l2:Addr}{k1 k2:Nat}{b:Bool}{o:Obj}{xs ys:Array Value}{x y:Value}{Q:Value→Shared→Prop}(D:ZipApart z TI TO i1 i2 l1 l2)(hz:ZipK s.heap z TI TO T b)(hT:s.heap.get? T=some o)(hTI:IsPair s.heap TI (.ref i1) (.ref i2))(h1:s.heap.IsListIter i1 l1 k1)(h2:s.heap.IsListIter i2 l2 k2)(hl1:s.heap.IsList l1 xs)(hl2:s.heap.IsList l2 ys)(hx:xs[k1]?=some x)(hy:ys[k2]?=some y)(hQ:∀ h',ZipK h' z TI TO T true→h'.IsListIter i1 l1 (k1+1)→h'.IsListIter i2 l2 (k2+1)→IsPair h' s.heap.objs.size x y→
     (∀ c o,c≠z→c≠i1→c≠i2→s.heap.get? c=some o→h'.get? c=some o)→Q (.ref s.heap.objs.size) { s with heap:=h' }) :
   wpAny (model prog w) A (Builtin.«zip.__next__» ⟨[.ref z],[]⟩) (fun fin s'=>∃ v,fin=.done (.ret v)∧Q v s') E s:=by
 show wpAny _ _ (field (.ref z) 2 >>= _) _ _ _
 refine wpAny_bind (wpAny_field hz rfl (x:=.bool false) rfl ?_)
 show wpAny _ _ (field (.ref z) 3 >>= _) _ _ _
 refine wpAny_bind (wpAny_field hz rfl (x:=.ref TI) rfl ?_)
 refine wpAny_bind (wpAny_seqItems hTI rfl ?_)
 show wpAny _ _ (Builtin.SmallTypes.ownedTupleIsFree (.ref z) >>= _) _ _ _
 refine wpAny_bind (a8o hz hT fun hA zA sA=>?_)
 simp only[b6s,if_false]
 refine wpAny_bind ?_
 simp only[List.forIn_toArray,b7t,List.forIn_nil]
 refine wpAny_bind (wpAny_bind (wpAny_holding ?_))
 show wpAny _ _ (Builtin.SmallTypes.nextOf (.ref i1) >>= _) _ _ _
 refine wpAny_bind (wpAny_nextOf_list_item (h1.extBut sA.extBut D.i1z) (hl1.extBut sA.extBut D.l1z) hx fun hB iB sB=>wpAny_pure (wpAny_pure ?_))
 refine wpAny_bind (wpAny_bind (wpAny_holding ?_))
 show wpAny _ _ (Builtin.SmallTypes.nextOf (.ref i2) >>= _) _ _ _
 refine wpAny_bind (wpAny_nextOf_list_item ((h2.extBut sA.extBut D.i2z).extBut sB.extBut D.i12.symm) ((hl2.extBut sA.extBut D.l2z).extBut sB.extBut D.l2i1) hy fun hC iC sC=>wpAny_pure (wpAny_pure (wpAny_pure ?_)))
 have hsz:hC.objs.size=s.heap.objs.size:=by rw[sC.1,sB.1,sA.1]
 have up:∀ c o,c≠z→c≠i1→c≠i2→s.heap.get? c=some o→hC.get? c=some o:=fun c o c1 c3 c4 e=>sC.extBut _ _ c4 (sB.extBut _ _ c3 (sA.extBut _ _ c1 e))
 have zC:ZipK hC z TI TO T true:=sC.extBut _ _ D.i2z.symm (sB.extBut _ _ D.i1z.symm zA)
 have i1C:hC.IsListIter i1 l1 (k1+1):=iB.extBut sC.extBut D.i12
 show wpAny _ _ (newTuple [x,y] >>= _) _ _ _
 refine wpAny_bind (wpAny_newTuple (wpAny_pure ⟨_,rfl,?_⟩))
 show Q (.ref hC.objs.size) _
 rw[hsz]
 refine hQ _ (Heap.get?_push_of_some _ zC) (i1C.at fun o e=>Heap.get?_push_of_some _ e) (iC.at fun o e=>Heap.get?_push_of_some _ e) ?_ fun c o c1 c3 c4 e=>Heap.get?_push_of_some _ (up c o c1 c3 c4 e)
 rw[← hsz]
 exact Heap.get?_push_size _ rfl
theorem kept_end{z TI TO T i1 i2 l1 l2:Addr}{k1 k2:Nat}{b:Bool}{o:Obj}{xs ys:Array Value}{Q:Fin→Shared→Prop}(hh:A.handled=none)(D:ZipApart z TI TO i1 i2 l1 l2)(hz:ZipK s.heap z TI TO T b)(hT:s.heap.get? T=some o)(hTI:IsPair s.heap TI (.ref i1) (.ref i2))(h1:s.heap.IsListIter i1 l1 k1)(h2:s.heap.IsListIter i2 l2 k2)(hl1:s.heap.IsList l1 xs)(hl2:s.heap.IsList l2 ys)(hend:xs[k1]?=none∨ys[k2]?=none)(hE:∀ h' e,(∀ c o,c≠z→c≠i1→c≠i2→s.heap.get? c=some o→h'.get? c=some o)→(∃ o,h'.get? e=some o∧o.cls=.type "StopIteration")→E (.ref e) { s with heap:=h' }) :
   wpAny (model prog w) A (Builtin.«zip.__next__» ⟨[.ref z],[]⟩) Q E s:=by
 show wpAny _ _ (field (.ref z) 2 >>= _) _ _ _
 refine wpAny_bind (wpAny_field hz rfl (x:=.bool false) rfl ?_)
 show wpAny _ _ (field (.ref z) 3 >>= _) _ _ _
 refine wpAny_bind (wpAny_field hz rfl (x:=.ref TI) rfl ?_)
 refine wpAny_bind (wpAny_seqItems hTI rfl ?_)
 show wpAny _ _ (Builtin.SmallTypes.ownedTupleIsFree (.ref z) >>= _) _ _ _
 refine wpAny_bind (a8o hz hT fun hA zA sA=>?_)
 simp only[b6s,if_false]
 refine wpAny_bind ?_
 simp only[List.forIn_toArray,b7t,List.forIn_nil]
 refine wpAny_bind (wpAny_bind (wpAny_holding ?_))
 show wpAny _ _ (Builtin.SmallTypes.nextOf (.ref i1) >>= _) _ _ _
 cases hx:xs[k1]? with
 | none=>
   refine wpAny_bind (wpAny_nextOf_list_end hh (h1.extBut sA.extBut D.i1z) (hl1.extBut sA.extBut D.l1z) hx fun hB e sB he=>?_)
   exact hE hB e (fun c o c1 c3 _ q=>sB _ _ c3 (sA.extBut _ _ c1 q)) he
 | some x=>
   have hy:ys[k2]?=none:=by
     rcases hend with q | q
     · rw[hx] at q;cases q
     · exact q
   refine wpAny_bind (wpAny_nextOf_list_item (h1.extBut sA.extBut D.i1z) (hl1.extBut sA.extBut D.l1z) hx fun hB iB sB=>wpAny_pure (wpAny_pure ?_))
   refine wpAny_bind (wpAny_bind (wpAny_holding ?_))
   show wpAny _ _ (Builtin.SmallTypes.nextOf (.ref i2) >>= _) _ _ _
   refine wpAny_bind (wpAny_nextOf_list_end hh ((h2.extBut sA.extBut D.i2z).extBut sB.extBut D.i12.symm) ((hl2.extBut sA.extBut D.l2z).extBut sB.extBut D.l2i1) hy fun hC e sC he=>?_)
   exact hE hC e (fun c o c1 c3 c4 q=>sC _ _ c4 (sB.extBut _ _ c3 (sA.extBut _ _ c1 q))) he
def ZSt(z TI TO i1 i2 l1 l2:Addr)(i:Nat)(h:Heap):Prop:=
 (IsZip h z TI TO .none∨∃ T b o,ZipK h z TI TO T b∧h.get? T=some o∧T≠z∧T≠TO∧T≠i1∧T≠i2)∧(∃ a b,IsPair h TO a b)∧IsPair h TI (.ref i1) (.ref i2)∧h.IsListIter i1 l1 i∧h.IsListIter i2 l2 i
theorem zst_item{z TI TO i1 i2 l1 l2:Addr}{i:Nat}{xs ys:Array Value}{x y:Value}{Q:Option Value→Shared→Prop}(D:ZipApart z TI TO i1 i2 l1 l2)(st:ZSt z TI TO i1 i2 l1 l2 i s.heap)(hl1:s.heap.IsList l1 xs)(hl2:s.heap.IsList l2 ys)(hx:xs[i]?=some x)(hy:ys[i]?=some y)(hQ:∀ h',ZSt z TI TO i1 i2 l1 l2 (i+1) h'→IsPair h' s.heap.objs.size x y→(∀ c o,c≠z→c≠TO→c≠i1→c≠i2→s.heap.get? c=some o→h'.get? c=some o)→Q (some (.ref s.heap.objs.size)) { s with heap:=h' }) :
   wpAny (model prog w) A (pyNext (.ref z)) Q E s:=by
 obtain⟨hm,⟨a,b',hTO⟩,hTI,h1,h2⟩:=st
 rcases hm with hz | ⟨T,b,o,hz,hT,t1,t2,t3,t4⟩
 · have neT:∀ {c o},s.heap.get? c=some o→s.heap.objs.size≠c:=fun e=>b8d (Heap.lt_size e)
   obtain⟨o1,e1,_⟩:=id h1
   obtain⟨o2,e2,_⟩:=id h2
   refine wpAny_pyNext_zip_item D hz hTI hTO h1 h2 hl1 hl2 hx hy fun h' a1 a2 a3 a4 a5 a6 a7=>hQ h' ⟨.inr ⟨_,_,_,a1,a5,neT hz,neT hTO,neT e1,neT e2⟩,⟨_,_,a2⟩,a7 _ _ D.TIz D.TITO D.TIi1 D.TIi2 hTI,a3,a4⟩ a5 a7
 · have hTy:s.TypeIs (.ref z) "zip":=⟨_,hz,rfl⟩
   unfold pyNext
   refine wpAny_bind (wpAny_attempt (wpAny_callSpecial?_slot (name:=Str.ofString "__next__") hTy F.slot_zip_next
     (wpAny_call_entry F.slot_zip_next hTy F.entry_zip_next (b3y D hz hT hTI h1 h2 hl1 hl2 hx hy fun h' a1 a3 a4 a5 a7=>wpAny_pure (hQ h' ⟨.inr ⟨T,_,o,a1,a7 T o t1 t3 t4 hT,t1,t2,t3,t4⟩,⟨a,b',a7 _ _ D.TOz D.TOi1 D.TOi2 hTO⟩,a7 _ _ D.TIz D.TIi1 D.TIi2 hTI,a3,a4⟩ a5 fun c o c1 _ c3 c4 e=>a7 c o c1 c3 c4 e)) (F.args_zip_next_1 _))))
theorem zst_end{z TI TO i1 i2 l1 l2:Addr}{i:Nat}{xs ys:Array Value}{Q:Option Value→Shared→Prop}(hh:A.handled=none)(D:ZipApart z TI TO i1 i2 l1 l2)(st:ZSt z TI TO i1 i2 l1 l2 i s.heap)(hl1:s.heap.IsList l1 xs)(hl2:s.heap.IsList l2 ys)(hend:xs[i]?=none∨ys[i]?=none)(hQ:∀ h',(∀ c o,c≠z→c≠TO→c≠i1→c≠i2→s.heap.get? c=some o→h'.get? c=some o)→Q none { s with heap:=h' }) :
   wpAny (model prog w) A (pyNext (.ref z)) Q E s:=by
 obtain⟨hm,⟨a,b',hTO⟩,hTI,h1,h2⟩:=st
 rcases hm with hz | ⟨T,b,o,hz,hT,t1,t2,t3,t4⟩
 · exact wpAny_pyNext_zip_end hh D hz hTI hTO h1 h2 hl1 hl2 hend hQ
 · have hTy:s.TypeIs (.ref z) "zip":=⟨_,hz,rfl⟩
   unfold pyNext
   refine wpAny_bind (wpAny_attempt (wpAny_callSpecial?_slot (name:=Str.ofString "__next__") hTy F.slot_zip_next
     (wpAny_call_entry F.slot_zip_next hTy F.entry_zip_next (kept_end hh D hz hT hTI h1 h2 hl1 hl2 hend fun h' e hk he=>?_) (F.args_zip_next_1 _))))
   obtain⟨oe,ho,hc⟩:=he
   refine wpAny_bind (wpAny_isInstance (T := "StopIteration") (b:=true) ⟨oe,ho,hc⟩ isSubtype_stop ?_)
   exact wpAny_pure (hQ _ fun c o c1 _ c3 c4 q=>hk c o c1 c3 c4 q)
end
theorem SqL.aside{K:b5h}{H:Hp}{a S:Addr}{o:HO}{xs:List V}(h:SqL K H a xs)(ne:a≠S):SqL K (upd H S o) a xs:=by
 rcases h with (h | ⟨ob,h⟩) | h
 · exact .inl (.inl (by rw[a0n ne];exact h))
 · exact .inl (.inr ⟨ob,by rw[a0n ne];exact h⟩)
 · exact .inr h
def a9g(H:Hp)(us xs ys:List V):Prop:=∀ (j:Nat) v,us[j]?=some v→∃ T,v=.ref T∧H T=some (.tup [(xs[j]?).getD .non,(ys[j]?).getD .non])
section
variable {X:Cx} {pins:List (Addr×Obj)} {σ:L2.St} {A:Around}
theorem ext_zip{R:Result→Shared→Prop}{z TI TO i1 i2 l1 l2 S:Addr}{xs ys:List V}(hh:A.handled=none)(D:ZipApart z TI TO i1 i2 l1 l2)(n1:l1≠S)(n2:l2≠S)(nf:S∉[z,TI,TO,i1,i2])(hsz:xs.length≤100000)(res:Value) :
   ∀ (k i:Nat) (s:Shared) (H:Hp) (us:List V),min xs.length ys.length - i=k→i≤min xs.length ys.length→Inv X pins σ H s→(∀ b∈[z,TI,TO,i1,i2],FpOk X pins H b)→ZSt z TI TO i1 i2 l1 l2 i s.heap→SqL X.K H l1 xs→SqL X.K H l2 ys→
   H S=some (.lst us)→us.length=i→a9g H us xs ys→
   (∀ s' H' us',Inv X pins σ H' s'→(∀ b o,b≠S→H b=some o→H' b=some o)→H' S=some (.lst us')→us'.length=min xs.length ys.length→a9g H' us' xs ys→R (.ok (.ret res)) s')→
   codeAny (model X.prog X.w) A (.builtin "list.extend.loop" ⟨[.ref S,.ref z,res],[]⟩) R s:=by
 intro k
 induction k with
 | zero=>
   intro i s H us hk hi I hf st q1 q2 hS hul hp hR
   have hin:i=min xs.length ys.length:=by omega
   obtain⟨its1,rv1,p1,_⟩:=I.list q1
   obtain⟨its2,rv2,p2,_⟩:=I.list q2
   have r1:=rv1.length
   have r2:=rv2.length
   refine codeAny_builtin F.entry_extend_loop ?_
   rw[Around.under_plainId F.plain_extend_loop _]
   show wpAny _ A.in1 (pyNext (.ref z) >>= _) _ _ s
   refine wpAny_bind (zst_end (A:=A.in1) hh D st p1.isList p2.isList ?_ fun h' kk=>?_)
   · rcases Nat.le_total its1.length its2.length with q | q
     · exact .inl (by simp;omega)
     · exact .inr (by simp;omega)
   have I1:Inv X pins σ H { s with heap:=h',toks:=s.toks }:=b2f I hf fun b o hb e=>by
     simp only[b6a,b6k,or_false,not_or] at hb
     exact kk b o hb.1 hb.2.2.1 hb.2.2.2.1 hb.2.2.2.2 e
   exact wpAny_pure (hR _ H us I1 (fun _ _ _ e=>e) hS (by omega) hp)
 | succ k ih=>
   intro i s H us hk hi I hf st q1 q2 hS hul hp hR
   have hlt:i<min xs.length ys.length:=by omega
   obtain⟨its1,rv1,p1,_⟩:=I.list q1
   obtain⟨its2,rv2,p2,_⟩:=I.list q2
   have ex:xs[i]?=some (xs[i]'(by omega (config:={}))):=b5i _
   have ey:ys[i]?=some (ys[i]'(by omega (config:={}))):=b5i _
   obtain⟨u1,hu1,ru1⟩:=rv1.get ex
   obtain⟨u2,hu2,ru2⟩:=rv2.get ey
   refine codeAny_builtin F.entry_extend_loop ?_
   rw[Around.under_plainId F.plain_extend_loop _]
   show wpAny _ A.in1 (pyNext (.ref z) >>= _) _ _ s
   refine wpAny_bind (zst_item (A:=A.in1) D st p1.isList p2.isList (x:=u1) (y:=u2) (by simpa using hu1) (by simpa using hu2) fun h' st' pr kk=>?_)
   have hT:H s.heap.objs.size=none:=I.hok.fresh (b5n _)
   have kk':∀ b o,b∉[z,TI,TO,i1,i2]→s.heap.get? b=some o→h'.get? b=some o:=fun b o hb e=>by
     simp only[b6a,b6k,or_false,not_or] at hb
     exact kk b o hb.1 hb.2.2.1 hb.2.2.2.1 hb.2.2.2.2 e
   have I1:=a7v (t':=s.toks) (a:=s.heap.objs.size) (o:=.tup [xs[i]'(by omega (config:={})),ys[i]'(by omega (config:={}))]) (h':=h') I hf kk' (b5n _) ⟨by show 2≤sizeLine;decide,[u1,u2],.cons ru1 (.cons ru2 .nil),⟨_,pr,rfl,_,rfl⟩⟩
   have neS:S≠s.heap.objs.size:=a0p hS hT
   have hS1:(upd H s.heap.objs.size (.tup [xs[i]'(by omega (config:={})),ys[i]'(by omega (config:={}))])) S=some (.lst us):=by rw[a0n neS];exact hS
   obtain⟨_,its,nn,rv,eS⟩:=(show a1s X.prog X.w _ h' S (.lst us) from I1.hok S _ hS1)
   have rl:=rv.length
   show wpAny _ A.in1 (updateSeq S (·.push (.ref s.heap.objs.size)) >>= _) _ _ _
   refine wpAny_bind (wpAny_updateSeq eS rfl (wpAny_pure ⟨plainId_quiet F.plain_extend_loop _,?_⟩) (by simp;rw[← rl,hul];exact a0s (by omega) |> b6u) (by simp;rw[← rl,hul];have:=a0s (n:=i) (by omega);omega))
   have oth:∀ b o,b≠S→h'.get? b=some o→(h'.update S (Obj.mapSeq (·.push (.ref s.heap.objs.size)))).get? b=some o:=fun b o hb e=>(Heap.get?_update_other _ _ (Ne.symm hb)).trans e
   have eS2:=Heap.get?_update_self (Obj.mapSeq (·.push (Value.ref s.heap.objs.size))) eS rfl
   obtain⟨c',eS3⟩ : ∃ c',(h'.update S (Obj.mapSeq (·.push (Value.ref s.heap.objs.size)))).get? S=some { cls:=.type "list",data:=.seq (its++[Value.ref s.heap.objs.size]).toArray c' }:=⟨_,by rw[eS2];simp[Obj.mapSeq];rfl⟩
   have I2:Inv X pins σ (upd (upd H s.heap.objs.size (.tup [xs[i]'(by omega (config:={})),ys[i]'(by omega (config:={}))])) S (.lst (us++[.ref s.heap.objs.size]))) { s with heap:=h'.update S (Obj.mapSeq (·.push (.ref s.heap.objs.size))),toks:=s.toks }:=by
     refine Inv.write (s:={ s with heap:=h',toks:=s.toks }) (x:=S) (e:=S) I1 ?_ (.inl rfl) oth ⟨_,eS2⟩ ⟨?_,its++[.ref s.heap.objs.size],c',rv.append (.cons (show RelV (.ref s.heap.objs.size) (Value.ref s.heap.objs.size) from rfl) .nil),eS3⟩
     · rw[hS1];trivial
     · rw[b5u];exact b6u (a0s (by simp;omega))
   obtain⟨hm,⟨oa,ob,hTO⟩,hTI,hi1,hi2⟩:=id st
   have ltz:z<s.heap.objs.size:=by
     rcases hm with q | ⟨_,_,_,q,_⟩
     · exact Heap.lt_size q
     · exact Heap.lt_size q
   have lt1:i1<s.heap.objs.size:=by obtain⟨_,e,_⟩:=hi1;exact Heap.lt_size e
   have lt2:i2<s.heap.objs.size:=by obtain⟨_,e,_⟩:=hi2;exact Heap.lt_size e
   have ltf:∀ b∈[z,TI,TO,i1,i2],b≠s.heap.objs.size:=fun b hb=>by
     simp only[b6a,b6k,or_false] at hb
     rcases hb with rfl | rfl | rfl | rfl | rfl
     · exact b5k ltz
     · exact b5k (Heap.lt_size hTI)
     · exact b5k (Heap.lt_size hTO)
     · exact b5k lt1
     · exact b5k lt2
   have ns:∀ b∈[z,TI,TO,i1,i2],b≠S:=fun b hb e=>nf (e ▸ hb)
   have a1:l1≠s.heap.objs.size:=by obtain⟨_,e,_⟩:=p1.isList;exact b5k (Heap.lt_size e)
   have a2:l2≠s.heap.objs.size:=by obtain⟨_,e,_⟩:=p2.isList;exact b5k (Heap.lt_size e)
   refine ih (i+1) _ _ (us++[.ref s.heap.objs.size]) (by omega) hlt I2 (fun b hb=>?_) ?_ (Cv.SqL.aside (Cv.SqL.aside q1 a1) n1) (Cv.SqL.aside (Cv.SqL.aside q2 a2) n2) a0f (by rw[b5u,hul];rfl) (fun j v e=>?_) fun s' H' us' I' e1 e2 e3 e4=>hR s' H' us' I' (fun b o hb e=>e1 b o hb ?_) e2 e3 e4
   · obtain⟨f0,fr⟩:=hf b hb
     exact⟨by rw[a0n (ns b hb),a0n (ltf b hb)];exact f0,fr⟩
   · obtain⟨hm',⟨pa,pb,hTO'⟩,hTI',hi1',hi2'⟩:=st'
     refine⟨?_,⟨pa,pb,oth _ _ (ns TO (by simp)) hTO'⟩,oth _ _ (ns TI (by simp)) hTI',hi1'.at fun o e=>oth _ o (ns i1 (by simp)) e,hi2'.at fun o e=>oth _ o (ns i2 (by simp)) e⟩
     rcases hm' with q | ⟨T,b,o,q,qT,t1,t2,t3,t4⟩
     · exact .inl (oth _ _ (ns z (by simp)) q)
     · by_cases hTS:T=S
       · exact .inr ⟨T,b,_,oth _ _ (ns z (by simp)) q,by rw[hTS];exact eS2,t1,t2,t3,t4⟩
       · exact .inr ⟨T,b,o,oth _ _ (ns z (by simp)) q,oth _ _ hTS qT,t1,t2,t3,t4⟩
   · by_cases hj:j<us.length
     · rw[b5w hj] at e
       obtain⟨T,rfl,hT'⟩:=hp j v e
       refine⟨T,rfl,?_⟩
       have c1:T≠S:=fun q=>by rw[q,hS] at hT';cases hT'
       rw[a0n c1,a0n (a0p hT' hT)];exact hT'
     · rw[b5y (by omega)] at e
       have hj0:j - us.length=0:=by
         cases q:j - us.length with
         | zero=>rfl
         | succ k=>rw[q] at e;simp at e
       rw[hj0] at e
       have e':V.ref s.heap.objs.size=v:=by simpa using e
       have hji:j=i:=by omega
       subst hji
       refine⟨_,e'.symm,?_⟩
       rw[a0n (Ne.symm neS),a0f,ex,ey];rfl
   · rw[a0n hb,a0n (a0p e hT)];exact e
theorem b1d:typeLookup (.type "zip") "__len__" = pure none:=by rw[typeLookup_type,builtinLookup_eq_fast];kernel_rfl
theorem a9h:typeLookup (.type "zip") "__length_hint__" = pure none:=by rw[typeLookup_type,builtinLookup_eq_fast];kernel_rfl
def tZipL(K:b5h)(ta:TA):TE:=fun σ H Q=>ta σ H fun vs H1=>∃ (l1 l2:Addr) (xs ys:List V),vs=[.ref l1,.ref l2]∧SqL K H1 l1 xs∧SqL K H1 l2 ys∧xs.length≤100000∧
 ∀ (l:Addr) (us:List V) (H2:Hp),H1 l=none→Same H1 H2→H2 l=some (.lst us)→us.length=min xs.length ys.length→a9g H2 us xs ys→Q (.ref l) H2
theorem list_zip{s:Shared}{H:Hp}{E:Value→Shared→Prop}{z TI TO i1 i2 l1 l2:Addr}{xs ys:List V}{Q:Value→Shared→Prop}(hh:A.handled=none)(D:ZipApart z TI TO i1 i2 l1 l2)(I:Inv X pins σ H s)(hf:∀ b∈[z,TI,TO,i1,i2],FpOk X pins H b)(st:ZSt z TI TO i1 i2 l1 l2 0 s.heap)(hTy:s.TypeIs (.ref z) "zip")(q1:SqL X.K H l1 xs)(q2:SqL X.K H l2 ys)(hsz:xs.length≤100000)(hQ:∀ s' H' us,Inv X pins σ H' s'→H s.heap.objs.size=none→(∀ b o,H b=some o→H' b=some o)→H' s.heap.objs.size=some (.lst us)→us.length=min xs.length ys.length→a9g H' us xs ys→Q (.ref s.heap.objs.size) s') :
   wpAny (model X.prog X.w) A (call (.type "list") [.ref z]) Q E s:=by
 refine callType_codes (Q₁:=fun obj s₁=>obj=.ref s.heap.objs.size∧s₁={ s with heap:=s.heap.push { cls:=.type "list",data:=.seq #[] } }) F.called_list (F.typeCall_list_1 _) F.entry_list_init
   (code_list_new _ ⟨rfl,rfl⟩) fun obj s₁ h₁=>?_
 obtain⟨rfl,rfl⟩:=h₁
 have hS:(s.heap.push { cls:=.type "list",data:=.seq #[] }).get? s.heap.objs.size=some { cls:=.type "list",data:=.seq #[] }:=Heap.get?_push_size _ rfl
 refine⟨⟨_,hS,rfl⟩,F.args_list_init_2 _ _,?_⟩
 show wpAny _ _ (do let old ← Builtin.List.listItems (.ref s.heap.objs.size);Builtin.List.listUpdate (.ref s.heap.objs.size) (fun _=>#[]);letGo old.toList.reverse;Builtin.List.listExtendWith (.ref s.heap.objs.size) (.ref z) .none) _ _ _
 refine wpAny_bind ?_
 unfold Builtin.List.listItems
 refine wpAny_bind (wpAny_seqItems hS rfl (wpAny_pure ?_))
 show wpAny _ _ (updateSeq s.heap.objs.size (fun _=>#[]) >>= fun _=>letGo (#[]:Array Value).toList.reverse >>= fun _=>Builtin.List.listExtendWith (.ref s.heap.objs.size) (.ref z) .none) _ _ _
 refine wpAny_bind (wpAny_updateSeq hS rfl ?_)
 have hS2:=Heap.get?_update_self (Obj.mapSeq (fun _=>(#[]:Array Value))) hS rfl
 refine wpAny_bind (wpAny_letGo ?_)
 have old1:∀ b o,s.heap.get? b=some o→((s.heap.push { cls:=.type "list",data:=.seq #[] }).update s.heap.objs.size (Obj.mapSeq (fun _=>(#[]:Array Value)))).get? b=some o:=
   fun b o e=>(Heap.get?_update_other _ _ (b8d (Heap.lt_size e))).trans (Heap.get?_push_of_some _ e)
 have hTy2:Shared.TypeIs { s with heap:=(s.heap.push { cls:=.type "list",data:=.seq #[] }).update s.heap.objs.size (Obj.mapSeq (fun _=>(#[]:Array Value))) } (.ref z) "zip":=by
   obtain⟨o,ho,hc⟩:=hTy
   exact⟨o,old1 _ _ ho,hc⟩
 have ltz:z<s.heap.objs.size:=by obtain⟨o,ho,hc⟩:=hTy;exact Heap.lt_size ho
 unfold Builtin.List.listExtendWith
 refine wpAny_bind (wpAny_typeOf hTy2 ?_)
 have h1:Builtin.List.listSameRef (.ref s.heap.objs.size) (.ref z)=false:=by simp[Builtin.List.listSameRef];exact b8d ltz
 have h2:(Value.type "zip" == Value.type "list")=false:=by decide
 have h3:(Value.type "zip" == Value.type "tuple")=false:=by decide
 simp only[h1,h2,h3,Bool.or_false,b6s,if_false]
 obtain⟨hm,hTO,hTI,hi1,hi2⟩:=id st
 have hz0:∃ f0 f1,s.heap.get? z=some { cls:=.type "zip",dict:=none,data:=.fields #[f0,f1,.bool false,.ref TI,.ref TO],slots:=#[] }:=by
   rcases hm with q | ⟨_,_,_,q,_⟩
   · exact⟨_,_,q⟩
   · exact⟨_,_,q⟩
 refine wpAny_bind (wpAny_pyIter_slot hTy2 F.slot_zip_iter (wpAny_call_entry F.slot_zip_iter hTy2 F.entry_zip_iter ?_ (F.args_zip_iter_1 _)))
 show wpAny _ _ (ret (.ref z)) _ _ _
 refine wpAny_pure ⟨_,rfl,"zip",_,hTy2,F.slot_zip_next.lookup,?_⟩
 refine wpAny_bind (wpAny_holding ?_)
 unfold Builtin.List.listLengthHint
 refine wpAny_bind (wpAny_specialOf hTy2 b1d ?_)
 show wpAny _ _ (specialOf (Value.ref z) (Str.ofString "__length_hint__") >>= _) _ _ _
 refine wpAny_bind (wpAny_specialOf hTy2 a9h ?_)
 refine wpAny_pure ?_
 show wpAny _ _ (rule "list.extend.makes-room" >>= fun _=>Builtin.List.listTouch (.ref s.heap.objs.size) >>= fun _=>again (.builtin "list.extend.loop" ⟨[.ref s.heap.objs.size,.ref z,.none],[]⟩)) _ _ _
 refine wpAny_bind (wpAny_rule ?_)
 refine wpAny_bind ?_
 show wpAny _ _ (updateSeq s.heap.objs.size (·.push .none) >>= fun _=>updateSeq s.heap.objs.size (·.pop)) _ _ _
 refine wpAny_bind (wpAny_updateSeq hS2 rfl ?_)
 have hS3:=Heap.get?_update_self (Obj.mapSeq (·.push Value.none)) hS2 rfl
 refine wpAny_updateSeq hS3 rfl ?_
 have hS4:=Heap.get?_update_self (Obj.mapSeq (·.pop)) hS3 rfl
 have old:∀ b o,s.heap.get? b=some o→((((s.heap.push { cls:=.type "list",data:=.seq #[] }).update s.heap.objs.size (Obj.mapSeq (fun _=>(#[]:Array Value)))).update s.heap.objs.size (Obj.mapSeq (·.push Value.none))).update s.heap.objs.size (Obj.mapSeq (·.pop))).get? b=some o:=
   fun b o e=>(Heap.get?_update_other _ _ (b8d (Heap.lt_size e))).trans ((Heap.get?_update_other _ _ (b8d (Heap.lt_size e))).trans (old1 b o e))
 have hn:H s.heap.objs.size=none:=I.hok.fresh (b5n _)
 have I1:=I.laid (t':=s.toks) (o:=.lst []) old (b5n _) ⟨b7b _,[],_,.nil,hS4⟩
 obtain⟨its1,rv1,p1,_⟩:=I.list q1
 obtain⟨its2,rv2,p2,_⟩:=I.list q2
 have a1:l1≠s.heap.objs.size:=by obtain⟨_,e,_⟩:=p1.isList;exact b5k (Heap.lt_size e)
 have a2:l2≠s.heap.objs.size:=by obtain⟨_,e,_⟩:=p2.isList;exact b5k (Heap.lt_size e)
 have ltf:∀ b∈[z,TI,TO,i1,i2],b≠s.heap.objs.size:=fun b hb=>by
   simp only[b6a,b6k,or_false] at hb
   rcases hb with rfl | rfl | rfl | rfl | rfl
   · exact b5k ltz
   · exact b5k (Heap.lt_size hTI)
   · obtain⟨_,_,q⟩:=hTO;exact b5k (Heap.lt_size q)
   · obtain⟨_,q,_⟩:=hi1;exact b5k (Heap.lt_size q)
   · obtain⟨_,q,_⟩:=hi2;exact b5k (Heap.lt_size q)
 refine wpAny_pure ⟨plainId_quiet F.plain_extend_loop _,ext_zip (A:=A.in1) hh D a1 a2 (fun hb=>ltf _ hb rfl) hsz .none _ 0 _ _ [] rfl (b7b _) I1 (fun b hb=>?_) ?_ (Cv.SqL.aside q1 a1) (Cv.SqL.aside q2 a2) a0f rfl (fun j v e=>by simp at e) fun s' H' us' I' e1 e2 e3 e4=>?_⟩
 · obtain⟨f0,fr⟩:=hf b hb
   exact⟨by rw[a0n (ltf b hb)];exact f0,fr⟩
 · obtain⟨pa,pb,hTO'⟩:=hTO
   refine⟨?_,⟨pa,pb,old _ _ hTO'⟩,old _ _ hTI,hi1.at fun o e=>old _ o e,hi2.at fun o e=>old _ o e⟩
   rcases hm with q | ⟨T,b,o,q,qT,t⟩
   · exact .inl (old _ _ q)
   · exact .inr ⟨T,b,o,old _ _ q,old _ _ qT,t⟩
 · exact⟨rfl,hQ s' H' us' I' hn (fun b o e=>e1 b o (a0p e hn) (by rw[a0n (a0p e hn)];exact e)) e2 e3 e4⟩
theorem b1h{a b:Expr}{ta:TA}{p p2 pos pos2:Pos}(hg:Gl X "list")(hm:X.mg "list" = none)(hg2:Gl X "zip")(hm2:X.mg "zip" = none)(ha:PA X [a,b] ta)(hc:X.calm=true:=by rfl)(he:starEach [a,b] X.env=(false,eval a X.env)::starEach [b] X.env:=by rfl)(hpl:(backTo pos2 (starEach [b] X.env)).any (·.1)=false:=by rfl)(he2:starEach [.Call (.Name "zip" p2) [a,b] [] pos2] X.env=(false,eval (.Call (.Name "zip" p2) [a,b] [] pos2) X.env)::starEach [] X.env:=by rfl)(hpl2:(backTo pos (starEach [] X.env)).any (·.1)=false:=by rfl) :
   PE X (.Call (.Name "list" p) [.Call (.Name "zip" p2) [a,b] [] pos2] [] pos) (tZipL X.K ta):=by
 intro pins s σ H Q I h
 refine wpAny_Call_Name_kw (a5q I hg hm boot_list ?_ (by decide) (by decide))
 refine b6v ?_ he2 hpl2
 rw[he2]
 refine Calls.spliced_cons ?_
 refine wpAny_Call_Name_kw (a5q I hg2 hm2 boot_zip ?_ (by decide) (by decide))
 refine b6v (thn (ha pos2 pins s σ H _ I h) fun us s1 ⟨vs,H1,I1,r1,w1⟩=>?_) he hpl
 obtain⟨l1,l2,xs,ys,rfl,q1,q2,hsz,q⟩:=w1
 obtain⟨u1,u2,rfl,e1,e2⟩:=a1t r1
 cases e1;cases e2
 obtain⟨its1,rv1,p1,hz1⟩:=I1.list q1
 obtain⟨its2,rv2,p2,hz2⟩:=I1.list q2
 have a1:l1<s1.heap.objs.size:=by obtain⟨_,e,_⟩:=p1.isList;exact Heap.lt_size e
 have a2:l2<s1.heap.objs.size:=by obtain⟨_,e,_⟩:=p2.isList;exact Heap.lt_size e
 refine call_zip_2 p1.isList p2.isList fun h' hz hTI hTO hi1 hi2 hsz' hk=>?_
 refine Calls.spliced_nil ?_
 have I2:Inv X pins σ H1 { s1 with heap:=h',toks:=s1.toks }:=I1.kept hk
 have fp:∀ b∈[s1.heap.objs.size+4,s1.heap.objs.size+2,s1.heap.objs.size+3,s1.heap.objs.size,s1.heap.objs.size+1],FpOk X pins H1 b:=fun c hc=>by
   have hge:s1.heap.objs.size≤c:=by
     simp only[b6a,b6k,or_false] at hc
     rcases hc with rfl | rfl | rfl | rfl | rfl<;>omega
   exact I1.fpOk hge (I1.hok.fresh hge)
 refine list_zip (s:={ s1 with heap:=h',toks:=s1.toks }) (I1.ok.hd hc) (zipApart_new a1 a2) I2 fp ⟨.inl hz,⟨_,_,hTO⟩,hTI,hi1,hi2⟩ ⟨_,hz,rfl⟩ q1 q2 hsz fun s' H' us I' hn e1 e2 e3 e4=>?_
 exact⟨.ref _,H',I',rfl,q _ us H' hn e1 e2 e3 e4⟩
theorem a9n{a b:Expr}{ta:TA}{p p2 pos pos2:Pos}(hg:Gl X "list")(hm:X.mg "list" = none)(hg2:Gl X "zip")(hm2:X.mg "zip" = none)(ha:PAi X [a,b] ta)(hc:X.calm=true:=by rfl)(he:starEach [a,b] X.env=(false,eval a X.env)::starEach [b] X.env:=by rfl)(hpl:(backTo pos2 (starEach [b] X.env)).any (·.1)=false:=by rfl)(he2:starEach [.Call (.Name "zip" p2) [a,b] [] pos2] X.env=(false,eval (.Call (.Name "zip" p2) [a,b] [] pos2) X.env)::starEach [] X.env:=by rfl)(hpl2:(backTo pos (starEach [] X.env)).any (·.1)=false:=by rfl) :
 PEi X (.Call (.Name "list" p) [.Call (.Name "zip" p2) [a,b] [] pos2] [] pos) (tZipL X.K ta):=by with_unfolding_all exact b1h (hg:=hg) (hm:=hm) (hg2:=hg2) (hm2:=hm2) (ha:=ha) (hc:=hc) (he:=he) (hpl:=hpl) (he2:=he2) (hpl2:=hpl2)
end
end Cv
namespace Cv
open PySem PySem.Spec PyProof.Rows L2
theorem a9z(us:List V)(h:1≤us.length):cutV us none (some (-1))=us.take (us.length - 1):=by
 unfold cutV
 have e:HT.sIx us.length us.length (some (-1))=us.length - 1:=by
   simp[HT.sIx]
   omega
 rw[HT.a5a,e];simp
end Cv
namespace Cv
open PySem PySem.Spec PyProof.Rows L2
theorem PlsV.snoc{H:Hp}{vs:List V}{pl:List Pl}{v:V}{p:Pl}(h:PlsV H vs pl)(hv:RwV H v p.1 p.2):PlsV H (vs++[v]) (pl++[p]):=by
 refine⟨by simp[h.len],fun i w q e1 e2=>?_⟩
 have hl:=h.len
 by_cases hi:i<vs.length
 · rw[b5w hi] at e1
   rw[b5w (by omega)] at e2
   exact h.get i w q e1 e2
 · rw[b5y (by omega)] at e1 e2
   rw[← hl] at e2
   cases hk:i - vs.length with
   | zero=>
     rw[hk] at e1 e2
     simp at e1 e2
     subst e1 e2
     exact hv
   | succ k=>rw[hk] at e1;simp at e1
def a5v(p:Pl):b7e:=.tuple [.int p.1,.int p.2]
theorem a5f(p:Pl)(n:Nat):b5q (n+1) (a5v p)=true:=by
 have h:∀ i:Int,b5q n (.int i)=true:=fun i=>by cases n<;>simp[b5q]
 simp[a5v,b5q,h]
theorem a8u{p q:Pl}:a5v p=a5v q↔p=q:=by
 unfold a5v
 constructor
 · intro h
   simp at h
   exact Prod.ext h.1 h.2
 · intro h;rw[h]
theorem dnPl{K:b5h}{H:Hp}{a:Addr}{p:Pl}(h:H a=some (.tup [.int p.1,.int p.2])):Dn K H (a5v p) (.ref a):=by
 unfold a5v
 simp only[Dn,a3q]
 exact⟨a,_,rfl,SqT.of h,_,_,rfl,rfl,_,_,rfl,rfl,rfl⟩
end Cv
namespace Cv
open PySem PySem.Spec PyProof.Rows L2
def cp(x:Str):List Nat:=x.cps.toList
end Cv
namespace Cv
def tr(a b c:Pl):Int:=(b.1 - a.1)*(c.2 - a.2) - (b.2 - a.2)*(c.1 - a.1)
def lxP(a b:Pl):Prop:=a.1<b.1∨(a.1=b.1∧a.2<b.2)
def lxE(a b:Pl):Prop:=a.1<b.1∨(a.1=b.1∧a.2≤b.2)
end Cv
namespace Cv
open PySem PySem.Spec PyProof.Rows L2
def b0e(h:Heap)(vs:List Value)(pl:List Pl):Prop:=vs.length=pl.length∧∀ (i:Nat) (v:Value) (p:Pl),vs[i]?=some v→pl[i]?=some p→
 ∃ (t:Addr) (o:Obj) (t1 t2:Tok) (n:Nat),v=.ref t∧h.get? t=some o∧o.cls=.type "tuple" ∧ o.data=.seq #[.int p.1 t1,.int p.2 t2] n
instance lxDec (a b:Pl):Decidable (lxP a b):=inferInstanceAs (Decidable (a.1<b.1∨(a.1=b.1∧a.2<b.2)))
section
variable {prog:Program} {w:World} {A:Around} {E:Value→Shared→Prop} {s:Shared}
theorem b5a{vs:List Value}{pl:List Pl}(h:b0e s.heap vs pl){i j:Nat}(hi:i<pl.length)(hj:j<pl.length){C:Bool→Shared→Prop}(q:C (decide (lxP (pl.getD i (0,0)) (pl.getD j (0,0)))) s):PySem.W.kas_ask prog w A (tuples' true) vs i j C s:=by
 unfold PySem.W.kas_ask
 have ei:pl[i]?=some (pl[i]'hi):=b5i _
 have ej:pl[j]?=some (pl[j]'hj):=b5i _
 have vi:vs[i]?=some (vs[i]'(by rw[h.1];exact hi)):=b5i _
 have vj:vs[j]?=some (vs[j]'(by rw[h.1];exact hj)):=b5i _
 obtain⟨a,oa,t1,t2,n1,ea,ha,ca,da⟩:=h.2 i _ _ vi ei
 obtain⟨b,ob,u1,u2,n2,eb,hb,cb,db⟩:=h.2 j _ _ vj ej
 have e1:vs.getD i .none=.ref a:=by rw[b5z,vi,ea];rfl
 have e2:vs.getD j .none=.ref b:=by rw[b5z,vj,eb];rfl
 have e3:pl.getD i (0,0)=pl[i]'hi:=by rw[b5z,ei];rfl
 have e4:pl.getD j (0,0)=pl[j]'hj:=by rw[b5z,ej];rfl
 rw[e1,e2]
 rw[e3,e4] at q
 generalize pl[i]'hi=p at *
 generalize pl[j]'hj=r at *
 refine PySem.W.kat_lt ha da hb db ?_
 refine PySem.W.kat_cons (wpAny_eqBool_int ?_)
 refine PySem.W.kat_go (fun e=>PySem.W.kat_yes ?_) (fun e=>PySem.W.kat_no ?_)
 · have e':p.1=r.1:=by simpa using e
   refine PySem.W.kat_cons (wpAny_eqBool_int ?_)
   refine PySem.W.kat_go (fun f=>PySem.W.kat_yes (PySem.W.kat_nil ?_)) (fun f=>PySem.W.kat_no ?_)
   · have f':p.2=r.2:=by simpa using f
     have:decide (lxP p r)=false:=decide_eq_false (by unfold lxP;omega)
     rw[this] at q
     simpa using q
   · have f':p.2≠r.2:=by simpa using f
     have:decide (lxP p r)=decide (p.2<r.2):=decide_eq_decide.mpr (by unfold lxP;omega)
     rw[this] at q
     exact PySem.W.kat_one _ _ (lt_int q)
 · have e':p.1≠r.1:=by simpa using e
   have:decide (lxP p r)=decide (p.1<r.1):=decide_eq_decide.mpr (by unfold lxP;omega)
   rw[this] at q
   exact oneLt_int q
theorem prs_keep{h h':Heap}{vs:List Value}{pl:List Pl}(H:b0e h vs pl){a:Addr}(k:∀ b o,b≠a→h.get? b=some o→h'.get? b=some o)(ha:∀ v∈vs,v≠.ref a):b0e h' vs pl:=
 ⟨H.1,fun i v p e1 e2=>by
   obtain⟨t,o,t1,t2,n,ev,ht,ct,dt⟩:=H.2 i v p e1 e2
   exact⟨t,o,t1,t2,n,ev,k t o (fun z=>ha v (b6e e1) (by rw[ev,z])) ht,ct,dt⟩⟩
theorem b0w{h:Heap}:∀ {vs:List Value} {pl:List Pl},b0e h vs pl→∃ fs,PySem.W.KatTups h vs fs∧fs.length=vs.length∧∀ f∈fs,∃ i t,f=.int i t
 | [],[],_=>⟨[],PySem.W.KatTups.nil,rfl,fun f h=>nomatch h⟩
 | [],_::_,H=>absurd H.1 (by simp)
 | _::_,[],H=>absurd H.1 (by simp)
 | v::vs,p::pl,H=>by
   obtain⟨t,o,t1,t2,n,rfl,ht,ct,dt⟩:=H.2 0 v p rfl rfl
   obtain⟨fs,h1,h2,h3⟩:=b0w (h:=h) (vs:=vs) (pl:=pl) ⟨by simpa using H.1,fun i v p e1 e2=>H.2 (i+1) v p e1 e2⟩
   refine⟨.int p.1 t1::fs,PySem.W.KatTups.cons ht ct dt rfl h1,by simp[h2],fun f hf=>?_⟩
   rcases b6a.mp hf with rfl | hf
   · exact⟨_,_,rfl⟩
   · exact h3 f hf
end
end Cv
namespace Cv
open PySem PySem.Spec PyProof.Rows L2
section
variable {prog:Program} {w:World} {A:Around} {E:Value→Shared→Prop} {s:Shared}
theorem a5p{a:Addr}{vs:List Value}{n0:Nat}{P:PySem.Fin→Shared→Prop}(hS:s.heap.get? a=some (seqObj "list" vs.toArray n0))(h2:vs.length<2)(hQ:∀ (h':Heap) (c:Nat),(∀ b o,b≠a→s.heap.get? b=some o→h'.get? b=some o)→h'.get? a=some (seqObj "list" vs.toArray c)→P (Fin.done (Flow.ret .none)) { s with heap:=h' }) :
   wpAny (model prog w) A (Builtin.«list.sort» ⟨[.ref a],[]⟩) P E s:=by
 rw[list_sort_plain]
 refine wpAny_bind ?_
 unfold Builtin.List.listItems
 refine wpAny_bind (wpAny_seqItems hS rfl (wpAny_pure ?_))
 refine wpAny_bind ?_
 show wpAny _ _ (updateSeq a (fun _=>#[])) _ _ _
 refine wpAny_updateSeq hS rfl ?_ (by simp;exact b6u (a0s (by omega))) (by simp)
 have hS1:=Heap.get?_update_self (Obj.mapSeq (fun _=>(#[]:Array Value))) hS rfl
 have k1:∀ b o,b≠a→s.heap.get? b=some o→(s.heap.update a (Obj.mapSeq (fun _=>(#[]:Array Value)))).get? b=some o:=fun b o hb e=>(Heap.get?_update_other _ _ (Ne.symm hb)).trans e
 generalize s.heap.update a (Obj.mapSeq (fun _=>(#[]:Array Value)))=H1 at *
 refine wpAny_bind ?_
 unfold seqEpoch
 refine wpAny_bind (wpAny_load hS1 ?_)
 refine wpAny_pure ?_
 refine wpAny_bind (wpAny_newTuple ?_ (by simp;exact b6u (a0s (by omega))))
 refine wpAny_bind (wpAny_newList ?_)
 refine wpAny_holding ?_
 dsimp only
 have hlt:vs.toArray.size<2:=by simp;omega
 rw[if_pos hlt,if_pos hlt]
 have hS2:((H1.push { cls:=.type "tuple",data:=.seq vs.toArray.toList.toArray }).push { cls:=.type "list",data:=.seq #[] }).get? a=some (Obj.mapSeq (fun _=>(#[]:Array Value)) (seqObj "list" vs.toArray n0)):=Heap.get?_push_of_some _ (Heap.get?_push_of_some _ hS1)
 have k2:∀ b o,b≠a→s.heap.get? b=some o→((H1.push { cls:=.type "tuple",data:=.seq vs.toArray.toList.toArray }).push { cls:=.type "list",data:=.seq #[] }).get? b=some o:=fun b o hb e=>Heap.get?_push_of_some _ (Heap.get?_push_of_some _ (k1 b o hb e))
 generalize ((H1.push { cls:=.type "tuple",data:=.seq vs.toArray.toList.toArray }).push { cls:=.type "list",data:=.seq #[] })=H2 at *
 refine wpAny_bind (wpAny_pure ?_)
 refine wpAny_bind (wpAny_pure ?_)
 dsimp only
 refine wpAny_bind (wpAny_bind (wpAny_load hS2 ?_))
 refine wpAny_pure ?_
 have eo:Array.map (fun x=>x.snd) (arrOf (SortSt.mk' general' (vs.toArray.zip vs.toArray) #[] 7 none))=vs.toArray:=by
   show Array.map (fun x=>x.snd) (vs.toArray.zip vs.toArray)=_
   refine Array.ext' ?_
   rw[Array.toList_map,Array.toList_zip,List.map_snd_zip (b5n _)]
 refine wpAny_bind ?_
 show wpAny _ _ (updateSeq a (fun _=>Array.map (fun x=>x.snd) (arrOf (SortSt.mk' general' (vs.toArray.zip vs.toArray) #[] 7 none)))) _ _ _
 rw[eo]
 refine wpAny_updateSeq hS2 rfl ?_ (by simp) (by simp;exact Nat.le_succ_of_le (b6u (a0s (by omega))))
 have hS3:=Heap.get?_update_self (Obj.mapSeq (fun _=>vs.toArray)) hS2 rfl
 have k3:∀ b o,b≠a→s.heap.get? b=some o→(H2.update a (Obj.mapSeq (fun _=>vs.toArray))).get? b=some o:=fun b o hb e=>(Heap.get?_update_other _ _ (Ne.symm hb)).trans (k2 b o hb e)
 generalize H2.update a (Obj.mapSeq (fun _=>vs.toArray))=H3 at *
 show wpAny _ _ (if _ then _ else _) _ _ _
 rw[if_neg (by simp)]
 exact wpAny_pure (hQ H3 _ k3 hS3)
end
end Cv
namespace Cv
open PySem PySem.Spec PyProof.Rows L2
def IsPr(h:Heap)(p:Pl)(a:Addr):Prop:=∃ o t u n,h.get? a=some o∧o.cls=.type "tuple" ∧ o.data=.seq #[.int p.1 t,.int p.2 u] n
theorem b2h{o:Obj}{xs ys:Array Value}{n m:Nat}(h1:o.data=.seq xs n)(h2:o.data=.seq ys m):xs=ys:=by
 rw[h1] at h2
 injection h2
theorem IsPr.inj{h:Heap}{a:Addr}{p q:Pl}(x:IsPr h p a)(y:IsPr h q a):p=q:=by
 obtain⟨o,t,u,n,e1,_,d1⟩:=x
 obtain⟨o',t',u',n',e2,_,d2⟩:=y
 rw[e1] at e2
 cases e2
 have:=congrArg Array.toList (b2h d1 d2)
 simp only[List.cons.injEq,Value.int.injEq] at this
 exact Prod.ext this.1.1 this.2.1.1
section
variable {prog:Program} {w:World} {A:Around} {E:Value→Shared→Prop} {s:Shared}
theorem IsPr.key{h:Heap}{p:Pl}{a:Addr}(x:IsPr h p a):IsTupleKey (intKind prog w) h [p.1,p.2] a:=by
 obtain⟨o,t,u,n,e1,c1,d1⟩:=x
 exact⟨o,_,n,e1,c1,d1,.cons (by simp[intKind,Value.isInt]) (.cons (by simp[intKind,Value.isInt]) .nil)⟩
theorem b0p{p:Pl}{a:Addr}{n:Nat}{Q:Bool→Shared→Prop}(hk:IsPr s.heap p a)(h:Q true s):wpAny (model prog w) A (eqIsQuiet (n+1) (.ref a)) Q E s:=by
 have hT:s.TypeIs (.ref a) "tuple":=by obtain⟨o,b,c,n,e1,c1,_⟩:=hk;exact⟨o,e1,c1⟩
 have l1:=F.slot_tuple_eq.lookup
 obtain⟨⟨oc,od,odt,osl⟩,t,u,m,e1,rfl,rfl⟩:=hk
 unfold eqIsQuiet
 refine wpAny_bind (wpAny_specialOf hT l1 ?_)
 dsimp only
 refine wpAny_bind (wpAny_isInstance hT isSubtype_tuple_tuple ?_)
 rw[if_neg (by simp)]
 refine wpAny_bind (wpAny_bind (wpAny_load e1 ?_))
 refine wpAny_pure ?_
 dsimp only[b8h]
 rw[← Array.forIn_toList]
 simp only[b7t,List.forIn_nil]
 have q:∀ (x:Int) (t:Tok),eqIsQuiet n (.int x t)=pure true:=fun x t=>eqIsQuiet_byValue n rfl
 simp only[q]
 repeat (any_goals (first | assumption | wp_step))
end
end Cv
namespace Cv
open PySem
def lp1(m x:Nat):Nat:=(x*5+1) % (m+1)
def lpN(m:Nat):Nat→Nat→Nat
 | 0,x=>x
 | r+1,x=>lpN m r (lp1 m x)
theorem a7d(m:Nat):∀ a b x,lpN m (a+b) x=lpN m b (lpN m a x)
 | 0,b,x=>by rw[Nat.zero_add];rfl
 | a+1,b,x=>by rw[show a+1+b=(a+b)+1 by omega];exact a7d m a b (lp1 m x)
def MkOk(m:Nat):Prop:=m=7∨m=31∨m=127
theorem orbit0{m:Nat}(hm:MkOk m):(∀ y,y≤m→∃ r,r≤m∧lpN m r 0=y)∧lpN m (m+1) 0=0:=by
 have k7:(∀ y,y<8→∃ r,r<8∧lpN 7 r 0=y)∧lpN 7 8 0=0:=by decide +kernel
 have k31:(∀ y,y<32→∃ r,r<32∧lpN 31 r 0=y)∧lpN 31 32 0=0:=by decide +kernel
 have k127:(∀ y,y<128→∃ r,r<128∧lpN 127 r 0=y)∧lpN 127 128 0=0:=by decide +kernel
 rcases hm with rfl | rfl | rfl
 · exact⟨fun y hy=>let ⟨r,h1,h2⟩:=k7.1 y (by omega);⟨r,by omega,h2⟩,k7.2⟩
 · exact⟨fun y hy=>let ⟨r,h1,h2⟩:=k31.1 y (by omega);⟨r,by omega,h2⟩,k31.2⟩
 · exact⟨fun y hy=>let ⟨r,h1,h2⟩:=k127.1 y (by omega);⟨r,by omega,h2⟩,k127.2⟩
theorem reach{m:Nat}(hm:MkOk m){x y:Nat}(hx:x≤m)(hy:y≤m):∃ r,r≤m∧lpN m r x=y:=by
 obtain⟨h1,h2⟩:=orbit0 hm
 obtain⟨a,ha,rfl⟩:=h1 x hx
 obtain⟨b,hb,rfl⟩:=h1 y hy
 by_cases h:a≤b
 · exact⟨b - a,by omega,by rw[← a7d,show a+(b - a)=b by omega]⟩
 · exact⟨b+(m+1) - a,by omega,by rw[← a7d,show a+(b+(m+1) - a)=(m+1)+b by omega,a7d,h2]⟩
def lkN(m:Nat):Nat→Nat→Nat→Nat×Nat
 | 0,i,p=>(i,p)
 | k+1,i,p=>lkN m k (SetTable.leap m i p).1 (SetTable.leap m i p).2
theorem b3w(m:Nat):∀ a b i p,lkN m (a+b) i p=lkN m b (lkN m a i p).1 (lkN m a i p).2
 | 0,b,i,p=>by rw[Nat.zero_add];rfl
 | a+1,b,i,p=>by rw[show a+1+b=(a+b)+1 by omega];exact b3w m a b _ _
theorem lkN_p(m:Nat):∀ k i p,(lkN m k i p).2=p / 32^k
 | 0,i,p=>by simp[lkN]
 | k+1,i,p=>by
   show (lkN m k _ (p / 32)).2=_
   rw[lkN_p m k,Nat.div_div_eq_div_mul,Nat.pow_succ,Nat.mul_comm]
theorem lkN_0(m:Nat):∀ k i,lkN m k i 0=(lpN m k i,0)
 | 0,i=>rfl
 | k+1,i=>by
   show lkN m k ((i*5+1+0 / 32) % (m+1)) (0 / 32)=_
   rw[show (0:Nat) / 32=0 by rfl,lkN_0 m k];rfl
theorem lkN_le(m:Nat){i p:Nat}(h:i≤m):∀ k,(lkN m k i p).1≤m:=by
 intro k
 induction k generalizing i p with
 | zero=>exact h
 | succ k ih=>exact ih (Nat.le_of_lt_succ (b8b _ (Nat.succ_pos m)))
theorem visits{m:Nat}(hm:MkOk m){i p y:Nat}(hi:i≤m)(hp:p<2^64)(hy:y≤m):∃ k,k≤m+13∧(lkN m k i p).1=y:=by
 obtain⟨r,h1,h2⟩:=reach hm (lkN_le m hi (p:=p) 13) hy
 refine⟨13+r,by omega,?_⟩
 have e:(lkN m 13 i p).2=0:=by
   rw[lkN_p]
   exact Nat.div_eq_of_lt (b5v hp (by decide))
 rw[b3w,e,lkN_0]
 exact h2
theorem b4x(h:Int):SetTable.bits h<2^64:=by
 unfold SetTable.bits
 have h1:=b6r h (show (0:Int)<2^64 by decide)
 have h2:=b6q h (show (2^64:Int)≠0 by decide)
 omega
theorem a5i(m i:Nat):i≤SetTable.runEnd m i∧SetTable.runEnd m i≤i+9:=by
 unfold SetTable.runEnd
 split<;>omega
theorem free_ok{m:Nat}{owner:Array (Option Nat)}{y:Nat}(hy:(owner.getD y (some 0)).isNone=true):∀ (k fuel i p:Nat),k<fuel→(lkN m k i p).1=y→∃ j,SetTable.layClean.free m owner fuel i p=some j∧(owner.getD j (some 0)).isNone=true:=by
 intro k
 induction k with
 | zero=>
   intro fuel i p hf e
   obtain⟨fuel,rfl⟩ : ∃ f,fuel=f+1:=⟨fuel - 1,by omega⟩
   have e':i=y:=e
   subst e'
   unfold SetTable.layClean.free
   cases q:(b7l (SetTable.runEnd m i+1 - i)).find? fun k=>(owner.getD (i+k) (some 0)).isNone with
   | some k=>exact⟨_,rfl,by have:=List.find?_some q;exact this⟩
   | none=>
     have:=List.find?_eq_none.mp q 0 (by have:=(a5i m i).1;simp;omega)
     rw[Nat.add_zero] at this
     exact absurd hy this
 | succ k ih=>
   intro fuel i p hf e
   obtain⟨fuel,rfl⟩ : ∃ f,fuel=f+1:=⟨fuel - 1,by omega⟩
   unfold SetTable.layClean.free
   cases q:(b7l (SetTable.runEnd m i+1 - i)).find? fun k=>(owner.getD (i+k) (some 0)).isNone with
   | some k=>exact⟨_,rfl,by have:=List.find?_some q;exact this⟩
   | none=>exact ih fuel _ _ (by omega) e
theorem fm_set{l:List (Option Nat)}:∀ {j:Nat} (k:Nat),l[j]?=some none→((l.set j (some k)).filterMap id).length=(l.filterMap id).length+1∧∀ x∈(l.set j (some k)).filterMap id,x=k∨x∈l.filterMap id:=by
 induction l with
 | nil=>intro j k h;simp at h
 | cons a l ih=>
   intro j k h
   cases j with
   | zero=>
     simp only[List.getElem?_cons_zero,b6l.injEq] at h
     subst h
     simp[List.set]
   | succ j=>
     simp only[List.getElem?_cons_succ] at h
     obtain⟨h1,h2⟩:=ih k h
     cases a with
     | none=>simpa [List.set] using ⟨h1,fun x=>by simpa using h2 x⟩
     | some a=>
       refine⟨by simp[List.set];simpa using h1,fun x hx=>?_⟩
       simp only[List.set,b7x,id,b6a] at hx ⊢
       rcases hx with rfl | hx
       · exact .inr (.inl rfl)
       · rcases h2 x hx with h | h
         · exact .inl h
         · exact .inr (.inr h)
theorem b4j:∀ {l:List (Option Nat)},(l.filterMap id).length<l.length→∃ y,y<l.length∧l[y]?=some none
 | none::l,h=>⟨0,by simp,rfl⟩
 | some a::l,h=>by
   simp only[b7x,id,b6c] at h
   obtain⟨y,h1,h2⟩:=b4j (l:=l) (by omega)
   exact⟨y+1,by simp;omega,by simpa using h2⟩
structure LayI(m k:Nat)(o:Array (Option Nat)):Prop where
 sz:o.size=m+1
 cnt:(o.toList.filterMap id).length=k
 lt:∀ x∈o.toList.filterMap id,x<k
theorem b3x{m k:Nat}(hm:MkOk m){o:Array (Option Nat)}(h:LayI m k o)(hk:k≤m)(hs:Int):∃ j,SetTable.layClean.free m o (SetTable.turns m) (SetTable.bits hs % (m+1)) (SetTable.bits hs)=some j∧LayI m (k+1) (o.setIfInBounds j (some k)):=by
 have hsz:=h.sz
 obtain⟨y,h1,h2⟩:=b4j (l:=o.toList) (by rw[h.cnt,b6f];omega)
 rw[b6f] at h1
 have g:∀ y,(o.getD y (some 0)).isNone=true↔o.toList[y]?=some none:=fun y=>by
   rw[b7q,b7d]
   cases q:o[y]? with
   | none=>simp
   | some v=>cases v<;>simp
 obtain⟨kk,hk1,hk2⟩:=visits hm (i:=SetTable.bits hs % (m+1)) (p:=SetTable.bits hs) (y:=y) (Nat.le_of_lt_succ (b8b _ (Nat.succ_pos m))) (b4x hs) (by omega)
 obtain⟨j,e,hj⟩:=free_ok (m:=m) ((g y).mpr h2) kk (SetTable.turns m) _ _ (by unfold SetTable.turns;omega) hk2
 have hj:=(g j).mp hj
 obtain⟨a1,a2⟩:=fm_set k hj
 refine⟨j,e,by simpa using hsz,?_,fun x hx=>?_⟩
 · rw[Array.toList_setIfInBounds,a1,h.cnt]
 · rw[Array.toList_setIfInBounds] at hx
   rcases a2 x hx with rfl | hx
   · omega
   · have:=h.lt x hx;omega
theorem a5r{m:Nat}(hm:MkOk m):∀ (hs:List Int) (k:Nat) (o:Array (Option Nat)),LayI m k o→k+hs.length≤m+1→∃ o',hs.foldl (fun acc h=>do
   let (owner,k) ← acc
   let j ← SetTable.layClean.free m owner (SetTable.turns m) (SetTable.bits h % (m+1)) (SetTable.bits h)
   pure (owner.setIfInBounds j (some k),k+1)) (some (o,k))=some (o',k+hs.length)∧LayI m (k+hs.length) o'
 | [],k,o,h,_=>⟨o,rfl,h⟩
 | x::hs,k,o,h,hk=>by
   simp only[b6c] at hk
   obtain⟨j,e,h'⟩:=b3x hm h (by omega) x
   obtain⟨o',e2,h2⟩:=a5r hm hs (k+1) _ h' (by omega)
   refine⟨o',?_,by rw[b6c,show k+(hs.length+1)=k+1+hs.length by omega];exact h2⟩
   rw[List.foldl_cons,b6c,show k+(hs.length+1)=k+1+hs.length by omega,← e2]
   congr 1
   show (SetTable.layClean.free m o _ _ _).bind _=_
   rw[e];rfl
theorem a9u{m:Nat}(hm:MkOk m){hs:Array Int}(hk:hs.size≤m):∃ o,SetTable.layClean m hs=some o∧LayI m hs.size o:=by
 obtain⟨o,e,h⟩:=a5r hm hs.toList 0 (Array.replicate (m+1) none) ⟨by simp,by simp,fun x hx=>by simp at hx⟩ (by rw[b6f];omega)
 rw[Nat.zero_add,b6f] at e h
 refine⟨o,?_,h⟩
 unfold SetTable.layClean
 rw[← Array.foldl_toList]
 erw [e];rfl
theorem getD_all(o:Array (Option Nat)):(b7l o.size).map (fun j=>o.getD j none)=o.toList:=by
 refine List.ext_getElem? fun i=>?_
 rw[b5s]
 by_cases hi:i<o.size
 · rw[List.getElem?_range hi,b5i (by simpa using hi)]
   simp[b7q,hi]
 · rw[b6p (by simpa using Nat.le_of_not_lt hi),b6p (by simpa using Nat.le_of_not_lt hi)];rfl
theorem laid_ok{m finger moves:Nat}{led plain:Bool}(hm:MkOk m){hs:Array Int}(hk:hs.size≤m):∃ t' order,SetTable.laid m finger moves led plain hs=some (t',order)∧t'.mask=m∧t'.place.size=hs.size∧t'.dummies = #[]∧t'.led=led∧t'.plain=plain∧order.size=hs.size∧∀ x∈order,x<hs.size:=by
 obtain⟨o,e,h⟩:=a9u hm hk
 have e2:((b7l (m+1)).filterMap fun j=>(o.getD j none).map (j,·)).map (·.2)=o.toList.filterMap id:=by
   rw[List.map_filterMap,← getD_all,List.filterMap_map,h.sz]
   congr 1
   funext j
   show _=o.getD j none
   cases o.getD j none<;>rfl
 have e3:((b7l (m+1)).filterMap fun j=>(o.getD j none).map (j,·)).length=hs.size:=by
   rw[← b5j (f:=(·.2)),e2,h.cnt]
 refine⟨_,_,by unfold SetTable.laid;rw[e];rfl,rfl,?_,rfl,rfl,rfl,?_,fun x hx=>?_⟩
 · simpa using e3
 · simpa using e3
 · have hx:x∈((b7l (m+1)).filterMap fun j=>(o.getD j none).map (j,·)).map (·.2):=by simpa using hx
   rw[e2] at hx
   exact h.lt x hx
structure Hit(t:SetTable)(y:Nat)(p:SetTable.Probe)(k:Nat):Prop where
 dm:p.dummy=none
 mr:p.more≤9
 at_:k=0→p.j=y
 go:0<k→(lkN t.mask k p.i p.perturb).1=y
theorem hit_adv{t:SetTable}{y:Nat}{p:SetTable.Probe}{k:Nat}(h:Hit t y p k)(hy:p.j≠y):∃ k',Hit t y (t.advance p) k'∧(t.advance p).more+10*k' < p.more+10*k:=by
 have hk:0<k:=Nat.pos_of_ne_zero fun e=>hy (h.at_ e)
 have hg:=h.go hk
 unfold SetTable.advance
 by_cases hm:p.more > 0
 · rw[if_pos hm]
   exact⟨k,⟨h.dm,by have:=h.mr;show p.more - 1≤9;omega,fun e=>by omega,fun _=>hg⟩,by show p.more - 1+10*k<_;omega⟩
 · rw[if_neg hm]
   obtain⟨k,rfl⟩ : ∃ k',k=k' + 1:=⟨k - 1,by omega⟩
   have r:=a5i t.mask (SetTable.leap t.mask p.i p.perturb).1
   refine⟨k,⟨h.dm,?_,fun e=>?_,fun _=>hg⟩,?_⟩
   · show SetTable.runEnd t.mask (SetTable.leap t.mask p.i p.perturb).1 - (SetTable.leap t.mask p.i p.perturb).1≤9
     omega
   · subst e;exact hg
   · show SetTable.runEnd t.mask (SetTable.leap t.mask p.i p.perturb).1 - (SetTable.leap t.mask p.i p.perturb).1+10*k<_
     omega
theorem a8a{t:SetTable}(hd:t.dummies = #[])(j:Nat):t.slot j≠.dummy:=by
 unfold SetTable.slot SetTable.has
 rw[hd]
 dsimp only
 split
 · intro h;cases h
 · simp
theorem probe_go{t:SetTable}(hd:t.dummies = #[]){y:Nat}(hy:t.slot y=.empty)(at_:Nat→Int)(h:Int):∀ (fuel:Nat) (p:SetTable.Probe) (k:Nat),Hit t y p k→p.more+10*k<fuel→
   (∃ j,SetTable.probe.go t at_ h fuel p=some (.empty j none))∨
   ∃ j i nx k',SetTable.probe.go t at_ h fuel p=some (.candidate j i nx)∧t.slot j=.live i∧Hit t y nx k'∧nx.more+10*k' < p.more+10*k:=by
 intro fuel
 induction fuel with
 | zero=>intro p k _ hf;omega
 | succ fuel ih=>
   intro p k H hf
   unfold SetTable.probe.go
   cases q:t.slot p.j with
   | empty=>exact .inl ⟨p.j,by rw[H.dm]⟩
   | dummy=>exact absurd q (a8a hd _)
   | live i=>
     obtain⟨k',H',hl⟩:=hit_adv H fun e=>by rw[e,hy] at q;cases q
     dsimp only
     by_cases e:(at_ i == h)=true
     · rw[if_pos e]
       exact .inr ⟨_,_,_,k',rfl,q,H',hl⟩
     · rw[if_neg e]
       rcases ih _ k' H' (by omega) with h1 | ⟨j,i,nx,k2,h1,h2,h3,h4⟩
       · exact .inl h1
       · exact .inr ⟨j,i,nx,k2,h1,h2,h3,by omega⟩
theorem pig:∀ (n:Nat) (l:List Nat),(∀ y,y<n→y∈l)→n≤l.length
 | 0,l,_=>b7b _
 | n+1,l,h=>by
   have:=pig n (l.erase n) fun y hy=>(List.mem_erase_of_ne (by omega)).mpr (h y (by omega))
   rw[List.length_erase_of_mem (h n (by omega))] at this
   have:=List.length_pos_of_mem (h n (by omega))
   omega
theorem b4g{t:SetTable}(hd:t.dummies = #[])(hp:t.place.size≤t.mask):∃ y,y≤t.mask∧t.slot y=.empty:=by
 obtain⟨y,h1,h2⟩ : ∃ y,y≤t.mask∧y∉t.place.toList:=by
   refine Classical.byContradiction fun c=>?_
   have c:∀ y,y≤t.mask→y∈t.place.toList:=fun y hy=>Classical.byContradiction fun z=>c ⟨y,hy,z⟩
   have:=pig (t.mask+1) t.place.toList fun y hy=>c y (by omega)
   rw[b6f] at this
   omega
 refine⟨y,h1,?_⟩
 unfold SetTable.slot SetTable.has
 rw[hd]
 dsimp only
 rw[if_neg]
 · simp
 · intro e
   have e:t.place[SetTable.below t.place y]?=some y:=by simpa using e
   exact h2 (by have:=Array.mem_of_getElem? e;simpa using this)
theorem b2n{t:SetTable}(hm:MkOk t.mask){y:Nat}(hy:y≤t.mask)(h:Int):∃ k,Hit t y (t.probeStart h) k∧(t.probeStart h).more+10*k<10*SetTable.turns t.mask:=by
 obtain⟨k,h1,h2⟩:=visits hm (i:=SetTable.bits h % (t.mask+1)) (p:=SetTable.bits h) (Nat.le_of_lt_succ (b8b _ (Nat.succ_pos _))) (b4x h) hy
 have r:=a5i t.mask (SetTable.bits h % (t.mask+1))
 refine⟨k,⟨rfl,?_,fun e=>by subst e;exact h2,fun _=>h2⟩,?_⟩
 · show SetTable.runEnd t.mask (SetTable.bits h % (t.mask+1)) - SetTable.bits h % (t.mask+1)≤9
   omega
 · show SetTable.runEnd t.mask (SetTable.bits h % (t.mask+1)) - SetTable.bits h % (t.mask+1)+10*k<_
   unfold SetTable.turns
   omega
end Cv
namespace Cv
open PySem PySem.Spec PyProof.Rows L2
section
variable {prog:Program} {w:World} {A:Around} {E:Value→Shared→Prop} {s:Shared}
theorem pr_eqv(x y:Pl):PyData.eqv (.tuple [.int x.1,.int x.2]) (.tuple [.int y.1,.int y.2])=decide (x=y):=by
 have h:=PySem.W.kqd_eqv 8 (.tuple [.int x.1,.int x.2]) (.tuple [.int y.1,.int y.2]) 8 (by simp[b5q]) (by simp[b5q])
 refine b7u.mpr (Iff.trans ?_ (decide_eq_true_iff).symm)
 refine Iff.trans (show _↔_ from h) ?_
 constructor
 · intro e
   simp only[b7e.tuple.injEq,List.cons.injEq,b7e.int.injEq,and_true] at e
   exact Prod.ext e.1 e.2
 · rintro rfl;rfl
theorem b3d(x:Pl):PyData.canLay0 (.tuple [.int x.1,.int x.2])=true∧PyData.depth (.tuple [.int x.1,.int x.2])≤8:=
 PySem.W.kqd_lay 8 (.tuple [.int x.1,.int x.2]) (by simp[b5q])
theorem IsPr.reads{h:Heap}{k:Pl}{a:Addr}(x:IsPr h k a):∃ as,Reads h (.ref a) (.tuple [.int k.1,.int k.2]) as:=by
 obtain⟨o2,t,u,n2,e2,c2,d2⟩:=x
 exact⟨_,.tuple e2 c2 d2 (.cons (.int _ _) (.cons (.int _ _) .nil))⟩
theorem IsPr.ty{p:Pl}{a:Addr}(x:IsPr s.heap p a):s.TypeIs (.ref a) "tuple":=by
 obtain⟨o,t,u,n,e1,c1,_⟩:=x;exact⟨o,e1,c1⟩
theorem pr_eq{x y:Pl}{a b:Addr}{Q:Bool→Shared→Prop}(hu:A.units+8<cLine)(hx:IsPr s.heap x a)(hy:IsPr s.heap y b)(h:Q (decide (x=y)) s):wpAny (model prog w) A (PySem.eqBool (.ref a) (.ref b)) Q E s:=by
 unfold PySem.eqBool
 refine wpAny_holding ?_
 by_cases e:a=b
 · subst e
   rw[if_pos (by simp)]
   refine wpAny_bind (wpAny_rule (wpAny_pure ?_))
   rw[decide_eq_true (hx.inj hy)] at h
   exact h
 · rw[if_neg (by simpa using e)]
   obtain⟨as,ra⟩:=hx.reads
   obtain⟨bs,rb⟩:=hy.reads
   show wpAny (model prog w) A (richCompare .Eq (.ref a) (.ref b) >>= truthOfDropped) Q E s
   refine wpAny_bind ?_
   refine SeqAt.compareEq_reads (prog:=prog) (w:=w) (A:=A) (E:=E) (s:=s) ra rb (b3d x).1 (b3d y).1 (by have:=(b3d x).2;omega) ?_
   rw[pr_eqv]
   repeat (any_goals (first | assumption | wp_step))
theorem pr_cls{p:Pl}{a:Addr}{n:Nat}{Q:Bool→Shared→Prop}(hk:IsPr s.heap p a)(h:Q false s):wpAny (model prog w) A (ofAClassStatement (n+1) (.ref a)) Q E s:=by
 have hT:=hk.ty
 obtain⟨⟨oc,od,odt,osl⟩,t,u,m,e1,rfl,rfl⟩:=hk
 unfold ofAClassStatement
 refine wpAny_bind (wpAny_typeOf hT ?_)
 dsimp only
 rw[if_pos (by rfl)]
 refine wpAny_bind (wpAny_pure ?_)
 rw[if_neg (by simp)]
 refine wpAny_bind (wpAny_bind (wpAny_load e1 ?_))
 refine wpAny_pure ?_
 dsimp only
 rw[← Array.forIn_toList]
 simp only[b7t,List.forIn_nil]
 have q:∀ (x:Int) (t:Tok),ofAClassStatement n (.int x t)=pure false:=fun x t=>by cases n<;>rfl
 simp only[q]
 repeat (any_goals (first | assumption | wp_step))
end
end Cv
namespace Cv
open PySem PySem.Spec PyProof.Rows L2
structure PSt(w:World)(es:Array (Int×Value))(t:SetTable)(In:Value→Prop)(k:Nat):Prop where
 pl:t.place.size=es.size
 dm:t.dummies = #[]
 msk:MkOk t.mask
 room:5*es.size<3*t.mask
 plain:t.plain=true
 led:t.led = !w.params.followText "set-order"
 mem:∀ e∈es.toList,In e.2
 le:es.size≤k
section
variable {prog:Program} {w:World} {A:Around} {E:Value→Shared→Prop} {s:Shared}
theorem mk_le{m:Nat}(h:MkOk m):m≤127∧m % 2=1:=by rcases h with rfl | rfl | rfl<;>decide
theorem PSt.fits{es:Array (Int×Value)}{t:SetTable}{In:Value→Prop}{k:Nat}(h:PSt w es t In k):t.fits es.size=true:=by
 unfold SetTable.fits SetTable.fill
 rw[h.pl,h.dm]
 have:=h.room
 simp
 omega
theorem seen_not{x:Addr}{p:Pl}(hx:IsPr s.heap p x)(ys:List Value){Q:Bool→Shared→Prop}(hy:∀ y∈ys,∃ b q,y=.ref b∧IsPr s.heap q b)(hq:Q false s):wpAny (model prog w) A (searchCouldBeSeen (.ref x) ys) Q E s:=by
 unfold searchCouldBeSeen
 refine wpAny_bind ?_
 induction ys with
 | nil=>exact wpAny_pure (wpAny_pure hq)
 | cons y ys ih=>
   obtain⟨b,q,rfl,hb⟩:=hy y (by simp)
   have ih:=ih fun y h=>hy y (b6j _ h)
   rw[b7t]
   dsimp only
   refine wpAny_bind ?_
   by_cases e:(x == b)=true
   · rw[e,if_pos (by rfl)]
     exact wpAny_pure ih
   · rw[if_neg (by simp only[carriedByValue,Bool.and_false,Bool.or_false,Bool.false_and];exact e)]
     refine wpAny_bind (b0p hx ?_)
     rw[if_neg (by simp)]
     refine wpAny_bind (b0p hb ?_)
     rw[if_neg (by simp)]
     refine wpAny_bind (pr_cls hx ?_)
     rw[if_neg (by simp)]
     refine wpAny_bind (pr_cls hb ?_)
     rw[if_neg (by simp)]
     exact wpAny_pure ih
theorem probe_is{t:SetTable}(hd:t.dummies = #[]){y:Nat}(hy:t.slot y=.empty){at_:Nat→Int}{h:Int}{p:SetTable.Probe}{m:Option SetTable.Met}(e:t.probe at_ h p=m){k:Nat}(H:Hit t y p k)(hf:p.more+10*k<10*SetTable.turns t.mask) :
   (∃ j,m=some (.empty j none))∨∃ j i nx k',m=some (.candidate j i nx)∧t.slot j=.live i∧Hit t y nx k'∧nx.more+10*k' < p.more+10*k:=by
 rw[← e]
 exact probe_go hd hy at_ h _ p k H hf
theorem b2r{t:SetTable}{j i:Nat}(h:t.slot j=.live i):i<t.place.size:=by
 unfold SetTable.slot at h
 dsimp only at h
 split at h
 · rename_i e
   cases h
   exact (Array.getElem?_eq_some_iff.mp (by simpa using e)).1
 · split at h<;>cases h
theorem b1g{a:Addr}{o:Obj}{es:Array (Int×Value)}{ep:Nat}{t:SetTable}{In:Value→Prop}{kk:Nat}(ho:s.heap.get? a=some o)(hd:o.data=.set es ep t)(P:PSt w es t In kk)(hIn:∀ v,In v→∃ b q,v=.ref b∧IsPr s.heap q b){x:Addr}{p:Pl}(hx:IsPr s.heap p x)(hu:A.units+8<cLine)(h:Int){y:Nat}(hy:t.slot y=.empty){Q:SetFound→Shared→Prop}(q1:Q (.there none) s)(q2:∀ j,Q (.free j false) s) :
   ∀ (fuel:Nat) (stand:Option SetTable.Probe) (k:Nat),Hit t y (stand.getD (t.probeStart h)) k→(stand.getD (t.probeStart h)).more+10*k<10*SetTable.turns t.mask→(stand.getD (t.probeStart h)).more+10*k<fuel→
     wpAny (model prog w) A (setSearchFrom a (.ref x) h true fuel stand) Q E s:=by
 intro fuel
 induction fuel with
 | zero=>intro stand k _ _ hf;omega
 | succ fuel ih=>
   intro stand k H h1 hf
   unfold setSearchFrom
   refine wpAny_bind (wpAny_setState_of ho hd P.fits ?_)
   dsimp only
   rw[if_neg (by unfold SetTable.gaveWay;have:=(mk_le P.msk).2;simp;omega)]
   generalize e:SetTable.probe t _ h _=m
   rcases probe_is P.dm hy e H h1 with⟨j,rfl⟩ | ⟨j,i,nx,k',rfl,hl,H',hlt⟩
   · exact wpAny_pure (q2 j)
   · dsimp only
     have hi:i<es.size:=by rw[← P.pl];exact b2r hl
     have hes:es[i]?=some es[i]:=b8f hi
     obtain⟨b,r,eb,hb⟩:=hIn es[i].2 (P.mem _ (by simp))
     by_cases hL:t.led=true
     · rw[if_neg (by simp[hL])]
       rw[hes]
       dsimp only
       rw[eb]
       refine wpAny_bind (wpAny_holding (pr_eq hu hb hx ?_))
       refine wpAny_bind (wpAny_setState_of ho hd P.fits ?_)
       dsimp only
       by_cases ee:r=p
       · rw[if_pos (by simp[ee])]
         exact wpAny_pure q1
       · rw[if_neg (by simp[ee]),show t.sameMemory t.moves t.mask=some true by simp[SetTable.sameMemory]]
         dsimp only
         rw[if_pos rfl,hl]
         dsimp only
         rw[hes]
         dsimp only
         rw[eb]
         refine wpAny_bind ?_
         unfold isSame
         dsimp only
         rw[if_pos (by simp)]
         refine wpAny_pure ?_
         rw[if_pos rfl]
         refine wpAny_bind (wpAny_pure ?_)
         dsimp only
         rw[if_neg (by simp[ee])]
         exact ih (some nx) k' H' (by simp only[b8h];omega) (by simp only[b8h];omega)
     · rw[if_pos (by simp[hL])]
       refine wpAny_bind (seen_not hx _ (fun y hy=>?_) ?_)
       · obtain⟨e,he,rfl⟩:=b8c.mp hy
         exact hIn _ (P.mem e (by simp at he;simpa using he.1))
       rw[if_neg (by simp)]
       rw[hes]
       dsimp only
       rw[eb]
       refine wpAny_bind (wpAny_holding (pr_eq hu hb hx ?_))
       refine wpAny_bind (wpAny_setState_of ho hd P.fits ?_)
       dsimp only
       by_cases ee:r=p
       · rw[if_pos (by simp[ee])]
         exact wpAny_pure q1
       · rw[if_neg (by simp[ee]),show t.sameMemory t.moves t.mask=some true by simp[SetTable.sameMemory]]
         dsimp only
         rw[if_pos rfl,hl]
         dsimp only
         rw[hes]
         dsimp only
         rw[eb]
         refine wpAny_bind ?_
         unfold isSame
         dsimp only
         rw[if_pos (by simp)]
         refine wpAny_pure ?_
         rw[if_pos rfl]
         refine wpAny_bind (wpAny_pure ?_)
         dsimp only
         rw[if_neg (by simp[ee])]
         exact ih (some nx) k' H' (by simp only[b8h];omega) (by simp only[b8h];omega)
end
end Cv
namespace Cv
open PySem PySem.Spec PyProof.Rows L2
section
variable {prog:Program} {w:World} {A:Around} {E:Value→Shared→Prop} {s:Shared}
theorem hash_val{p:Pl}{a:Addr}{n:Nat}{Q:Bool→Shared→Prop}(hk:IsPr s.heap p a)(h:Q true s):wpAny (model prog w) A (hashByValue (n+1) (.ref a)) Q E s:=by
 have hT:=hk.ty
 have l1:=F.slot_tuple_hash.lookup
 obtain⟨⟨oc,od,odt,osl⟩,t,u,m,e1,rfl,rfl⟩:=hk
 unfold hashByValue
 refine wpAny_bind (wpAny_specialOf hT l1 ?_)
 dsimp only
 refine wpAny_bind (wpAny_bind (wpAny_load e1 ?_))
 refine wpAny_pure ?_
 dsimp only[b8h]
 rw[← Array.forIn_toList]
 simp only[b7t,List.forIn_nil]
 have q:∀ (x:Int) (t:Tok),hashByValue n (.int x t)=pure true:=fun x t=>by cases n<;>rfl
 simp only[q]
 repeat (any_goals (first | assumption | wp_step))
theorem a3o{α:Type}(xs:Array α)(p:Nat)(x:α):(SetTable.insertAt xs p x).size=xs.size+1:=by
 have:=(SetTable.insertAt_perm xs p x).length_eq
 simpa using this
theorem put_is{t:SetTable}(hd:t.dummies = #[])(j:Nat):(t.put j).1={ t with place:=SetTable.insertAt t.place (SetTable.below t.place j) j }:=by
 unfold SetTable.put
 dsimp only
 rw[if_neg (by unfold SetTable.has;rw[hd];simp),hd]
theorem b4i{es:Array (Int×Value)}:∀ {l:List Nat},(∀ x∈l,x<es.size)→(l.filterMap (es[·]?)).length=l.length∧∀ e∈l.filterMap (es[·]?),e∈es.toList
 | [],_=>⟨rfl,fun e h=>by simp at h⟩
 | x::l,h=>by
   have hx:x<es.size:=h x (by simp)
   obtain⟨h1,h2⟩:=b4i (l:=l) fun y hy=>h y (b6j _ hy)
   rw[List.filterMap_cons_some (b:=es[x]) (by simp[hx])]
   refine⟨by simp[h1],fun e he=>?_⟩
   rcases b6a.mp he with rfl | he
   · simp
   · exact h2 e he
def PsAt(w:World)(h:Heap)(a:Addr)(In:Value→Prop)(k:Nat):Prop:=∃ es ep t,h.get? a=some { cls:=.type "set",dict:=none,data:=.set es ep t }∧PSt w es t In k
theorem relay_ok{a:Addr}{es:Array (Int×Value)}{ep:Nat}{t:SetTable}{In:Value→Prop}{k wanted:Nat}{Q:Unit→Shared→Prop}(ho:s.heap.get? a=some { cls:=.type "set",dict:=none,data:=.set es ep t })(h1:t.place.size=es.size)(h2:t.dummies = #[])(h3:es.size≤t.mask)(h4:t.plain=true)(h5:t.led = !w.params.followText "set-order")(h6:∀ e∈es.toList,In e.2)(h7:es.size≤k)(hw:SetTable.sizeAbove wanted≤sizeLine)(hm:MkOk (SetTable.sizeAbove wanted - 1))(hr:5*es.size<3*(SetTable.sizeAbove wanted - 1))(hz:es.size≤sizeLine)(q:∀ h',Heap.SameBut a s.heap h'→PsAt w h' a In k→Q () { s with heap:=h' }):wpAny (model prog w) A (setRelay a wanted) Q E s:=by
 unfold setRelay
 refine wpAny_bind (wpAny_setState_of ho rfl (by unfold SetTable.fits SetTable.fill;rw[h1,h2];simp;omega) ?_)
 dsimp only
 rw[if_neg (by omega)]
 obtain⟨t',order,e1,e2,e3,e4,e5,e6,e7,e8⟩:=laid_ok (finger:=t.finger) (moves:=t.movedTo (SetTable.sizeAbove wanted - 1)) (led:=t.led) (plain:=t.plain) hm (hs:=es.map (·.1)) (by rw[b8k];omega)
 rw[show t.relaid (es.map (·.1)) wanted=some (t',order) from e1]
 obtain⟨f1,f2⟩:=b4i (es:=es) (l:=order.toList) fun x hx=>by have:=e8 x (by simpa using hx);rwa [b8k] at this
 rw[b8k] at e3 e7
 have f3:(order.filterMap (es[·]?)).size=es.size:=by rw[← e7,← b6f,Array.toList_filterMap,f1,b6f]
 refine wpAny_bind ?_
 show wpAny _ _ (if ((order.filterMap (es[·]?)).size != es.size)=true then _ else _) _ _ _
 rw[if_neg (by simp[f3])]
 refine wpAny_pure ?_
 dsimp only
 refine wpAny_storeSet_of ho rfl ?_ (by rw[f3];exact hz)
 refine q _ ⟨Heap.size_after_update _ _ _,fun b hb=>Heap.get?_update_other _ _ (Ne.symm hb)⟩ ⟨_,_,_,Heap.get?_update_self _ ho rfl,⟨by rw[e3,f3],e4,by rw[e2];exact hm,by rw[f3,e2];exact hr,by rw[e6];exact h4,by rw[e5];exact h5,fun e he=>h6 e (f2 e (by rw[Array.toList_filterMap] at he;exact he)),by rw[f3];exact h7⟩⟩
theorem grow_ok{m n:Nat}(h:MkOk m)(h1:5*n<3*m)(h2:¬ 5*(n+1)<3*m)(h3:n<70):MkOk (SetTable.sizeAbove (SetTable.grown (n+1)) - 1)∧5*(n+1)<3*(SetTable.sizeAbove (SetTable.grown (n+1)) - 1)∧SetTable.sizeAbove (SetTable.grown (n+1))≤1000:=by
 rcases h with rfl | rfl | rfl
 · obtain rfl:n=4:=by omega
   exact⟨.inr (.inl (by decide)),by decide,by decide⟩
 · obtain rfl:n=18:=by omega
   exact⟨.inr (.inr (by decide)),by decide,by decide⟩
 · omega
theorem a8c:1000≤sizeLine:=by decide +kernel
theorem b2a{a x:Addr}{p:Pl}{In:Value→Prop}{k:Nat}{hs:Int}{Q:Bool→Shared→Prop}(hu:A.units+8<cLine)(hP:PsAt w s.heap a In k)(hk:k<70)(hIn:∀ v,In v→∃ b q,v=.ref b∧IsPr s.heap q b)(hx:IsPr s.heap p x)(hIx:In (.ref x))(hne:x≠a)(q:∀ b h',Heap.SameBut a s.heap h'→PsAt w h' a In (k+1)→Q b { s with heap:=h' }):wpAny (model prog w) A (setAddHashed a (.ref x) hs) Q E s:=by
 obtain⟨es,ep,t,ho,P⟩:=hP
 have sl:=a8c
 have hle:=P.le
 have hroom:=P.room
 have hmk:=(mk_le P.msk).1
 unfold setAddHashed
 refine wpAny_holding ?_
 rw[show (100000:Nat)=99999+1 from rfl]
 unfold setAddHashedIn
 refine wpAny_bind (wpAny_setState_of ho rfl P.fits ?_)
 dsimp only
 rw[if_neg (by simp[byScan,Value.scannable])]
 obtain⟨y,hy1,hy2⟩:=b4g P.dm (by rw[P.pl];omega)
 obtain⟨kk,H,hH⟩:=b2n P.msk hy1 hs
 refine wpAny_bind ?_
 unfold setSearch
 refine b1g ho rfl P hIn hx hu hs hy2 (q1:=?_) (q2:=fun j=>?_) 100000 none kk H hH (by unfold SetTable.turns at hH;simp only[b8h];omega)
 · dsimp only
   refine wpAny_pure ?_
   refine q false s.heap ⟨rfl,fun _ _=>rfl⟩ ⟨es,ep,t,ho,{ P with le:=by omega }⟩
 · dsimp only
   refine wpAny_bind (wpAny_setState_of ho rfl P.fits ?_)
   dsimp only
   have hpl:=put_is P.dm j
   generalize t.put j=r at hpl
   obtain⟨t1,pp⟩:=r
   dsimp only at hpl ⊢
   subst hpl
   dsimp only
   rw[if_pos P.plain]
   refine wpAny_bind (hash_val hx ?_)
   rw[if_pos rfl]
   refine wpAny_bind (wpAny_storeSet_of ho rfl ?_ (by rw[a3o];omega))
   have ho1:=Heap.get?_update_self (Obj.putSet (SetTable.insertAt es pp (hs,.ref x)) { t with place:=SetTable.insertAt t.place (SetTable.below t.place j) j }) ho rfl
   have hsb:Heap.SameBut a s.heap (s.heap.update a (Obj.putSet (SetTable.insertAt es pp (hs,.ref x)) { t with place:=SetTable.insertAt t.place (SetTable.below t.place j) j })):=⟨Heap.size_after_update _ _ _,fun b hb=>Heap.get?_update_other _ _ (Ne.symm hb)⟩
   have hmem:∀ e∈(SetTable.insertAt es pp (hs,Value.ref x)).toList,In e.2:=fun e he=>by
     have:=(SetTable.insertAt_perm es pp (hs,Value.ref x)).mem_iff.mp he
     rw[Array.toList_push,b6n] at this
     rcases this with h | h
     · exact P.mem e h
     · rw[b6d.mp h];exact hIx
   generalize s.heap.update a (Obj.putSet (SetTable.insertAt es pp (hs,.ref x)) { t with place:=SetTable.insertAt t.place (SetTable.below t.place j) j })=h1 at *
   have hsz:=a3o es pp (hs,Value.ref x)
   have hps:(SetTable.insertAt t.place (SetTable.below t.place j) j).size=es.size+1:=by rw[a3o,P.pl]
   by_cases hf:5*(es.size+1)<3*t.mask
   · rw[if_neg (by unfold SetTable.tooFull SetTable.fill;rw[hps,P.dm];simp;omega)]
     exact wpAny_pure (q true h1 hsb ⟨_,_,_,ho1,⟨by rw[hsz];exact hps,P.dm,P.msk,by rw[hsz];exact hf,P.plain,P.led,hmem,by rw[hsz];omega⟩⟩)
   · rw[if_pos (by unfold SetTable.tooFull SetTable.fill;rw[hps,P.dm];simp;omega)]
     obtain⟨g1,g2,g3⟩:=grow_ok P.msk P.room hf (by omega)
     refine wpAny_bind (relay_ok (s:={ s with heap:=h1 }) (k:=k+1) (In:=In) ho1 (by rw[hsz];exact hps) P.dm (by show _≤t.mask;omega) P.plain P.led hmem (by omega) (by omega) g1 (by omega) (by omega) fun h' hb' hP'=>?_)
     exact wpAny_pure (q true h' ⟨hb'.1.trans hsb.1,fun b hb=>(hb'.2 b hb).trans (hsb.2 b hb)⟩ hP')
theorem add_pair{a x:Addr}{p:Pl}{In:Value→Prop}{k:Nat}{Q:Bool→Shared→Prop}(hu:A.units+8<cLine)(hP:PsAt w s.heap a In k)(hk:k<70)(hIn:∀ v,In v→∃ b q,v=.ref b∧IsPr s.heap q b)(hx:IsPr s.heap p x)(hIx:In (.ref x))(hne:x≠a)(q:∀ b h',Heap.SameBut a s.heap h'→PsAt w h' a In (k+1)→Q b { s with heap:=h',toks:=s.toks+3 }):wpAny (model prog w) A (setAdd a (.ref x)) Q E s:=by
 unfold setAdd
 refine wpAny_holding ?_
 refine wpAny_bind (wpAny_pyHash_tuple (knd:=intKind prog w) (by omega) hx.key ?_)
 exact b2a (s:={ s with toks:=s.toks+3 }) hu hP hk hIn hx hIx hne fun b h' h1 h2=>q b h' h1 h2
end
end Cv
namespace Cv
open PySem PySem.Spec PyProof.Rows L2
section
variable {prog:Program} {w:World} {A:Around} {E:Value→Shared→Prop} {s:Shared}
theorem PsAt.at'{h h':Heap}{a:Addr}{In:Value→Prop}{k:Nat}(x:PsAt w h a In k)(e:∀ o,h.get? a=some o→h'.get? a=some o):PsAt w h' a In k:=by
 obtain⟨es,ep,t,h1,h2⟩:=x
 exact⟨es,ep,t,e _ h1,h2⟩
theorem IsPr.at'{h h':Heap}{p:Pl}{a:Addr}(x:IsPr h p a)(e:∀ o,h.get? a=some o→h'.get? a=some o):IsPr h' p a:=by
 obtain⟨o,t,u,n,h1,h2⟩:=x
 exact⟨o,t,u,n,e _ h1,h2⟩
theorem set_loop{R:Result→Shared→Prop}{I l S:Addr}{vs:List Value}(hh:A.in1.handled=none)(hu:A.in1.units+8<cLine)(hlI:l≠I)(hSI:S≠I)(hSl:S≠l)(hn:vs.length≤70){In:Value→Prop}(hm:∀ v∈vs,In v)(hInI:¬ In (.ref I))(hInS:¬ In (.ref S)) :
   ∀ (k i:Nat) (s:Shared),vs.length - i=k→i≤vs.length→s.heap.IsListIter I l i→s.heap.IsList l vs.toArray→(∀ v,In v→∃ b q,v=.ref b∧IsPr s.heap q b)→PsAt w s.heap S In i→
     (∀ h' tk,(∀ b o,b≠S→b≠I→s.heap.get? b=some o→h'.get? b=some o)→PsAt w h' S In vs.length→R (.ok (.ret .none)) { s with heap:=h',toks:=tk })→
     codeAny (model prog w) A (.builtin "set.update.loop" ⟨[.ref S,.ref I],[]⟩) R s:=by
 have W:=Walks.list (prog:=prog) (w:=w) (A:=A.in1) hh I l hlI vs.toArray
 intro k
 induction k with
 | zero=>
   intro i s hk hi st1 st2 hIn hP hR
   obtain rfl:i=vs.length:=by omega
   refine codeAny_builtin F.entry_set_update_loop ?_
   rw[Around.under_plainId F.plain_set_update_loop _]
   show wpAny _ A.in1 (pyNext (.ref I) >>= _) _ _ s
   refine wpAny_bind (W.done s _ _ (by simp;exact⟨st1,st2⟩) fun h' tk hm=>?_)
   show wpAny _ A.in1 (ret Value.none) _ _ _
   refine wpAny_pure (hR h' tk (fun b o _ hb e=>hm b o (by simpa using hb) e) (hP.at' fun o e=>hm S o (by simpa using hSI) e))
 | succ k ih=>
   intro i s hk hi st1 st2 hIn hP hR
   have hlt:i<vs.length:=by omega
   refine codeAny_builtin F.entry_set_update_loop ?_
   rw[Around.under_plainId F.plain_set_update_loop _]
   show wpAny _ A.in1 (pyNext (.ref I) >>= _) _ _ s
   refine wpAny_bind (W.item i s _ _ (by simpa using hlt) ⟨st1,st2⟩ fun v h' tk hv st' hm1=>?_)
   have hvm:v∈vs:=by
     have:vs[i]?=some v:=by simpa using hv
     exact b6e this
   obtain⟨x,p,rfl,hx⟩:=hIn v (hm v hvm)
   have hxI:x≠I:=fun e=>hInI (e ▸ hm _ hvm)
   have hxS:x≠S:=fun e=>hInS (e ▸ hm _ hvm)
   have kp:∀ b o,b≠I→s.heap.get? b=some o→h'.get? b=some o:=fun b o hb e=>hm1 b o (by simpa using hb) e
   have hIn1:∀ v,In v→∃ b q,v=.ref b∧IsPr h' q b:=fun v hv=>by
     obtain⟨b,q,rfl,hb⟩:=hIn v hv
     exact⟨b,q,rfl,hb.at' fun o e=>kp b o (fun e=>hInI (e ▸ hv)) e⟩
   dsimp only
   refine wpAny_bind (wpAny_holding ?_)
   refine add_pair (s:={ s with heap:=h',toks:=tk }) hu (hP.at' fun o e=>kp S o hSI e) (by omega) hIn1 (hx.at' fun o e=>kp x o hxI e) (hm _ hvm) hxS fun bb h2 sb hP2=>?_
   have kp2:∀ b o,b≠S→h'.get? b=some o→h2.get? b=some o:=fun b o hb e=>by rw[sb.2 b hb];exact e
   refine wpAny_pure ⟨plainId_quiet F.plain_set_update_loop _,ih (i+1) _ (by omega) (by omega) (st'.1.at fun o e=>kp2 I o (Ne.symm hSI) e) (st'.2.at fun o e=>kp2 l o (Ne.symm hSl) e) (fun v hv=>?_) hP2 fun h3 tk3 k3 hP3=>?_⟩
   · obtain⟨b,q,rfl,hb⟩:=hIn1 v hv
     exact⟨b,q,rfl,hb.at' fun o e=>kp2 b o (fun e=>hInS (e ▸ hv)) e⟩
   · exact hR h3 tk3 (fun b o h1 h2 e=>k3 b o h1 h2 (kp2 b o h1 (kp b o h2 e))) hP3
def nwS(w:World):Obj:={ cls:=.type "set",dict:=none,data:=.set #[] 0 (.fresh 0 0 (!w.params.followText "set-order")) }
theorem new_ps{a:Addr}{h:Heap}{In:Value→Prop}(e:h.get? a=some (nwS w)):PsAt w h a In 0:=
 ⟨#[],0,_,e,⟨rfl,rfl,.inl rfl,by show 5*0<3*7;decide,rfl,rfl,fun e h=>by simp at h,b5n _⟩⟩
theorem new_set(v:Value){G:Value→Shared→Prop}(q:G (.ref s.heap.objs.size) { s with heap:=s.heap.push (nwS w) }) :
   codeAny (model prog w) A (.call (.builtin "set.__new__") ⟨[.type "set",v],[]⟩) (wants G E) s:=by
 refine codeAny_of_tree (show wpAny _ A.in1 (checkBuiltinCall "set.__new__" ⟨[.type "set",v],[]⟩ >>= fun _=>_) _ _ s from ?_)
 refine wpAny_bind (wpAny_of_eq (F.newCall_set_1 v) (wpAny_pure ⟨plainId_quiet F.plain_set_new _,codeAny_builtin F.entry_set_new ?_⟩))
 rw[Around.under_plainId F.plain_set_new _]
 have hs:=sub_set_self
 unfold Builtin.«set.__new__» Builtin.Frozenset.newClass
 dsimp only
 wp_walk
 refine wpAny_askSetting ?_
 refine wpAny_pure ?_
 dsimp only[newObj]
 refine wpAny_bind (wpAny_alloc ?_)
 exact wpAny_pure (wpAny_pure q)
theorem set_init{l S:Addr}{vs:List Value}{Q:Value→Shared→Prop}(hh:A.handled=none)(hu:A.units+50<cLine)(hl:s.heap.IsList l vs.toArray)(hlS:l<S)(hS:s.heap.get? S=some (nwS w))(hn:vs.length≤70)(hv:∀ v∈vs,∃ b q,v=.ref b∧b<S∧IsPr s.heap q b)(q:∀ h' tk,(∀ b o,b≠S→s.heap.get? b=some o→h'.get? b=some o)→PsAt w h' S (·∈vs) vs.length→Q .none { s with heap:=h',toks:=tk }) :
   wpAny (model prog w) A (Builtin.«set.__init__» ⟨[.ref S,.ref l],[]⟩) (fun fin s'=>∃ r,fin=.done (.ret r)∧Q r s') E s:=by
 have tS:s.TypeIs (.ref S) "set":=⟨_,hS,rfl⟩
 have hl':=hl
 have sS:=Heap.lt_size hS
 obtain⟨⟨lc,ld,ldt,lsl⟩,hol,hcl,nl,hdl⟩:=hl
 dsimp only at hcl hdl
 subst hcl hdl
 have n1:=F.sub_list_set
 have n2:=F.sub_list_frozenset
 have n3:(Value.type "list" == Value.type "dict")=false:=by decide
 unfold Builtin.«set.__init__» noKeywords Builtin.Frozenset.updateFrom
 generalize gi:pyIter=IT
 unfold nwS at hS
 wp_walk
 subst gi
 have hx:(s.heap.push { cls:=.type "list_iterator",data:=.fields #[.ref l,.int 0 0] }).IsListIter s.heap.objs.size l 0:=⟨_,Heap.get?_push_size _ rfl,rfl,rfl⟩
 refine wpAny_pyIter_list hl' ?_
 refine wpAny_bind (wpAny_runValue ?_)
 have kp:∀ b o,s.heap.get? b=some o→(s.heap.push { cls:=.type "list_iterator",data:=.fields #[.ref l,.int 0 0] }).get? b=some o:=fun b o e=>Heap.get?_push_of_some _ e
 refine set_loop (l:=l) (vs:=vs) (In:=(·∈vs)) (by show A.in1.handled=none;simpa using hh) (by show A.in1.units+8<cLine;simp;omega) (b5k (Nat.lt_trans hlS sS)) (b5k sS) (b8d hlS) hn (fun v h=>h) (fun h=>?_) (fun h=>?_) _ 0 _ rfl (b7b _) hx (hl'.at fun o e=>kp l o e) (fun v h=>?_) (new_ps (kp S _ hS)) fun h' tk k1 hP=>?_
 · obtain⟨b,q,e,h1,_⟩:=hv _ h
   cases e
   exact b7a _ (Nat.lt_trans h1 sS)
 · obtain⟨b,q,e,h1,_⟩:=hv _ h
   cases e
   exact b7a _ h1
 · obtain⟨b,q,e,h1,h2⟩:=hv _ h
   exact⟨b,q,e,h2.at' fun o e=>kp b o e⟩
 · show wpAny _ _ _ _ _ _
   refine wpAny_pure ?_
   exact wpAny_pure ⟨_,rfl,q h' tk (fun b o hb e=>k1 b o hb (b5k (Heap.lt_size e)) (kp b o e)) hP⟩
theorem b4q{l:Addr}{vs:List Value}{Q:Value→Shared→Prop}(hh:A.handled=none)(hu:A.units+60<cLine)(hl:s.heap.IsList l vs.toArray)(hn:vs.length≤70)(hv:∀ v∈vs,∃ b q,v=.ref b∧IsPr s.heap q b)(q:∀ h' tk,(∀ b o,s.heap.get? b=some o→h'.get? b=some o)→PsAt w h' s.heap.objs.size (·∈vs) vs.length→Q (.ref s.heap.objs.size) { s with heap:=h',toks:=tk }) :
   wpAny (model prog w) A (call (.type "set") [.ref l]) Q E s:=by
 have hlt:l<s.heap.objs.size:=by obtain⟨o,ho,_⟩:=hl;exact Heap.lt_size ho
 obtain⟨mc,mt,hmro⟩:=F.called_set.mro
 have hct:=F.typeCall_set_1 (.ref l)
 have h1:=F.called_set.notType
 have h2:=F.called_set.canCreate
 have h3:=F.called_set.made
 have h4:=F.called_set.sub
 refine wpAny_call (codeAny_of_tree (show wpAny _ _ (callAny (.type "set") ⟨[.ref l],[]⟩) _ _ _ from ?_))
 refine wpAny_pure ⟨Code.quiet_builtin _ (by decide +kernel),codeAny_builtin F.entry_type_call ?_⟩
 rw[Around.under_plain (weight_type_call_type "set" [.ref l] []) rfl]
 repeat (any_goals (first | assumption | wp_step))
 refine codeAny_mono (new_set (.ref l) (E:=E) (G:=fun v s1=>v=.ref s.heap.objs.size∧s1={ s with heap:=s.heap.push (nwS w) }) ⟨rfl,rfl⟩) fun r s1 hr=>?_
 cases r with
 | error e=>exact hr
 | ok fl=>
  cases fl with
  | ret v=>
   obtain⟨rfl,rfl⟩:=hr
   have kp:∀ b o,s.heap.get? b=some o→(s.heap.push (nwS w)).get? b=some o:=fun b o e=>Heap.get?_push_of_some _ e
   have hS:(s.heap.push (nwS w)).get? s.heap.objs.size=some (nwS w):=Heap.get?_push_size _ rfl
   have hT:({ s with heap:=s.heap.push (nwS w) }:Shared).TypeIs (.ref s.heap.objs.size) "set":=⟨_,hS,rfl⟩
   have li:=F.called_set.init.lookup
   have bi:=F.called_set.init.bind (.ref s.heap.objs.size)
   repeat (any_goals (first | assumption | wp_step))
   refine codeAny_mono (codeAny_call_builtin (R:=wants (fun v s2=>v=.none∧∃ h' tk,s2={ s with heap:=h',toks:=tk }∧(∀ b o,s.heap.get? b=some o→h'.get? b=some o)∧PsAt w h' s.heap.objs.size (·∈vs) vs.length) E) F.called_set.init.plain F.entry_set_init (check_set_init_1 hT ?_)) fun r2 s2 hr2=>?_
   · refine wpAny_mono (set_init (s:={ s with heap:=s.heap.push (nwS w) }) (E:=E) (Q:=fun v s2=>v=.none∧∃ h' tk,s2={ s with heap:=h',toks:=tk }∧(∀ b o,s.heap.get? b=some o→h'.get? b=some o)∧PsAt w h' s.heap.objs.size (·∈vs) vs.length) (by simpa using hh) (by simp;omega) (hl.at fun o e=>kp l o e) hlt hS hn (fun v h=>?_) fun h' tk k1 hP=>?_) (fun fin s' hf=>?_) fun e s' he=>he
     · obtain⟨b,q,e,hb⟩:=hv v h
       obtain⟨o,t,u,n,h5,_⟩:=id hb
       exact⟨b,q,e,Heap.lt_size h5,hb.at' fun o e=>kp b o e⟩
     · exact⟨rfl,h',tk,rfl,fun b o e=>k1 b o (b5k (Heap.lt_size e)) (kp b o e),hP⟩
     · obtain⟨r,rfl,hf⟩:=hf
       exact hf
   · cases r2 with
     | error e=>exact hr2
     | ok fl=>
      cases fl with
      | ret v=>
       obtain⟨rfl,h',tk,rfl,k1,hP⟩:=hr2
       repeat (any_goals (first | assumption | wp_step))
       exact q h' tk k1 hP
      | _=>exact hr2.elim
  | _=>exact hr.elim
end
end Cv
namespace Cv
open PySem PySem.Spec PyProof.Rows L2
def Rem(nx:Nat→Nat→Option (Value×Nat))(G:Value→Prop):Nat→Nat→Nat→Prop
 | 0,s,g=>nx s g=none
 | m+1,s,g=>∃ v s',nx s g=some (v,s')∧G v∧Rem nx G m s' (g+1)
def nxS(w:World)(S:Addr)(es:Array (Int×Value))(ep:Nat)(t:SetTable)(slot given:Nat):Option (Value×Nat):=
 if w.params.followText "set-order" = true then ((pickOrder (w.params.setOrder S ep) es)[given]?).map fun e=>(e.2,slot)
 else match es[SetTable.below t.place slot]?,t.place[SetTable.below t.place slot]? with
   | some (_,x),some j=>some (x,j+1)
   | _,_=>none
theorem a7s{xs:Array Nat}{j:Nat}:∀ (fuel lo hi:Nat),hi≤lo+fuel→hi≤xs.size→(∀ x,xs[hi]?=some x→j≤x)→lo≤hi→∀ x,xs[SetTable.below.go xs j fuel lo hi]?=some x→j≤x
 | 0,lo,hi,h1,_,h3,h4=>by
   obtain rfl:lo=hi:=by omega
   exact h3
 | fuel+1,lo,hi,h1,h2,h3,h4=>by
   unfold SetTable.below.go
   by_cases hl:lo<hi
   · rw[if_pos hl]
     dsimp only
     by_cases hm:xs.getD ((lo+hi) / 2) j<j
     · rw[if_pos hm]
       exact a7s fuel _ _ (by omega) h2 h3 (by omega)
     · rw[if_neg hm]
       refine a7s fuel _ _ (by omega) (by omega) (fun x hx=>?_) (by omega)
       rw[b7q,hx] at hm
       exact Nat.le_of_not_lt hm
   · rw[if_neg hl]
     obtain rfl:lo=hi:=by omega
     exact h3
theorem b1c{xs:Array Nat}{j x:Nat}(h:xs[SetTable.below xs j]?=some x):j≤x:=
 a7s xs.size 0 xs.size (by omega) (b5n _) (fun x hx=>by simp at hx) (b7b _) x h
theorem cnt_mono{l:List Nat}{s j:Nat}(h:s≤j):l.countP (· < s)≤l.countP (· < j):=List.countP_mono_left fun x _ hx=>by simp at *;omega
theorem a7r:∀ {l:List Nat} {i j s:Nat},l[i]?=some j→s≤j→l.countP (· < s)+1≤l.countP (· < j+1)
 | x::l,0,j,s,h,hs=>by
   cases h
   rw[List.countP_cons_of_neg (by simpa using hs),List.countP_cons_of_pos (by simp)]
   have:=cnt_mono (l:=l) (show s≤x+1 by omega)
   omega
 | x::l,i+1,j,s,h,hs=>by
   have:=a7r (l:=l) (by simpa using h) hs
   rw[List.countP_cons,List.countP_cons]
   have:(if decide (x<s)=true then 1 else 0)≤(if decide (x<j+1)=true then 1 else 0):=by
     split<;>split<;>simp at *<;>omega
   omega
theorem b3h{α:Type}{next:Nat→Nat}{xs:List α}:∀ (fuel k:Nat) (left:List α) (out:Array α),(∀ x∈left,x∈xs)→(∀ x∈out.toList,x∈xs)→(∀ x∈(pickOrder.go next fuel k left out).toList,x∈xs)∧(pickOrder.go next fuel k left out).size≤out.size+fuel
 | 0,k,left,out,h1,h2=>⟨h2,b5n _⟩
 | fuel+1,k,left,out,h1,h2=>by
   unfold pickOrder.go
   cases e:left[next k % left.length]? with
   | none=>exact⟨h2,by dsimp only;omega⟩
   | some x=>
     dsimp only
     obtain⟨a,b⟩:=b3h (next:=next) fuel (k+1) (left.eraseIdx (next k % left.length)) (out.push x) (fun y hy=>h1 y (List.mem_of_mem_eraseIdx hy)) fun y hy=>by
       rw[Array.toList_push,b6n] at hy
       rcases hy with hy | hy
       · exact h2 y hy
       · rw[b6d.mp hy];exact h1 x (b6e e)
     exact⟨a,by rw[Array.size_push] at b;omega⟩
theorem pick_ok{α:Type}{next:Nat→Nat}{xs:Array α}:(∀ x∈(pickOrder next xs).toList,x∈xs.toList)∧(pickOrder next xs).size≤xs.size:=by
 obtain⟨a,b⟩:=b3h (next:=next) (xs:=xs.toList) xs.size 0 xs.toList #[] (fun x h=>h) (fun x h=>by simp at h)
 exact⟨a,by simpa [pickOrder] using b⟩
theorem rem_ex{w:World}{S:Addr}{es:Array (Int×Value)}{ep:Nat}{t:SetTable}{G:Value→Prop}(hG:∀ e∈es.toList,G e.2)(hp:t.place.size=es.size):∃ n,n≤es.size∧Rem (nxS w S es ep t) G n 0 0:=by
 by_cases hT:w.params.followText "set-order" = true
 · obtain⟨p1,p2⟩:=pick_ok (next:=w.params.setOrder S ep) (xs:=es)
   have key:∀ m s g,m+g=(pickOrder (w.params.setOrder S ep) es).size→Rem (nxS w S es ep t) G m s g:=by
     intro m
     induction m with
     | zero=>
       intro s g h
       show nxS w S es ep t s g=none
       unfold nxS
       rw[if_pos hT,Array.getElem?_eq_none (by omega)];rfl
     | succ m ih=>
       intro s g h
       have hg:g<(pickOrder (w.params.setOrder S ep) es).size:=by omega
       exact⟨_,s,by unfold nxS;rw[if_pos hT,b8f hg];rfl,hG _ (p1 _ (by simp)),ih s (g+1) (by omega)⟩
   exact⟨_,p2,key _ 0 0 rfl⟩
 · have key:∀ m s g,es.size - t.place.toList.countP (· < s)≤m→∃ n,n≤m∧Rem (nxS w S es ep t) G n s g:=by
     intro m
     induction m with
     | zero=>
       intro s g h
       refine⟨0,b5n _,?_⟩
       show nxS w S es ep t s g=none
       unfold nxS
       rw[if_neg hT]
       cases e:t.place[SetTable.below t.place s]? with
       | none=>split<;>simp_all
       | some j=>
         have a:=a7r (l:=t.place.toList) (i:=SetTable.below t.place s) (by rw[b7d];exact e) (b1c e)
         have b:=List.countP_le_length (p:=fun x=>decide (x<j+1)) (l:=t.place.toList)
         rw[b6f] at b
         omega
     | succ m ih=>
       intro s g h
       cases e:t.place[SetTable.below t.place s]? with
       | none=>
         refine⟨0,b7b _,?_⟩
         show nxS w S es ep t s g=none
         unfold nxS
         rw[if_neg hT,e]
         split<;>simp_all
       | some j=>
         have a:=a7r (l:=t.place.toList) (i:=SetTable.below t.place s) (by rw[b7d];exact e) (b1c e)
         obtain⟨n,h1,h2⟩:=ih (j+1) (g+1) (by omega)
         have hi:SetTable.below t.place s<es.size:=by rw[← hp];exact (Array.getElem?_eq_some_iff.mp e).1
         refine⟨n+1,by omega,es[SetTable.below t.place s].2,j+1,?_,hG _ (by simp),h2⟩
         unfold nxS
         rw[if_neg hT,e,b8f hi]
   obtain⟨n,h1,h2⟩:=key es.size 0 0 (by omega)
   exact⟨n,h1,h2⟩
end Cv
namespace Cv
open PySem PySem.Spec PyProof.Rows L2
def itS(S:Addr)(slot given n ep:Nat):Obj:={ cls:=.type "set_iterator",data:=.fields #[.int slot 0,.int given 0,.ref S,.int n 0,.int ep 0] }
def obS(es:Array (Int×Value))(ep:Nat)(t:SetTable):Obj:={ cls:=.type "set",dict:=none,data:=.set es ep t }
theorem si_iter:entryFor table "set.__iter__" = some Builtin.«frozenset.__iter__»:=
 entryFor_alias (id' := "frozenset.__iter__") (by kernel_rfl) rfl (by decide +kernel) (by kernel_rfl)
theorem b2t:entryFor table "set_iterator.__next__" = some Builtin.«set_iterator.__next__»:=entryFor_of_tree (by kernel_rfl)
theorem a4f:Slot "set_iterator" "__next__" "set_iterator.__next__":=
 Slot.of (owner := "set_iterator") (n := "__next__") (by rw[typeLookup_type,builtinLookup_eq_fast];kernel_rfl) (by decide +kernel) (by decide +kernel) (by decide +kernel) (.inl (by decide +kernel)) (by rw[isSubtype_type];kernel_rfl)
theorem b2u(a:Value):argsOk "set_iterator.__next__" ⟨[a],[]⟩:=by
 unfold argsOk
 kernel_rfl
section
variable {prog:Program} {w:World} {A:Around} {E:Value→Shared→Prop} {s:Shared}
theorem iter_set{S:Addr}{es:Array (Int×Value)}{ep:Nat}{t:SetTable}{Q:Value→Shared→Prop}(hS:s.heap.get? S=some (obS es ep t))(hf:t.fits es.size=true)(hp:t.plain=true)(hQ:Q (.ref s.heap.objs.size) { s with heap:=s.heap.push (itS S 0 0 es.size ep) }) :
   wpAny (model prog w) A (pyIter (.ref S)) Q E s:=by
 have hT:s.TypeIs (.ref S) "set":=⟨_,hS,rfl⟩
 refine wpAny_bind (wpAny_specialOf hT F.slot_set_iter.lookup ?_)
 refine wpAny_bind (wpAny_callSpecialIfBoundUnlessNone?_slot hT F.slot_set_iter (wpAny_call_entry F.slot_set_iter hT si_iter ?_ (F.args_set_iter_1 _)))
 have hN:∀ t',({ s with heap:=s.heap.push (itS S 0 0 es.size ep),toks:=t' }:Shared).TypeIs (.ref s.heap.objs.size) "set_iterator":=fun _=>⟨_,Heap.get?_push_size _ rfl,rfl⟩
 have l2:=a4f.lookup
 unfold Builtin.«frozenset.__iter__» Builtin.Frozenset.slot0 Builtin.Frozenset.addrOf Builtin.Frozenset.sizeOf
 refine wpAny_bind (wpAny_bind (wpAny_of_eq (a:=(.ref S,[])) rfl ?_))
 refine wpAny_pure ?_
 refine wpAny_bind (wpAny_bind (wpAny_setEntries_of hS rfl hf (wpAny_pure ?_)))
 refine wpAny_bind ?_
 unfold setDrawn
 refine wpAny_bind (wpAny_setState_of hS rfl hf ?_)
 dsimp only
 refine wpAny_bind (wpAny_bind (wpAny_askSetting (wpAny_pure ?_)))
 refine wpAny_pure ?_
 refine wpAny_ite_split (fun h=>absurd h (show ¬ ((!w.params.followText "set-order" && (!t.plain && decide (es.size > 1)))=true) by simp[hp])) fun _=>?_
 refine wpAny_bind (wpAny_pure ?_)
 refine wpAny_bind ?_
 unfold setEpoch
 refine wpAny_bind (wpAny_setState_of hS rfl hf (wpAny_pure ?_))
 refine wpAny_bind (wpAny_newObj_type ?_)
 refine wpAny_pure ⟨_,rfl,?_⟩
 exact wpAny_bind (wpAny_specialOf (hN _) l2 (wpAny_pure hQ))
theorem b0n{S:Addr}{es:Array (Int×Value)}{ep slot given:Nat}{t:SetTable}{Q:Option (Value×Nat)→Shared→Prop}(hS:s.heap.get? S=some (obS es ep t))(hf:t.fits es.size=true)(hp:t.plain=true)(hl:t.led = !w.params.followText "set-order")(hQ:Q (nxS w S es ep t slot given) s):wpAny (model prog w) A (setNext S slot given ep) Q E s:=by
 unfold setNext
 refine wpAny_bind (wpAny_setState_of hS rfl hf ?_)
 dsimp only
 refine wpAny_bind (wpAny_bind (wpAny_askSetting (wpAny_pure ?_)))
 by_cases hT:w.params.followText "set-order" = true
 · rw[show (model prog w).w.params.followText "set-order" = true from hT,if_pos rfl,if_neg (by simp)]
   refine wpAny_bind ?_
   unfold setWalk
   refine wpAny_bind (wpAny_setState_of hS rfl hf ?_)
   dsimp only
   refine wpAny_bind (wpAny_bind (wpAny_askSetting (wpAny_pure ?_)))
   rw[show (model prog w).w.params.followText "set-order" = true from hT,if_pos rfl]
   refine wpAny_bind (wpAny_askSetting (wpAny_pure ?_))
   refine wpAny_pure ?_
   unfold nxS at hQ
   rw[if_pos hT] at hQ
   exact hQ
 · rw[if_neg (show ¬ (model prog w).w.params.followText "set-order" = true from hT)]
   refine wpAny_ite_split (fun h=>absurd h (show ¬ ((!t.plain && decide (es.size > 1))=true) by simp[hp])) fun _=>?_
   refine wpAny_bind ?_
   show wpAny _ _ (if (!t.led && !es.isEmpty)=true then _ else _) _ _ _
   rw[if_neg (by rw[hl];simp[hT])]
   refine wpAny_pure (wpAny_pure ?_)
   unfold nxS at hQ
   rw[if_neg hT] at hQ
   exact hQ
theorem next_set{I S:Addr}{es:Array (Int×Value)}{ep slot given nn:Nat}{t:SetTable}{v:Value}{Q:Option Value→Shared→Prop}(hI:s.heap.get? I=some (itS S slot given es.size ep))(hS:s.heap.get? S=some (obS es ep t))(hf:t.fits es.size=true)(hp:t.plain=true)(hl:t.led = !w.params.followText "set-order")(hx:nxS w S es ep t slot given=some (v,nn))(hQ:∀ h',h'.get? I=some (itS S nn (given+1) es.size ep)→Heap.SameBut I s.heap h'→Q (some v) { s with heap:=h' }):wpAny (model prog w) A (pyNext (.ref I)) Q E s:=by
 have hT:s.TypeIs (.ref I) "set_iterator":=⟨_,hI,rfl⟩
 refine wpAny_bind (wpAny_attempt (wpAny_callSpecial?_slot hT a4f (wpAny_call_entry a4f hT b2t ?_ (b2u _))))
 unfold Builtin.«set_iterator.__next__»
 refine wpAny_bind (wpAny_of_eq (a:=(.ref I,[])) rfl ?_)
 dsimp only
 refine wpAny_bind (wpAny_fieldsOf hI rfl ?_)
 dsimp only
 refine wpAny_bind (wpAny_setEntries_of hS rfl hf ?_)
 rw[if_neg (by simp),b6w,b6w,b6w]
 refine wpAny_bind (b0n hS hf hp hl ?_)
 rw[hx]
 dsimp only
 refine wpAny_bind (wpAny_setField hI rfl (by show (0:Nat)<5;decide) ?_)
 have h1:=Heap.get?_update_self (Obj.mapFields fun x=>x.setIfInBounds 0 (rawInt (nn:Int))) hI rfl
 refine wpAny_bind (wpAny_setField h1 rfl (by show (1:Nat)<5;decide) ?_)
 have h2:=Heap.get?_update_self (Obj.mapFields fun x=>x.setIfInBounds 1 (rawInt ((given:Int)+1))) h1 rfl
 refine wpAny_pure ⟨_,rfl,wpAny_pure (hQ _ (h2.trans ?_) ⟨(Heap.size_after_update _ _ _).trans (Heap.size_after_update _ _ _),fun b hb=>(Heap.get?_update_other _ _ (Ne.symm hb)).trans (Heap.get?_update_other _ _ (Ne.symm hb))⟩)⟩
 kernel_rfl
theorem end_set{I S:Addr}{es:Array (Int×Value)}{ep slot given:Nat}{t:SetTable}{Q:Option Value→Shared→Prop}(hh:A.handled=none)(hI:s.heap.get? I=some (itS S slot given es.size ep))(hS:s.heap.get? S=some (obS es ep t))(hf:t.fits es.size=true)(hp:t.plain=true)(hl:t.led = !w.params.followText "set-order")(hx:nxS w S es ep t slot given=none)(hQ:∀ h',Heap.ExtBut I s.heap h'→Q none { s with heap:=h' }):wpAny (model prog w) A (pyNext (.ref I)) Q E s:=by
 have hT:s.TypeIs (.ref I) "set_iterator":=⟨_,hI,rfl⟩
 refine wpAny_bind (wpAny_attempt (wpAny_callSpecial?_slot hT a4f (wpAny_call_entry a4f hT b2t ?_ (b2u _))))
 unfold Builtin.«set_iterator.__next__»
 refine wpAny_bind (wpAny_of_eq (a:=(.ref I,[])) rfl ?_)
 dsimp only
 refine wpAny_bind (wpAny_fieldsOf hI rfl ?_)
 dsimp only
 refine wpAny_bind (wpAny_setEntries_of hS rfl hf ?_)
 rw[if_neg (by simp),b6w,b6w,b6w]
 refine wpAny_bind (b0n hS hf hp hl ?_)
 rw[hx]
 dsimp only
 refine wpAny_bind (wpAny_setField hI rfl (by show (2:Nat)<5;decide) ?_)
 generalize hu:s.heap.update I _=H1
 have k1:∀ b o,b≠I→s.heap.get? b=some o→H1.get? b=some o:=fun b o hb e=>by rw[← hu];exact (Heap.get?_update_other _ _ (Ne.symm hb)).trans e
 repeat (any_goals (first | assumption | wp_step))
 generalize ho2:({ cls:=Value.type "StopIteration",data:=_ }:Obj)=oe
 have hoe:oe.cls=.type "StopIteration":=by rw[← ho2]
 have hfr:oe.isFreed=false:=by rw[← ho2];rfl
 have k2:∀ b o,b≠I→s.heap.get? b=some o→((H1.push { cls:=Value.type "tuple",data:=Data.seq #[] }).push oe).get? b=some o:=fun b o hb e=>Heap.get?_push_of_some _ (Heap.get?_push_of_some _ (k1 b o hb e))
 unfold raiseNew
 refine wpAny_bind (wpAny_handled ?_)
 rw[show (A.in1).handled=none from hh]
 refine wpAny_bind (wpAny_pure (wpAny_throw ?_))
 refine wpAny_bind (wpAny_isInstance (T := "StopIteration") (b:=true) ⟨oe,Heap.get?_push_size _ hfr,hoe⟩ (by rw[isSubtype_type];kernel_rfl) ?_)
 exact wpAny_pure (hQ _ k2)
end
end Cv
namespace Cv
open PySem PySem.Spec PyProof.Rows L2
theorem b2s:Slot "set_iterator" "__iter__" "set_iterator.__iter__":=
 Slot.of (owner := "set_iterator") (n := "__iter__") (by rw[typeLookup_type,builtinLookup_eq_fast];kernel_rfl) (by decide +kernel) (by decide +kernel) (by decide +kernel) (.inl (by decide +kernel)) (by rw[isSubtype_type];kernel_rfl)
theorem sj_entry:entryFor table "set_iterator.__iter__" = some Builtin.«dict_keyiterator.__iter__»:=
 entryFor_alias (id' := "dict_keyiterator.__iter__") (by kernel_rfl) rfl (by decide +kernel) (by kernel_rfl)
theorem sj_args(a:Value):argsOk "set_iterator.__iter__" ⟨[a],[]⟩:=by
 unfold argsOk
 kernel_rfl
section
variable {prog:Program} {w:World} {A:Around} {E:Value→Shared→Prop} {s:Shared}
theorem b2b(hh:A.handled=none){I S:Addr}{es:Array (Int×Value)}{ep n:Nat}{t:SetTable}{G:Value→Prop}(hne:S≠I)(hf:t.fits es.size=true)(hp:t.plain=true)(hl:t.led = !w.params.followText "set-order") :
   Walks prog w A I [I,S] [I] n (fun _ v=>G v) (fun i h=>i≤n∧h.get? S=some (obS es ep t)∧∃ slot,h.get? I=some (itS S slot i es.size ep)∧Rem (nxS w S es ep t) G (n - i) slot i) where
 sub:=fun b hb=>by simp at hb;simp[hb]
 frame:=fun i h h' st hk=>⟨st.1,hk S (by simp) _ st.2.1,st.2.2.imp fun slot x=>⟨hk I (by simp) _ x.1,x.2⟩⟩
 item:=fun i s Q E hi st hQ=>by
   obtain⟨h1,h2,slot,h3,h4⟩:=st
   obtain⟨m,hm⟩ : ∃ m,n - i=m+1:=⟨n - i - 1,by omega⟩
   rw[hm] at h4
   obtain⟨v,s',e1,e2,e3⟩:=h4
   refine next_set h3 h2 hf hp hl e1 fun h' a1 a2=>?_
   exact hQ v h' s.toks e2 ⟨hi,(a2.2 S hne).trans h2,s',a1,by rw[show n - (i+1)=m by omega];exact e3⟩ fun b o hb e=>(a2.2 b (by simpa using hb)).trans e
 done:=fun s Q E st hQ=>by
   obtain⟨h1,h2,slot,h3,h4⟩:=st
   rw[Nat.sub_self] at h4
   exact end_set hh h3 h2 hf hp hl h4 fun h' he=>hQ h' s.toks fun b o hb e=>he b o (by simpa using hb) e
 self:=fun i s Q E st hQ=>by
   obtain⟨h1,h2,slot,h3,h4⟩:=st
   have hT:s.TypeIs (.ref I) "set_iterator":=⟨_,h3,rfl⟩
   refine wpAny_pyIter_slot hT b2s (wpAny_call_entry b2s hT sj_entry ?_ (sj_args _))
   show wpAny _ _ (ret (.ref I)) _ _ s
   exact wpAny_pure ⟨_,rfl,"set_iterator",_,hT,a4f.lookup,hQ⟩
theorem hint_set{r:Addr}{Q:Bool→Shared→Prop}(hT:s.TypeIs (.ref r) "set")(h:Q false s):wpAny (model prog w) A (Builtin.List.listLengthHint (.ref r)) Q E s:=by
 have e:splitId "set.__len__" = some ("set","__len__"):=by decide +kernel
 unfold Builtin.List.listLengthHint
 refine wpAny_bind (wpAny_specialOf hT F.slot_set_len.lookup ?_)
 generalize gi:("set.__len__" : String)=d0 at e ⊢
 wp_delta
 rw[e]
 subst gi
 refine wpAny_bind (wpAny_isInstance (T := "set") (b:=true) hT (by rw[isSubtype_type];kernel_rfl) ?_)
 refine wpAny_ite_split (fun c=>absurd c (by decide)) fun _=>?_
 refine wpAny_ite_split (fun _=>?_) fun c=>absurd (by decide +kernel) c
 exact wpAny_bind (wpAny_typeOf hT (wpAny_pure h))
theorem src_set{S:Addr}{es:Array (Int×Value)}{ep n:Nat}{t:SetTable}{G:Value→Prop}(hf:t.fits es.size=true)(hp:t.plain=true)(hl:t.led = !w.params.followText "set-order")(hr:Rem (nxS w S es ep t) G n 0 0) :
   PySem.W.KdlSrc prog w "set" S S n (fun _ v=>G v) (fun h=>h.get? S=some (obS es ep t)) where
 type:=fun s h=>⟨_,h,rfl⟩
 there:=fun h e=>⟨Heap.lt_size e,Heap.lt_size e⟩
 keep:=fun h h' e k=>k S (.inl rfl) _ e
 notList:=by decide
 notTuple:=by decide
 hint:=fun A E s Q h q=>hint_set ⟨_,h,rfl⟩ q
 iter:=fun A s hh e=>⟨itS S 0 0 es.size ep,_,fun E Q q=>iter_set e hf hp q,b2b hh (b5k (Heap.lt_size e)) hf hp hl,b7b _,Heap.get?_push_of_some _ e,0,Heap.get?_push_size _ rfl,hr⟩
theorem b0c{S:Addr}{In:Value→Prop}{k:Nat}{Q:List Value→Shared→Prop}(hh:A.handled=none)(hP:PsAt w s.heap S In k)(hk:k≤1000)(q:∀ h' tk (vs:List Value),(∀ b o,s.heap.get? b=some o→h'.get? b=some o)→vs.length≤k→(∀ v∈vs,In v)→Q vs { s with heap:=h',toks:=tk }):wpAny (model prog w) A (collect (.ref S)) Q E s:=by
 obtain⟨es,ep,t,hS,P⟩:=hP
 obtain⟨n,hn,hr⟩:=rem_ex (w:=w) (S:=S) (ep:=ep) (G:=In) P.mem P.pl
 have K:=src_set (prog:=prog) P.fits P.plain P.led hr
 have sl:=a8c
 have hle:=P.le
 refine PySem.W.kdu_collect K hh hS (by omega) fun h' tk acc k1 e2=>?_
 refine q h' tk acc.toList k1 (by rw[b6f,e2.1];omega) fun v hv=>?_
 obtain⟨i,hi,ei⟩:=b6y hv
 exact e2.2 i v (by rw[← b7d,b5i hi,ei])
end
end Cv
namespace Cv
open PySem PySem.W PyProof.Rows
section
variable {n:Nat} {cmp:Nat→Nat→(Bool→Shared→Prop)→Shared→Prop} {s:Shared}
theorem b2e(h1:1≤n)(hc:∀ i j C,i<n→j<n→(∀ b,C b s)→cmp i j C s){p:Array Nat}(h:Pm n p):∀ (f x:Nat) (Q:Nat→Shared→Prop),(∀ m,Q m s)→KasT.kasWp cmp (kas_asc p f x) Q s
 | 0,x,Q,q=>by
   rw[kas_asc.eq_1,KasT.kasWp.eq_1]
   exact q x
 | f+1,x,Q,q=>by
   rw[kas_asc.eq_2,KasT.kasWp.eq_2]
   refine hc _ _ _ (h.bl h1 x) (h.bl h1 (x - 1)) fun b=>?_
   cases b
   · rw[if_neg (by simp)]
     exact b2e h1 hc h f (x+1) Q q
   · rw[if_pos rfl,KasT.kasWp.eq_1]
     exact q x
theorem a6u(h1:1≤n)(hc:∀ i j C,i<n→j<n→(∀ b,C b s)→cmp i j C s)(Q:Array Nat×Nat×Nat→Shared→Prop)(q:∀ p m r,Pm n p→Q (p,m,r) s):∀ (f:Nat) (p:Array Nat) (x r:Nat),Pm n p→KasT.kasWp cmp (kas_desc f p x r) Q s
 | 0,p,x,r,h=>by
   rw[kas_desc.eq_1,KasT.kasWp.eq_1]
   exact q _ _ _ h
 | f+1,p,x,r,h=>by
   rw[kas_desc.eq_2,KasT.kasWp.eq_2]
   refine hc _ _ _ (h.bl h1 x) (h.bl h1 (x - 1)) fun b=>?_
   cases b
   · rw[if_neg (by simp),KasT.kasWp.eq_2]
     refine hc _ _ _ (h.bl h1 (x - 1)) (h.bl h1 x) fun b=>?_
     cases b
     · rw[if_neg (by simp)]
       exact a6u h1 hc Q q f p _ _ h
     · rw[if_pos rfl,KasT.kasWp.eq_1]
       exact q _ _ _ h
   · rw[if_pos rfl]
     split
     · exact a6u h1 hc Q q f _ _ _ (a8g h _ _)
     · exact a6u h1 hc Q q f p _ _ h
theorem b2c(h1:1≤n)(hc:∀ i j C,i<n→j<n→(∀ b,C b s)→cmp i j C s){p:Array Nat}(h:Pm n p)(m:Nat)(Q:Nat×Array Nat→Shared→Prop)(q:∀ r p',Pm n p'→Q (r,p') s):KasT.kasWp cmp (kas_tail3 m n p) Q s:=by
 unfold kas_tail3
 rw[KasT.kasWp_bind]
 refine b2e h1 hc (a8g h _ _) _ _ _ fun m=>?_
 rw[KasT.kasWp.eq_1]
 exact q _ _ (a8g h _ _)
theorem b2d(h1:1≤n)(hc:∀ i j C,i<n→j<n→(∀ b,C b s)→cmp i j C s){p:Array Nat}(h:Pm n p)(m:Nat)(Q:Nat×Array Nat→Shared→Prop)(q:∀ r p',Pm n p'→Q (r,p') s):KasT.kasWp cmp (kas_descPart m n p) Q s:=by
 unfold kas_descPart
 rw[KasT.kasWp_bind]
 refine a6u h1 hc _ (fun p m r h=>?_) _ _ _ _ h
 split
 · exact b2c h1 hc (a8g h _ _) _ Q q
 · exact b2c h1 hc h _ Q q
theorem w0_count(h1:1≤n)(hc:∀ i j C,i<n→j<n→(∀ b,C b s)→cmp i j C s){p:Array Nat}(h:Pm n p)(Q:Nat×Array Nat→Shared→Prop)(q:∀ r p',Pm n p'→Q (r,p') s):KasT.kasWp cmp (kas_count n p) Q s:=by
 rw[kas_count.eq_1,KasT.kasWp_bind]
 refine b2e h1 hc h _ _ _ fun m=>?_
 split
 · rw[KasT.kasWp.eq_1];exact q _ _ h
 · split
   · rw[KasT.kasWp.eq_2]
     refine hc _ _ _ (h.bl h1 _) (h.bl h1 _) fun b=>?_
     split
     · rw[KasT.kasWp.eq_1];exact q _ _ h
     · exact b2d h1 hc (a8g h _ _) _ Q q
   · exact b2d h1 hc h _ Q q
theorem a6t(h1:1≤n)(hc:∀ i j C,i<n→j<n→(∀ b,C b s)→cmp i j C s){p:Array Nat}(h:Pm n p){k:Nat}:∀ (f lo hi:Nat) (Q:Nat→Shared→Prop),(∀ l,Q l s)→KasT.kasWp cmp (kas_place p k f lo hi) Q s
 | 0,lo,hi,Q,q=>by
   rw[kas_place.eq_1,KasT.kasWp.eq_1]
   exact q lo
 | f+1,lo,hi,Q,q=>by
   rw[kas_place.eq_2]
   split
   · rw[KasT.kasWp.eq_1];exact q lo
   · rw[KasT.kasWp.eq_2]
     refine hc _ _ _ (h.bl h1 _) (h.bl h1 _) fun b=>?_
     split
     · exact a6t h1 hc h f _ _ Q q
     · exact a6t h1 hc h f _ _ Q q
theorem w0_bin(h1:1≤n)(hc:∀ i j C,i<n→j<n→(∀ b,C b s)→cmp i j C s)(Q:Array Nat→Shared→Prop)(q:∀ p,Pm n p→Q p s):∀ (f k:Nat) (p:Array Nat),Pm n p→KasT.kasWp cmp (kas_bin f p k) Q s
 | 0,k,p,h=>by
   rw[kas_bin.eq_1,KasT.kasWp.eq_1]
   exact q p h
 | f+1,k,p,h=>by
   rw[kas_bin.eq_2,KasT.kasWp_bind]
   exact a6t h1 hc h k 0 k _ fun l=>w0_bin h1 hc Q q f (k+1) _ (h.of (bubble_size _ _ _) (bubble_perm _ _ _))
theorem w0_sort(h1:1≤n)(hc:∀ i j C,i<n→j<n→(∀ b,C b s)→cmp i j C s)(Q:Array Nat→Shared→Prop)(q:∀ p,Pm n p→Q p s):KasT.kasWp cmp (kas_sort n) Q s:=by
 unfold kas_sort
 rw[KasT.kasWp_bind]
 have h0:Pm n (b7l n).toArray:=⟨by simp,by simp⟩
 refine w0_count h1 hc h0 _ fun r p' hp=>?_
 split
 · exact w0_bin h1 hc Q q _ _ _ hp
 · rw[KasT.kasWp.eq_1];exact q _ hp
end
open PySem.Spec L2
section
variable {prog:Program} {w:World} {A:Around} {E:Value→Shared→Prop} {s:Shared}
theorem sort0{a:Addr}{vs:List Value}{pl:List Pl}{n0:Nat}{P:PySem.Fin→Shared→Prop}(hS:s.heap.get? a=some (seqObj "list" vs.toArray n0))(hv:b0e s.heap vs pl)(h2:2≤pl.length)(h64:pl.length<64)(hQ:∀ (h':Heap) (out:List Value) (c:Nat),(∀ b o,b≠a→s.heap.get? b=some o→h'.get? b=some o)→h'.get? a=some (seqObj "list" out.toArray c)→out.length=vs.length→(∀ v∈out,v∈vs)→P (Fin.done (Flow.ret .none)) { s with heap:=h' }) :
   wpAny (model prog w) A (Builtin.«list.sort» ⟨[.ref a],[]⟩) P E s:=by
 have hl:vs.length=pl.length:=hv.1
 have sl:=a8c
 have hva:∀ v∈vs,v≠.ref a:=fun v hm e=>by
   obtain⟨i,hi,ei⟩:=b6y hm
   obtain⟨t,o,t1,t2,n,ev,ht,ct,dt⟩:=hv.2 i v (pl[i]'(by omega (config:={}))) (by rw[b5i hi,ei]) (b5i _)
   rw[e] at ev
   cases ev
   rw[hS] at ht
   cases ht
   exact absurd (show Value.type "list" = Value.type "tuple" from ct) (by decide)
 rw[list_sort_plain]
 refine wpAny_bind ?_
 unfold Builtin.List.listItems
 refine wpAny_bind (wpAny_seqItems hS rfl (wpAny_pure ?_))
 refine wpAny_bind ?_
 show wpAny _ _ (updateSeq a (fun _=>#[])) _ _ _
 refine wpAny_updateSeq hS rfl ?_ (by simp;omega) (by simp)
 have hS1:=Heap.get?_update_self (Obj.mapSeq (fun _=>(#[]:Array Value))) hS rfl
 have k1:∀ b o,b≠a→s.heap.get? b=some o→(s.heap.update a (Obj.mapSeq (fun _=>(#[]:Array Value)))).get? b=some o:=fun b o hb e=>(Heap.get?_update_other _ _ (Ne.symm hb)).trans e
 generalize hH1:s.heap.update a (Obj.mapSeq (fun _=>(#[]:Array Value)))=H1 at *
 refine wpAny_bind ?_
 unfold seqEpoch
 refine wpAny_bind (wpAny_load hS1 ?_)
 refine wpAny_pure ?_
 refine wpAny_bind (wpAny_newTuple ?_ (by simp;omega))
 refine wpAny_bind (wpAny_newList ?_)
 refine wpAny_holding ?_
 dsimp only
 have hlt:¬ vs.toArray.size<2:=by simp;omega
 rw[if_neg hlt,if_neg hlt]
 have hS2:((H1.push { cls:=.type "tuple",data:=.seq vs.toArray.toList.toArray }).push { cls:=.type "list",data:=.seq #[] }).get? a=some (Obj.mapSeq (fun _=>(#[]:Array Value)) (seqObj "list" vs.toArray n0)):=Heap.get?_push_of_some _ (Heap.get?_push_of_some _ hS1)
 have k2:∀ b o,b≠a→s.heap.get? b=some o→((H1.push { cls:=.type "tuple",data:=.seq vs.toArray.toList.toArray }).push { cls:=.type "list",data:=.seq #[] }).get? b=some o:=fun b o hb e=>Heap.get?_push_of_some _ (Heap.get?_push_of_some _ (k1 b o hb e))
 generalize ((H1.push { cls:=.type "tuple",data:=.seq vs.toArray.toList.toArray }).push { cls:=.type "list",data:=.seq #[] })=H2 at *
 have hv2:b0e H2 vs pl:=prs_keep hv k2 hva
 obtain⟨fs,f1,f2,f3⟩:=b0w hv2
 refine wpAny_bind (PySem.W.kat_kind (s:={ s with heap:=H2 }) (T:=.type "int") f1 (by omega) (fun v hm=>?_) rfl ?_)
 · obtain⟨i,t,rfl⟩:=f3 v hm
   exact fun A Q E s _ q=>wpAny_pure q
 refine wpAny_bind (wpAny_mono (PySem.W.kat_run (s:={ s with heap:=H2 }) (ks:=vs) (vs:=vs) (Q:=fun st' s'=>s'={ s with heap:=H2 }∧∃ p,Pm pl.length p∧arrOf st'=Array.map (PySem.W.kas_item (vs.toArray.zip vs.toArray)) p∧failedOf st'=none)
   (G:=fun p s'=>s'={ s with heap:=H2 }∧Pm pl.length p) rfl (by omega) (by omega) (fun p st' s' _ ha hf hg=>⟨hg.1,p,hg.2,ha,hf⟩) ?_) (fun r s' hr=>?_) (fun _ _ x=>x))
 · rw[hl]
   exact w0_sort (by omega) (fun i j C hi hj q=>b5a hv2 hi hj (q _)) _ fun p hp=>⟨rfl,hp⟩
 obtain⟨⟨⟩,st⟩:=r
 obtain⟨rfl,p,hp,ha,hf⟩:=hr
 dsimp only at ha hf ⊢
 refine wpAny_bind (wpAny_bind (wpAny_load hS2 ?_))
 refine wpAny_pure ?_
 have hsz:(arrOf st).size=pl.length:=by rw[ha,b8k,hp.sz]
 refine wpAny_bind ?_
 show wpAny _ _ (updateSeq a (fun _=>Array.map (fun x=>x.snd) (arrOf st))) _ _ _
 refine wpAny_updateSeq hS2 rfl ?_ (by simp) (by rw[b8k,hsz];omega)
 have hS3:=Heap.get?_update_self (Obj.mapSeq (fun _=>Array.map (fun x=>x.snd) (arrOf st))) hS2 rfl
 have k3:∀ b o,b≠a→s.heap.get? b=some o→(H2.update a (Obj.mapSeq (fun _=>Array.map (fun x=>x.snd) (arrOf st)))).get? b=some o:=fun b o hb e=>(Heap.get?_update_other _ _ (Ne.symm hb)).trans (k2 b o hb e)
 have eo:Array.map (fun x=>x.snd) (arrOf st)=(p.toList.map fun i=>vs.getD i .none).toArray:=by
   rw[ha]
   refine Array.ext' ?_
   rw[Array.toList_map,Array.toList_map,List.map_map]
   refine List.map_congr_left fun i _=>?_
   show (PySem.W.kas_item (pairsOf vs) i).snd=_
   rw[PySem.W.kas_item_eq]
 rw[eo] at hS3 k3 ⊢
 generalize H2.update a (Obj.mapSeq (fun _=>(p.toList.map fun i=>vs.getD i .none).toArray))=H3 at *
 rw[hf]
 dsimp only
 rw[if_neg (by simp)]
 refine wpAny_pure (hQ H3 (p.toList.map fun i=>vs.getD i .none) _ k3 hS3 (by simp[hp.sz,hl]) fun v hv'=>?_)
 obtain⟨i,hi,rfl⟩:=b8c.mp hv'
 have hi:i<vs.length:=by have:=List.mem_range.mp (hp.pm.mem_iff.mp hi);omega
 rw[b5z,b5i hi]
 exact b6z _
theorem b1f{S:Addr}{In:Value→Prop}{k:Nat}{Q:Value→Shared→Prop}(hh:A.handled=none)(hP:PsAt w s.heap S In k)(hk:k<64)(hIn:∀ v,In v→∃ b q,v=.ref b∧IsPr s.heap q b)(q:∀ (hA h':Heap) (tk:Nat) (out:List Value) (n:Nat),(∀ b o,s.heap.get? b=some o→hA.get? b=some o)→(∀ b o,hA.get? b=some o→h'.get? b=some o)→h'.get? hA.objs.size=some (seqObj "list" out.toArray n)→out.length≤k→(∀ v∈out,In v)→Q (.ref hA.objs.size) { s with heap:=h',toks:=tk }) :
   wpAny (model prog w) A (call (.builtin "sorted") [.ref S]) Q E s:=by
 have sl:=a8c
 refine Calls.call_function_entry kind_sorted plain_sorted entry_sorted (args_sorted1 _) ?_
 unfold Builtin.«sorted»
 refine wpAny_bind (m:=checkCount "sorted" 1 1 _) (wpAny_pure ?_)
 refine wpAny_bind (b0c (by simpa using hh) hP (by omega) fun hA tk vs k0 l0 m0=>?_)
 refine wpAny_bind (wpAny_newList ?_ (by omega))
 have hS:(hA.push { cls:=.type "list",data:=.seq vs.toArray }).get? hA.objs.size=some (seqObj "list" vs.toArray 0):=Heap.get?_push_size _ rfl
 have k1:∀ b o,s.heap.get? b=some o→(hA.push { cls:=.type "list",data:=.seq vs.toArray }).get? b=some o:=fun b o e=>Heap.get?_push_of_some _ (k0 b o e)
 have hpr:∀ v∈vs,∃ b p,v=.ref b∧IsPr (hA.push { cls:=.type "list",data:=.seq vs.toArray }) p b:=fun v hv=>by
   obtain⟨b,p,e,hb⟩:=hIn v (m0 v hv)
   exact⟨b,p,e,hb.at' fun o e=>k1 b o e⟩
 obtain⟨pl,hv1⟩ : ∃ pl,b0e (hA.push { cls:=.type "list",data:=.seq vs.toArray }) vs pl:=by
   clear hS l0 m0 k0 k1
   generalize (hA.push { cls:=.type "list",data:=.seq vs.toArray })=H at *
   induction vs with
   | nil=>exact⟨[],rfl,fun i v p e=>by simp at e⟩
   | cons v vs ih=>
     obtain⟨pl,h1⟩:=ih fun v hv=>hpr v (b6j _ hv)
     obtain⟨b,p,rfl,o,t,u,n,e1,e2,e3⟩:=hpr v (by simp)
     refine⟨p::pl,by simp[h1.1],fun i v q a1 a2=>?_⟩
     cases i with
     | zero=>cases a1;cases a2;exact⟨b,o,t,u,n,rfl,e1,e2,e3⟩
     | succ i=>exact h1.2 i v q a1 a2
 have hl:=hv1.1
 by_cases h2:2≤pl.length
 · refine wpAny_bind (wpAny_holding (wpAny_call_entry slot_list_sort ⟨_,hS,rfl⟩ entry_list_sort (sort0 (s:={ s with heap:=hA.push { cls:=.type "list",data:=.seq vs.toArray },toks:=tk }) hS hv1 h2 (by omega) fun h' out c k2 e1 e2 e3=>⟨_,rfl,wpAny_pure ⟨_,rfl,?_⟩⟩) (args_list_sort _)))
   exact q hA h' tk out c k0 (fun b o e=>k2 b o (b5k (Heap.lt_size e)) (Heap.get?_push_of_some _ e)) e1 (by omega) fun v hv=>m0 v (e3 v hv)
 · refine wpAny_bind (wpAny_holding (wpAny_call_entry slot_list_sort ⟨_,hS,rfl⟩ entry_list_sort (a5p (s:={ s with heap:=hA.push { cls:=.type "list",data:=.seq vs.toArray },toks:=tk }) hS (by omega) fun h' c k2 e1=>⟨_,rfl,wpAny_pure ⟨_,rfl,?_⟩⟩) (args_list_sort _)))
   exact q hA h' tk vs c k0 (fun b o e=>k2 b o (b5k (Heap.lt_size e)) (Heap.get?_push_of_some _ e)) e1 l0 m0
end
end Cv
namespace Cv
open PySem PySem.Spec PyProof.Rows L2 HT
def a3m:List Int→List Int→Bool
 | [],[]=>true
 | [],_::_=>true
 | _::_,[]=>false
 | x::xs,y::ys=>if x=y then a3m xs ys else decide (x≤y)
theorem a3b:a3m [] []=true:=rfl
theorem a6a(y:Int)(ys:List Int):a3m [] (y::ys)=true:=rfl
theorem a6b(x:Int)(xs:List Int):a3m (x::xs) []=false:=rfl
theorem a2u(x y:Int)(xs ys:List Int):a3m (x::xs) (y::ys)=if x=y then a3m xs ys else decide (x≤y):=rfl
theorem rcLe_int(A:Around)(s:Shared)(a:Int)(t:Tok)(c:Int)(u:Tok)(prog:Program)(w:World)(E:Value→Shared→Prop)(Q:Value→Shared→Prop)(h:Q (.bool (decide (a≤c))) s) :
   wpAny (model prog w) A (richCompare .LtE (.int a t) (.int c u)) Q E s:=
 (PyProof.Rows.le_int h:wpAny (model prog w) A (compareOp .LtE (.int a t) (.int c u)) Q E s)
section
open PySem.SeqAt
open PySem.AutoSeq1 (wpAny_loadPart')
open PySem.MeetsSeq PySem.MeetsSeq2 PySem.MeetsSeq3
theorem a6w(l b:Addr)(items items2:Array Value)(n n2:Nat)(dd dd2:Option Addr)(sl sl2:Array (Option Value))(ns ms:List Int)(hi:IntsAre items.toList ns)(hj:IntsAre items2.toList ms) :
   Meets (Builtin.«tuple.__le__» ⟨[.ref l,.ref b],[]⟩)
     (fun _ R s=>s.heap.get? l=some { cls:=.type "tuple",dict:=dd,data:=.seq items n,slots:=sl }∧s.heap.get? b=some { cls:=.type "tuple",dict:=dd2,data:=.seq items2 n2,slots:=sl2 }∧
       R (.ok (.ret (.bool (a3m ns ms)))) s):=
 .of_wp fun prog w A R s h=>by
   obtain⟨hp,g,d,tk,os⟩:=s;obtain⟨hl,hb,h⟩:=h
   have f2:=AutoSeq1.sub_tuple_tuple
   have z1:items.size=ns.length:=by rw[← hi.length];simp
   have z2:items2.size=ms.length:=by rw[← hj.length];simp
   wp_walk using wpAny_loadPart' hl,wpAny_loadPart' hb,wpAny_forIn_list _ (fun rest b s'=>b.1=none∧s'=⟨hp,g,d,tk,os⟩∧∃ (vs ws:List Value) (ns' ms':List Int),rest=vs.zip ws∧
     IntsAre vs ns'∧IntsAre ws ms'∧ns'.length+items2.size=ms'.length+items.size∧R (.ok (.ret (.bool (a3m ns' ms')))) ⟨hp,g,d,tk,os⟩) _
   case turn=>
     rintro⟨y,x⟩ rest b s' ⟨hb',rfl,vs,ws,ns',ms',hz,hvi,hwi,hlen,hR⟩
     cases hvi with
     | nil=>rw[List.zip_nil_left] at hz;cases hz
     | cons a t hvi'=>
       cases hwi with
       | nil=>rw[List.zip_nil_right] at hz;cases hz
       | cons c u hwi'=>
         rw[b7f] at hz
         injection hz with hyx hrest
         injection hyx with hy hx
         subst hy hx
         rw[a2u] at hR
         simp only[b6c] at hlen
         obtain⟨e,he,hiff⟩:=a7h A.in1 ⟨hp,g,d,tk,os⟩ a t c u
         refine wpAny_bind (he prog w _ _ ?_)
         cases e with
         | true=>
           rw[if_pos (hiff.mp rfl)] at hR
           wp_walk
           exact⟨rfl,rfl,_,_,_,_,hrest,hvi',hwi',by omega,hR⟩
         | false=>
           rw[if_neg (fun q=>absurd (hiff.mpr q) b5r)] at hR
           have hri:=rcLe_int A.in1 ⟨hp,g,d,tk,os⟩ a t c u prog w
           wp_walk using hri
           exact⟨_,rfl,by simpa using hR⟩
   case fin=>
     rintro⟨b1,b2⟩ s' ⟨hb',rfl,vs,ws,ns',ms',hz,hvi,hwi,hlen,hR⟩
     simp only at hb'
     subst hb'
     have hv:a3m ns' ms'=decide (items.size≤items2.size):=by
       cases hvi with
       | nil=>
         cases hwi with
         | nil=>
           simp only[b6x] at hlen
           rw[a3b]
           first | exact (decide_eq_true (by omega)).symm | exact (decide_eq_false (by omega)).symm
         | cons c u hw=>
           simp only[b6x,b6c] at hlen
           rw[a6a]
           first | exact (decide_eq_true (by omega)).symm | exact (decide_eq_false (by omega)).symm
       | cons a t hv=>
         cases hwi with
         | nil=>
           simp only[b6x,b6c] at hlen
           rw[a6b]
           first | exact (decide_eq_true (by omega)).symm | exact (decide_eq_false (by omega)).symm
         | cons c u hw=>
           rw[b7f] at hz
           cases hz
     rw[hv] at hR
     wp_walk
     exact⟨_,rfl,by simpa [Builtin.Tuple.tupleCompareSizes] using hR⟩
   case h=>
     exact⟨rfl,rfl,items.toList,items2.toList,ns,ms,rfl,hi,hj,by omega,h⟩
end
section
variable {prog:Program} {w:World} {A:Around} {E:Value→Shared→Prop} {s:Shared}
theorem b1q{l b:Addr}{items items2:Array Value}{ns ms:List Int}{Q:Value→Shared→Prop}(hl:IsTup s.heap l items)(hb:IsTup s.heap b items2)(hi:IntsAre items.toList ns)(hj:IntsAre items2.toList ms)(hu:A.units<cLine)(h:Q (.bool (a3m ns ms)) s):wpAny (model prog w) A (compareOp .LtE (.ref l) (.ref b)) Q E s:=by
 obtain⟨⟨cls,dd,data,sl⟩,ho,hc,n,hd⟩:=id hl
 obtain⟨⟨cls2,dd2,data2,sl2⟩,ho2,hc2,n2,hd2⟩:=id hb
 simp only at hc hd hc2 hd2
 subst hc hd hc2 hd2
 exact richCompare_meets_room (op:=.LtE) ⟨_,ho,rfl⟩ ⟨_,ho2,rfl⟩ PySem.F.slot_tuple_le PySem.F.entry_tuple_le (PySem.F.args_tuple_le_2 _ _) (a6w l b items items2 n n2 dd dd2 sl sl2 ns ms hi hj)
   ⟨ho,ho2,show Value.bool (a3m ns ms)≠Value.notImplemented∧Q (.bool (a3m ns ms)) s from ⟨(fun x=>nomatch x),h⟩⟩ hu
end
def a4q:List Int→List Int→Bool
 | [],[]=>false
 | [],_::_=>false
 | _::_,[]=>true
 | x::xs,y::ys=>if x=y then a4q xs ys else decide (x > y)
theorem a4c:a4q [] []=false:=rfl
theorem a6c(y:Int)(ys:List Int):a4q [] (y::ys)=false:=rfl
theorem a6d(x:Int)(xs:List Int):a4q (x::xs) []=true:=rfl
theorem a4p(x y:Int)(xs ys:List Int):a4q (x::xs) (y::ys)=if x=y then a4q xs ys else decide (x > y):=rfl
theorem rcGt_int(A:Around)(s:Shared)(a:Int)(t:Tok)(c:Int)(u:Tok)(prog:Program)(w:World)(E:Value→Shared→Prop)(Q:Value→Shared→Prop)(h:Q (.bool (decide (a > c))) s) :
   wpAny (model prog w) A (richCompare .Gt (.int a t) (.int c u)) Q E s:=
 (PyProof.Rows.gt_int h:wpAny (model prog w) A (compareOp .Gt (.int a t) (.int c u)) Q E s)
section
open PySem.SeqAt
open PySem.AutoSeq1 (wpAny_loadPart')
open PySem.MeetsSeq PySem.MeetsSeq2 PySem.MeetsSeq3
theorem a6x(l b:Addr)(items items2:Array Value)(n n2:Nat)(dd dd2:Option Addr)(sl sl2:Array (Option Value))(ns ms:List Int)(hi:IntsAre items.toList ns)(hj:IntsAre items2.toList ms) :
   Meets (Builtin.«tuple.__gt__» ⟨[.ref l,.ref b],[]⟩)
     (fun _ R s=>s.heap.get? l=some { cls:=.type "tuple",dict:=dd,data:=.seq items n,slots:=sl }∧s.heap.get? b=some { cls:=.type "tuple",dict:=dd2,data:=.seq items2 n2,slots:=sl2 }∧
       R (.ok (.ret (.bool (a4q ns ms)))) s):=
 .of_wp fun prog w A R s h=>by
   obtain⟨hp,g,d,tk,os⟩:=s;obtain⟨hl,hb,h⟩:=h
   have f2:=AutoSeq1.sub_tuple_tuple
   have z1:items.size=ns.length:=by rw[← hi.length];simp
   have z2:items2.size=ms.length:=by rw[← hj.length];simp
   wp_walk using wpAny_loadPart' hl,wpAny_loadPart' hb,wpAny_forIn_list _ (fun rest b s'=>b.1=none∧s'=⟨hp,g,d,tk,os⟩∧∃ (vs ws:List Value) (ns' ms':List Int),rest=vs.zip ws∧
     IntsAre vs ns'∧IntsAre ws ms'∧ns'.length+items2.size=ms'.length+items.size∧R (.ok (.ret (.bool (a4q ns' ms')))) ⟨hp,g,d,tk,os⟩) _
   case turn=>
     rintro⟨y,x⟩ rest b s' ⟨hb',rfl,vs,ws,ns',ms',hz,hvi,hwi,hlen,hR⟩
     cases hvi with
     | nil=>rw[List.zip_nil_left] at hz;cases hz
     | cons a t hvi'=>
       cases hwi with
       | nil=>rw[List.zip_nil_right] at hz;cases hz
       | cons c u hwi'=>
         rw[b7f] at hz
         injection hz with hyx hrest
         injection hyx with hy hx
         subst hy hx
         rw[a4p] at hR
         simp only[b6c] at hlen
         obtain⟨e,he,hiff⟩:=a7h A.in1 ⟨hp,g,d,tk,os⟩ a t c u
         refine wpAny_bind (he prog w _ _ ?_)
         cases e with
         | true=>
           rw[if_pos (hiff.mp rfl)] at hR
           wp_walk
           exact⟨rfl,rfl,_,_,_,_,hrest,hvi',hwi',by omega,hR⟩
         | false=>
           rw[if_neg (fun q=>absurd (hiff.mpr q) b5r)] at hR
           have hri:=rcGt_int A.in1 ⟨hp,g,d,tk,os⟩ a t c u prog w
           wp_walk using hri
           exact⟨_,rfl,by simpa using hR⟩
   case fin=>
     rintro⟨b1,b2⟩ s' ⟨hb',rfl,vs,ws,ns',ms',hz,hvi,hwi,hlen,hR⟩
     simp only at hb'
     subst hb'
     have hv:a4q ns' ms'=decide (items.size > items2.size):=by
       cases hvi with
       | nil=>
         cases hwi with
         | nil=>
           simp only[b6x] at hlen
           rw[a4c]
           first | exact (decide_eq_true (by omega)).symm | exact (decide_eq_false (by omega)).symm
         | cons c u hw=>
           simp only[b6x,b6c] at hlen
           rw[a6c]
           first | exact (decide_eq_true (by omega)).symm | exact (decide_eq_false (by omega)).symm
       | cons a t hv=>
         cases hwi with
         | nil=>
           simp only[b6x,b6c] at hlen
           rw[a6d]
           first | exact (decide_eq_true (by omega)).symm | exact (decide_eq_false (by omega)).symm
         | cons c u hw=>
           rw[b7f] at hz
           cases hz
     rw[hv] at hR
     wp_walk
     exact⟨_,rfl,by simpa [Builtin.Tuple.tupleCompareSizes] using hR⟩
   case h=>
     exact⟨rfl,rfl,items.toList,items2.toList,ns,ms,rfl,hi,hj,by omega,h⟩
end
section
variable {prog:Program} {w:World} {A:Around} {E:Value→Shared→Prop} {s:Shared}
theorem b1s{l b:Addr}{items items2:Array Value}{ns ms:List Int}{Q:Value→Shared→Prop}(hl:IsTup s.heap l items)(hb:IsTup s.heap b items2)(hi:IntsAre items.toList ns)(hj:IntsAre items2.toList ms)(hu:A.units<cLine)(h:Q (.bool (a4q ns ms)) s):wpAny (model prog w) A (compareOp .Gt (.ref l) (.ref b)) Q E s:=by
 obtain⟨⟨cls,dd,data,sl⟩,ho,hc,n,hd⟩:=id hl
 obtain⟨⟨cls2,dd2,data2,sl2⟩,ho2,hc2,n2,hd2⟩:=id hb
 simp only at hc hd hc2 hd2
 subst hc hd hc2 hd2
 exact richCompare_meets_room (op:=.Gt) ⟨_,ho,rfl⟩ ⟨_,ho2,rfl⟩ PySem.F.slot_tuple_gt PySem.F.entry_tuple_gt (PySem.F.args_tuple_gt_2 _ _) (a6x l b items items2 n n2 dd dd2 sl sl2 ns ms hi hj)
   ⟨ho,ho2,show Value.bool (a4q ns ms)≠Value.notImplemented∧Q (.bool (a4q ns ms)) s from ⟨(fun x=>nomatch x),h⟩⟩ hu
end
end Cv
namespace Cv
open PySem PySem.Spec PyProof.Rows L2
def PrO(o:Obj)(p:Pl):Prop:=o.cls=.type "tuple" ∧ ∃ (t1 t2:Tok) (n:Nat),o.data=.seq #[.int p.1 t1,.int p.2 t2] n
theorem PrO.tup{h:Heap}{a:Addr}{o:Obj}{p:Pl}(x:PrO o p)(e:h.get? a=some o):∃ its:Array Value,IsTup h a its∧IntsAre its.toList [p.1,p.2]:=by
 obtain⟨c,t1,t2,n,d⟩:=x
 exact⟨_,⟨o,e,c,n,d⟩,.cons _ _ (.cons _ _ .nil)⟩
section
variable {prog:Program} {w:World} {A:Around} {E:Value→Shared→Prop} {s:Shared}
theorem lt_prs{a b:Addr}{oa ob:Obj}{p q:Pl}{Q:Value→Shared→Prop}(ha:s.heap.get? a=some oa)(pa:PrO oa p)(hb:s.heap.get? b=some ob)(pb:PrO ob q)(hu:A.units<cLine)(h:Q (.bool (decide (lxP p q))) s) :
   wpAny (model prog w) A (richCompare .Lt (.ref a) (.ref b)) Q E s:=by
 obtain⟨i1,t1,j1⟩:=pa.tup ha
 obtain⟨i2,t2,j2⟩:=pb.tup hb
 refine HT.b1p t1 t2 j1 j2 hu ?_
 have e:HT.a4o [p.1,p.2] [q.1,q.2]=decide (lxP p q):=by
   rw[HT.a4n,HT.a4n,HT.a4b]
   unfold lxP
   by_cases h1:p.1=q.1
   · by_cases h2:p.2=q.2
     · rw[if_pos h1,if_pos h2];exact (decide_eq_false (by omega)).symm
     · rw[if_pos h1,if_neg h2];exact decide_eq_decide.mpr (by omega)
   · rw[if_neg h1];exact decide_eq_decide.mpr (by omega)
 rw[e];exact h
theorem gt_prs{a b:Addr}{oa ob:Obj}{p q:Pl}{Q:Value→Shared→Prop}(ha:s.heap.get? a=some oa)(pa:PrO oa p)(hb:s.heap.get? b=some ob)(pb:PrO ob q)(hu:A.units<cLine)(h:Q (.bool (decide (lxP q p))) s) :
   wpAny (model prog w) A (richCompare .Gt (.ref a) (.ref b)) Q E s:=by
 obtain⟨i1,t1,j1⟩:=pa.tup ha
 obtain⟨i2,t2,j2⟩:=pb.tup hb
 refine b1s t1 t2 j1 j2 hu ?_
 have e:a4q [p.1,p.2] [q.1,q.2]=decide (lxP q p):=by
   rw[a4p,a4p,a4c]
   unfold lxP
   by_cases h1:p.1=q.1
   · by_cases h2:p.2=q.2
     · rw[if_pos h1,if_pos h2];exact (decide_eq_false (by omega)).symm
     · rw[if_pos h1,if_neg h2];exact decide_eq_decide.mpr (by omega)
   · rw[if_neg h1];exact decide_eq_decide.mpr (by omega)
 rw[e];exact h
end
section
variable {X:Cx}
def rLeT(K:b5h):R2:=fun x y H Q=>∃ a b ns ms,x=.ref a∧y=.ref b∧SqT K H a (ns.map V.int)∧SqT K H b (ms.map V.int)∧Q (.bl (a3m ns ms)) H
theorem op_leT(hu:X.A.units<cLine):OpR X (compareOp .LtE) (rLeT X.K):=by
 intro pins s σ H x y v u Q I rx ry h
 obtain⟨a,b,ns,ms,rfl,rfl,ha,hb,q⟩:=h
 cases rx
 cases ry
 obtain⟨its,r1,p1,_⟩:=I.tuple ha
 obtain⟨its2,r2,p2,_⟩:=I.tuple hb
 have i1:IntsAre its.toArray.toList ns:=a4s r1
 have i2:IntsAre its2.toArray.toList ms:=a4s r2
 exact b1q p1 p2 i1 i2 hu ⟨.bl (a3m ns ms),H,I,rfl,q⟩
end
section
variable {prog:Program} {w:World} {A:Around} {E:Value→Shared→Prop} {s:Shared}
theorem mm_min{l a b:Addr}{oa ob:Obj}{p q:Pl}{Q:Value→Shared→Prop}(hh:A.handled=none)(hu:A.units+8<cLine)(hl:s.heap.IsList l #[.ref a,.ref b])(ha:s.heap.get? a=some oa)(pa:PrO oa p)(hb:s.heap.get? b=some ob)(pb:PrO ob q)(h:∀ h' tk,(∀ c o,s.heap.get? c=some o→h'.get? c=some o)→Q (if lxP q p then .ref b else .ref a) { s with heap:=h',toks:=tk }) :
   wpAny (model prog w) A (call (.builtin "min") [.ref l]) Q E s:=by
 have hname:(toString "min" ++ toString ".loop" : String) = "min.loop":=by decide
 have hlt:l<s.heap.objs.size:=by obtain⟨_,e,_⟩:=hl;exact Heap.lt_size e
 refine call_function_tree F.kind_min F.plain_min F.entry_min (F.args_min1 _) ?_
 show wpAny _ A.in1 (Builtin.Builtins.bindParams "min" ["key","default"] 0 ⟨[],[]⟩ >>= _) _ _ s
 refine wpAny_bind (wpAny_of_eq (show Builtin.Builtins.bindParams "min" ["key","default"] 0 ⟨[],[]⟩=pure [none,none] from rfl) ?_)
 refine wpAny_bind (wpAny_pure ?_)
 refine wpAny_bind (wpAny_pyIter_list hl ?_)
 refine wpAny_bind (wpAny_newObj_type ?_)
 rw[hname]
 have W:=Walks.list (prog:=prog) (w:=w) (A:=A.in1) hh s.heap.objs.size l (b5k hlt) #[.ref a,.ref b]
 have st0:((s.heap.push { cls:=.type "list_iterator",data:=.fields #[.ref l,.int 0 0] }).push { cls:=.type "list",data:=.seq [].toArray }).IsListIter s.heap.objs.size l 0∧((s.heap.push { cls:=.type "list_iterator",data:=.fields #[.ref l,.int 0 0] }).push { cls:=.type "list",data:=.seq [].toArray }).IsList l #[.ref a,.ref b]:=
   ⟨⟨_,Heap.get?_push_of_some _ (Heap.get?_push_size _ rfl),rfl,rfl⟩,(hl.push _).push _⟩
 have hS0:((s.heap.push { cls:=.type "list_iterator",data:=.fields #[.ref l,.int 0 0] }).push { cls:=.type "list",data:=.seq [].toArray }).get? (s.heap.push { cls:=.type "list_iterator",data:=.fields #[.ref l,.int 0 0] }).objs.size=some { cls:=.type "list",dict:=none,data:=.seq #[] 0,slots:=#[] }:=Heap.get?_push_size _ rfl
 have k0:∀ c o,s.heap.get? c=some o→((s.heap.push { cls:=.type "list_iterator",data:=.fields #[.ref l,.int 0 0] }).push { cls:=.type "list",data:=.seq [].toArray }).get? c=some o:=fun c o e=>Heap.get?_push_of_some _ (Heap.get?_push_of_some _ e)
 have hSI:(s.heap.push { cls:=.type "list_iterator",data:=.fields #[.ref l,.int 0 0] }).objs.size=s.heap.objs.size+1:=Heap.size_push ..
 generalize ((s.heap.push { cls:=.type "list_iterator",data:=.fields #[.ref l,.int 0 0] }).push { cls:=.type "list",data:=.seq [].toArray })=h0 at *
 generalize (s.heap.push { cls:=.type "list_iterator",data:=.fields #[.ref l,.int 0 0] }).objs.size=S at *
 have nS:∀ c o,s.heap.get? c=some o→c≠S:=fun c o e e2=>absurd (Heap.lt_size e) (by rw[e2,hSI];exact Nat.not_lt.mpr (Nat.le_succ _))
 have nI:∀ c o,s.heap.get? c=some o→c∉[s.heap.objs.size]:=fun c o e hm=>b5k (Heap.lt_size e) (b6d.mp hm)
 have SI:S∉[s.heap.objs.size]:=fun hm=>Nat.succ_ne_self _ (hSI.symm.trans (b6d.mp hm))
 have Sf:S∉[s.heap.objs.size,l]:=fun hm=>by
   rcases b6a.mp hm with e | hm
   · exact SI (b6d.mpr e)
   · exact absurd hlt (by rw[← b6d.mp hm,hSI];exact Nat.not_lt.mpr (Nat.le_succ _))
 refine wpAny_pure ⟨plainId_quiet F.plain_min_loop _,?_⟩
 refine codeAny_builtin F.entry_min_loop ?_
 rw[Around.under_plainId F.plain_min_loop _]
 show wpAny _ A.in1 (seqItems? (.ref S) >>= _) _ _ _
 refine wpAny_bind (wpAny_seqItems hS0 rfl ?_)
 show wpAny _ A.in1 (tryCatch (pyNext (.ref s.heap.objs.size)) _ >>= _) _ _ _
 refine wpAny_bind (wpAny_tryCatch (W.item 0 _ _ _ (by simp) st0 fun v h1 tk1 hP st1 k1=>?_))
 obtain rfl:Value.ref a=v:=by simpa using hP
 have hS1:=k1 S _ SI hS0
 show wpAny _ A.in1 (updateSeq S (fun _=>#[.ref a,.ref a]) >>= _) _ _ _
 refine wpAny_bind ?_
 refine wpAny_updateSeq hS1 rfl ?_
 have st1':=W.frame 1 _ (h1.update S (Obj.mapSeq fun _=>#[.ref a,.ref a])) st1 fun c hc o e=>(Heap.get?_update_other _ _ (fun z:S=c=>Sf (by rw[z];exact hc))).trans e
 have hS1':=Heap.get?_update_self (Obj.mapSeq fun _=>#[Value.ref a,Value.ref a]) hS1 rfl
 have k1':∀ c o,s.heap.get? c=some o→(h1.update S (Obj.mapSeq fun _=>#[.ref a,.ref a])).get? c=some o:=fun c o e=>(Heap.get?_update_other _ _ (Ne.symm (nS c o e))).trans (k1 c o (nI c o e) (k0 c o e))
 generalize h1.update S (Obj.mapSeq fun _=>#[.ref a,.ref a])=h1' at *
 rw[hname]
 refine wpAny_pure ⟨plainId_quiet F.plain_min_loop _,?_⟩
 refine codeAny_builtin F.entry_min_loop ?_
 rw[Around.under_plainId F.plain_min_loop _]
 show wpAny _ A.in1 (seqItems? (.ref S) >>= _) _ _ _
 refine wpAny_bind (wpAny_seqItems hS1' rfl ?_)
 show wpAny _ A.in1 (tryCatch (pyNext (.ref s.heap.objs.size)) _ >>= _) _ _ _
 refine wpAny_bind (wpAny_tryCatch (W.item 1 _ _ _ (by simp) st1' fun v h2 tk2 hP2 st2 k2=>?_))
 obtain rfl:Value.ref b=v:=by simpa using hP2
 have hS2:=k2 S _ SI hS1'
 have k2':∀ c o,s.heap.get? c=some o→h2.get? c=some o:=fun c o e=>k2 c o (nI c o e) (k1' c o e)
 show wpAny _ A.in1 (tryCatch (holding [Value.ref b,.ref b] (richCompare .Lt (.ref b) (.ref a) >>= _)) _ >>= _) _ _ _
 refine wpAny_bind (wpAny_tryCatch (wpAny_holding (wpAny_bind (lt_prs (A:=A.in1) (k2' b ob hb) pb (k2' a oa ha) pa (by show A.units+1<cLine;omega) ?_))))
 refine wpAny_bind (wpAny_holding (wpAny_truthy_bool ?_))
 refine wpAny_bind (wpAny_letGo (wpAny_pure ?_))
 have fin:∀ (h3:Heap) (x:Value) (tk:Nat) (m:Nat),(h3.IsListIter s.heap.objs.size l 2∧h3.IsList l #[.ref a,.ref b])→h3.get? S=some { cls:=.type "list",dict:=none,data:=.seq #[x,x] m,slots:=#[] }→(∀ c o,s.heap.get? c=some o→h3.get? c=some o)→
     (∀ h' tk,(∀ c o,s.heap.get? c=some o→h'.get? c=some o)→Q x { s with heap:=h',toks:=tk })→codeAny (model prog w) A (.builtin "min.loop" ⟨[.ref s.heap.objs.size,.none,.ref S],[]⟩) (wants Q E) { s with heap:=h3,toks:=tk }:=fun h3 x tk m st3 hS3 k3 hq=>by
   refine codeAny_builtin F.entry_min_loop ?_
   rw[Around.under_plainId F.plain_min_loop _]
   show wpAny _ A.in1 (seqItems? (.ref S) >>= _) _ _ _
   refine wpAny_bind (wpAny_seqItems hS3 rfl ?_)
   show wpAny _ A.in1 (tryCatch (pyNext (.ref s.heap.objs.size)) _ >>= _) _ _ _
   refine wpAny_bind (wpAny_tryCatch (W.done _ _ _ st3 fun h4 tk4 k4=>?_))
   have hS4:=k4 S _ SI hS3
   show wpAny _ A.in1 (updateSeq S (fun _=>#[]) >>= _) _ _ _
   refine wpAny_bind ?_
   refine wpAny_updateSeq hS4 rfl (wpAny_bind (wpAny_letGo (wpAny_pure ?_)))
   exact hq _ _ fun c o e=>(Heap.get?_update_other _ _ (Ne.symm (nS c o e))).trans (k4 c o (nI c o e) (k3 c o e))
 by_cases hc:lxP q p
 · rw[decide_eq_true hc]
   simp only[if_true]
   refine wpAny_bind ?_
   refine wpAny_updateSeq hS2 rfl (wpAny_bind (wpAny_letGo ?_))
   rw[hname]
   refine wpAny_pure ⟨plainId_quiet F.plain_min_loop _,fin _ (.ref b) _ _ (W.frame 2 _ _ st2 fun c hc o e=>(Heap.get?_update_other _ _ (fun z:S=c=>Sf (by rw[z];exact hc))).trans e) (Heap.get?_update_self _ hS2 rfl) (fun c o e=>(Heap.get?_update_other _ _ (Ne.symm (nS c o e))).trans (k2' c o e)) fun h' tk k=>?_⟩
   have:=h h' tk k
   rwa [if_pos hc] at this
 · rw[decide_eq_false hc]
   simp only[b6s,if_false]
   refine wpAny_bind (wpAny_letGo ?_)
   rw[hname]
   refine wpAny_pure ⟨plainId_quiet F.plain_min_loop _,fin _ (.ref a) _ _ st2 hS2 k2' fun h' tk k=>?_⟩
   have:=h h' tk k
   rwa [if_neg hc] at this
theorem mm_max{l a b:Addr}{oa ob:Obj}{p q:Pl}{Q:Value→Shared→Prop}(hh:A.handled=none)(hu:A.units+8<cLine)(hl:s.heap.IsList l #[.ref a,.ref b])(ha:s.heap.get? a=some oa)(pa:PrO oa p)(hb:s.heap.get? b=some ob)(pb:PrO ob q)(h:∀ h' tk,(∀ c o,s.heap.get? c=some o→h'.get? c=some o)→Q (if lxP p q then .ref b else .ref a) { s with heap:=h',toks:=tk }) :
   wpAny (model prog w) A (call (.builtin "max") [.ref l]) Q E s:=by
 have hname:(toString "max" ++ toString ".loop" : String) = "max.loop":=by decide
 have hlt:l<s.heap.objs.size:=by obtain⟨_,e,_⟩:=hl;exact Heap.lt_size e
 refine call_function_tree F.kind_max F.plain_max F.entry_max (F.args_max1 _) ?_
 show wpAny _ A.in1 (Builtin.Builtins.bindParams "max" ["key","default"] 0 ⟨[],[]⟩ >>= _) _ _ s
 refine wpAny_bind (wpAny_of_eq (show Builtin.Builtins.bindParams "max" ["key","default"] 0 ⟨[],[]⟩=pure [none,none] from rfl) ?_)
 refine wpAny_bind (wpAny_pure ?_)
 refine wpAny_bind (wpAny_pyIter_list hl ?_)
 refine wpAny_bind (wpAny_newObj_type ?_)
 rw[hname]
 have W:=Walks.list (prog:=prog) (w:=w) (A:=A.in1) hh s.heap.objs.size l (b5k hlt) #[.ref a,.ref b]
 have st0:((s.heap.push { cls:=.type "list_iterator",data:=.fields #[.ref l,.int 0 0] }).push { cls:=.type "list",data:=.seq [].toArray }).IsListIter s.heap.objs.size l 0∧((s.heap.push { cls:=.type "list_iterator",data:=.fields #[.ref l,.int 0 0] }).push { cls:=.type "list",data:=.seq [].toArray }).IsList l #[.ref a,.ref b]:=
   ⟨⟨_,Heap.get?_push_of_some _ (Heap.get?_push_size _ rfl),rfl,rfl⟩,(hl.push _).push _⟩
 have hS0:((s.heap.push { cls:=.type "list_iterator",data:=.fields #[.ref l,.int 0 0] }).push { cls:=.type "list",data:=.seq [].toArray }).get? (s.heap.push { cls:=.type "list_iterator",data:=.fields #[.ref l,.int 0 0] }).objs.size=some { cls:=.type "list",dict:=none,data:=.seq #[] 0,slots:=#[] }:=Heap.get?_push_size _ rfl
 have k0:∀ c o,s.heap.get? c=some o→((s.heap.push { cls:=.type "list_iterator",data:=.fields #[.ref l,.int 0 0] }).push { cls:=.type "list",data:=.seq [].toArray }).get? c=some o:=fun c o e=>Heap.get?_push_of_some _ (Heap.get?_push_of_some _ e)
 have hSI:(s.heap.push { cls:=.type "list_iterator",data:=.fields #[.ref l,.int 0 0] }).objs.size=s.heap.objs.size+1:=Heap.size_push ..
 generalize ((s.heap.push { cls:=.type "list_iterator",data:=.fields #[.ref l,.int 0 0] }).push { cls:=.type "list",data:=.seq [].toArray })=h0 at *
 generalize (s.heap.push { cls:=.type "list_iterator",data:=.fields #[.ref l,.int 0 0] }).objs.size=S at *
 have nS:∀ c o,s.heap.get? c=some o→c≠S:=fun c o e e2=>absurd (Heap.lt_size e) (by rw[e2,hSI];exact Nat.not_lt.mpr (Nat.le_succ _))
 have nI:∀ c o,s.heap.get? c=some o→c∉[s.heap.objs.size]:=fun c o e hm=>b5k (Heap.lt_size e) (b6d.mp hm)
 have SI:S∉[s.heap.objs.size]:=fun hm=>Nat.succ_ne_self _ (hSI.symm.trans (b6d.mp hm))
 have Sf:S∉[s.heap.objs.size,l]:=fun hm=>by
   rcases b6a.mp hm with e | hm
   · exact SI (b6d.mpr e)
   · exact absurd hlt (by rw[← b6d.mp hm,hSI];exact Nat.not_lt.mpr (Nat.le_succ _))
 refine wpAny_pure ⟨plainId_quiet F.plain_max_loop _,?_⟩
 refine codeAny_builtin F.entry_max_loop ?_
 rw[Around.under_plainId F.plain_max_loop _]
 show wpAny _ A.in1 (seqItems? (.ref S) >>= _) _ _ _
 refine wpAny_bind (wpAny_seqItems hS0 rfl ?_)
 show wpAny _ A.in1 (tryCatch (pyNext (.ref s.heap.objs.size)) _ >>= _) _ _ _
 refine wpAny_bind (wpAny_tryCatch (W.item 0 _ _ _ (by simp) st0 fun v h1 tk1 hP st1 k1=>?_))
 obtain rfl:Value.ref a=v:=by simpa using hP
 have hS1:=k1 S _ SI hS0
 show wpAny _ A.in1 (updateSeq S (fun _=>#[.ref a,.ref a]) >>= _) _ _ _
 refine wpAny_bind ?_
 refine wpAny_updateSeq hS1 rfl ?_
 have st1':=W.frame 1 _ (h1.update S (Obj.mapSeq fun _=>#[.ref a,.ref a])) st1 fun c hc o e=>(Heap.get?_update_other _ _ (fun z:S=c=>Sf (by rw[z];exact hc))).trans e
 have hS1':=Heap.get?_update_self (Obj.mapSeq fun _=>#[Value.ref a,Value.ref a]) hS1 rfl
 have k1':∀ c o,s.heap.get? c=some o→(h1.update S (Obj.mapSeq fun _=>#[.ref a,.ref a])).get? c=some o:=fun c o e=>(Heap.get?_update_other _ _ (Ne.symm (nS c o e))).trans (k1 c o (nI c o e) (k0 c o e))
 generalize h1.update S (Obj.mapSeq fun _=>#[.ref a,.ref a])=h1' at *
 rw[hname]
 refine wpAny_pure ⟨plainId_quiet F.plain_max_loop _,?_⟩
 refine codeAny_builtin F.entry_max_loop ?_
 rw[Around.under_plainId F.plain_max_loop _]
 show wpAny _ A.in1 (seqItems? (.ref S) >>= _) _ _ _
 refine wpAny_bind (wpAny_seqItems hS1' rfl ?_)
 show wpAny _ A.in1 (tryCatch (pyNext (.ref s.heap.objs.size)) _ >>= _) _ _ _
 refine wpAny_bind (wpAny_tryCatch (W.item 1 _ _ _ (by simp) st1' fun v h2 tk2 hP2 st2 k2=>?_))
 obtain rfl:Value.ref b=v:=by simpa using hP2
 have hS2:=k2 S _ SI hS1'
 have k2':∀ c o,s.heap.get? c=some o→h2.get? c=some o:=fun c o e=>k2 c o (nI c o e) (k1' c o e)
 show wpAny _ A.in1 (tryCatch (holding [Value.ref b,.ref b] (richCompare .Gt (.ref b) (.ref a) >>= _)) _ >>= _) _ _ _
 refine wpAny_bind (wpAny_tryCatch (wpAny_holding (wpAny_bind (gt_prs (A:=A.in1) (k2' b ob hb) pb (k2' a oa ha) pa (by show A.units+1<cLine;omega) ?_))))
 refine wpAny_bind (wpAny_holding (wpAny_truthy_bool ?_))
 refine wpAny_bind (wpAny_letGo (wpAny_pure ?_))
 have fin:∀ (h3:Heap) (x:Value) (tk:Nat) (m:Nat),(h3.IsListIter s.heap.objs.size l 2∧h3.IsList l #[.ref a,.ref b])→h3.get? S=some { cls:=.type "list",dict:=none,data:=.seq #[x,x] m,slots:=#[] }→(∀ c o,s.heap.get? c=some o→h3.get? c=some o)→
     (∀ h' tk,(∀ c o,s.heap.get? c=some o→h'.get? c=some o)→Q x { s with heap:=h',toks:=tk })→codeAny (model prog w) A (.builtin "max.loop" ⟨[.ref s.heap.objs.size,.none,.ref S],[]⟩) (wants Q E) { s with heap:=h3,toks:=tk }:=fun h3 x tk m st3 hS3 k3 hq=>by
   refine codeAny_builtin F.entry_max_loop ?_
   rw[Around.under_plainId F.plain_max_loop _]
   show wpAny _ A.in1 (seqItems? (.ref S) >>= _) _ _ _
   refine wpAny_bind (wpAny_seqItems hS3 rfl ?_)
   show wpAny _ A.in1 (tryCatch (pyNext (.ref s.heap.objs.size)) _ >>= _) _ _ _
   refine wpAny_bind (wpAny_tryCatch (W.done _ _ _ st3 fun h4 tk4 k4=>?_))
   have hS4:=k4 S _ SI hS3
   show wpAny _ A.in1 (updateSeq S (fun _=>#[]) >>= _) _ _ _
   refine wpAny_bind ?_
   refine wpAny_updateSeq hS4 rfl (wpAny_bind (wpAny_letGo (wpAny_pure ?_)))
   exact hq _ _ fun c o e=>(Heap.get?_update_other _ _ (Ne.symm (nS c o e))).trans (k4 c o (nI c o e) (k3 c o e))
 by_cases hc:lxP p q
 · rw[decide_eq_true hc]
   simp only[if_true]
   refine wpAny_bind ?_
   refine wpAny_updateSeq hS2 rfl (wpAny_bind (wpAny_letGo ?_))
   rw[hname]
   refine wpAny_pure ⟨plainId_quiet F.plain_max_loop _,fin _ (.ref b) _ _ (W.frame 2 _ _ st2 fun c hc o e=>(Heap.get?_update_other _ _ (fun z:S=c=>Sf (by rw[z];exact hc))).trans e) (Heap.get?_update_self _ hS2 rfl) (fun c o e=>(Heap.get?_update_other _ _ (Ne.symm (nS c o e))).trans (k2' c o e)) fun h' tk k=>?_⟩
   have:=h h' tk k
   rwa [if_pos hc] at this
 · rw[decide_eq_false hc]
   simp only[b6s,if_false]
   refine wpAny_bind (wpAny_letGo ?_)
   rw[hname]
   refine wpAny_pure ⟨plainId_quiet F.plain_max_loop _,fin _ (.ref a) _ _ st2 hS2 k2' fun h' tk k=>?_⟩
   have:=h h' tk k
   rwa [if_neg hc] at this
end
section
variable {X:Cx}
theorem b4s(hc:X.calm=true)(hu:X.A.units+8<cLine):a2k X (.builtin "min") (fun xs H Q=>∃ (l a b:Addr) (p q:Pl),xs=[.ref l]∧SqL X.K H l [.ref a,.ref b]∧H a=some (.tup [.int p.1,.int p.2])∧H b=some (.tup [.int q.1,.int q.2])∧Q (if lxP q p then .ref b else .ref a) H):=by
 intro pins s σ H xs us Q I r h
 obtain⟨l,a,b,p,q,rfl,hq,ea,eb,hQ⟩:=h
 obtain⟨u,rfl,ru⟩:=a2v r
 cases ru
 obtain⟨its,rv,pl,hz⟩:=I.list hq
 obtain⟨u1,u2,rfl,e1,e2⟩:=a1t rv
 cases e1;cases e2
 obtain⟨_,ia,ra,oa,a1,a2,na,a3⟩:=(show a1s X.prog X.w H s.heap a (.tup [.int p.1,.int p.2]) from I.hok _ _ ea)
 obtain⟨_,ib,rb,ob,b1,b2,nb,b3⟩:=(show a1s X.prog X.w H s.heap b (.tup [.int q.1,.int q.2]) from I.hok _ _ eb)
 obtain⟨w1,w2,rfl,⟨t1,rfl⟩,⟨t2,rfl⟩⟩:=a1t ra
 obtain⟨w1,w2,rfl,⟨v1,rfl⟩,⟨v2,rfl⟩⟩:=a1t rb
 refine mm_min (I.ok.hd hc) hu pl.isList a1 ⟨a2,t1,t2,na,a3⟩ b1 ⟨b2,v1,v2,nb,b3⟩ fun h' tk k=>?_
 by_cases hx:lxP q p
 · rw[if_pos hx] at hQ ⊢
   exact⟨.ref b,H,I.kept k,rfl,hQ⟩
 · rw[if_neg hx] at hQ ⊢
   exact⟨.ref a,H,I.kept k,rfl,hQ⟩
theorem b4u(hc:X.calm=true)(hu:X.A.units+8<cLine):a2k X (.builtin "max") (fun xs H Q=>∃ (l a b:Addr) (p q:Pl),xs=[.ref l]∧SqL X.K H l [.ref a,.ref b]∧H a=some (.tup [.int p.1,.int p.2])∧H b=some (.tup [.int q.1,.int q.2])∧Q (if lxP p q then .ref b else .ref a) H):=by
 intro pins s σ H xs us Q I r h
 obtain⟨l,a,b,p,q,rfl,hq,ea,eb,hQ⟩:=h
 obtain⟨u,rfl,ru⟩:=a2v r
 cases ru
 obtain⟨its,rv,pl,hz⟩:=I.list hq
 obtain⟨u1,u2,rfl,e1,e2⟩:=a1t rv
 cases e1;cases e2
 obtain⟨_,ia,ra,oa,a1,a2,na,a3⟩:=(show a1s X.prog X.w H s.heap a (.tup [.int p.1,.int p.2]) from I.hok _ _ ea)
 obtain⟨_,ib,rb,ob,b1,b2,nb,b3⟩:=(show a1s X.prog X.w H s.heap b (.tup [.int q.1,.int q.2]) from I.hok _ _ eb)
 obtain⟨w1,w2,rfl,⟨t1,rfl⟩,⟨t2,rfl⟩⟩:=a1t ra
 obtain⟨w1,w2,rfl,⟨v1,rfl⟩,⟨v2,rfl⟩⟩:=a1t rb
 refine mm_max (I.ok.hd hc) hu pl.isList a1 ⟨a2,t1,t2,na,a3⟩ b1 ⟨b2,v1,v2,nb,b3⟩ fun h' tk k=>?_
 by_cases hx:lxP p q
 · rw[if_pos hx] at hQ ⊢
   exact⟨.ref b,H,I.kept k,rfl,hQ⟩
 · rw[if_neg hx] at hQ ⊢
   exact⟨.ref a,H,I.kept k,rfl,hQ⟩
end
end Cv
namespace Cv
def trQ(a b c:Pt):Rat:=(b.1 - a.1)*(c.2 - a.2) - (b.2 - a.2)*(c.1 - a.1)
def ovr(Px Py:Int)(p:Pl):Pt:=(b5l p.1 Px,b5l p.2 Py)
theorem b2i{Px Py:Int}(hx:0<Px)(hy:0<Py)(a b c:Pl):trQ (ovr Px Py a) (ovr Px Py b) (ovr Px Py c)*((Px:Rat)*(Py:Rat))=((tr a b c:Int):Rat):=by
 have hx':(Px:Rat)≠0:=by exact_mod_cast (by omega:Px≠0)
 have hy':(Py:Rat)≠0:=by exact_mod_cast (by omega:Py≠0)
 unfold trQ ovr tr
 simp only[b7i,Rat.intCast_sub,Rat.intCast_mul]
 grind
end Cv
namespace Cv
def g0(l:List Pl)(i:Nat):Pl:=l.getD i (0,0)
theorem a1w{l:List Pl}{i:Nat}(h:i<l.length):l[i]?=some (g0 l i):=by
 unfold g0
 rw[b5z,b5i h];rfl
theorem a2o{l:List Pl}{i:Nat}(h:i<l.length):g0 l i∈l:=b6e (a1w h)
end Cv
namespace Cv
def gq(l:List Pt)(i:Nat):Pt:=l.getD i (0,0)
theorem gq_get{l:List Pt}{i:Nat}(h:i<l.length):l[i]?=some (gq l i):=by
 unfold gq
 rw[b5z,b5i h];rfl
theorem a8p{Px Py:Int}{l:List Pl}{i:Nat}(h:i<l.length):gq (l.map (ovr Px Py)) i=ovr Px Py (g0 l i):=by
 have h2:=gq_get (l:=l.map (ovr Px Py)) (i:=i) (by simpa using h)
 rw[b5s,a1w h] at h2
 exact (b6l.inj h2).symm
theorem a8h{P:Int}(h:0<P):(0:Rat)<(P:Rat):=by exact_mod_cast h
theorem trQ_nn{Px Py:Int}(hx:0<Px)(hy:0<Py)(a b c:Pl):0≤trQ (ovr Px Py a) (ovr Px Py b) (ovr Px Py c)↔0≤tr a b c:=by
 have e:=b2i hx hy a b c
 have hp:(0:Rat)<(Px:Rat)*(Py:Rat):=Rat.mul_pos (a8h hx) (a8h hy)
 constructor
 · intro h
   have:(0:Rat)≤((tr a b c:Int):Rat):=by rw[← e];exact Rat.mul_nonneg h (Rat.le_of_lt hp)
   exact_mod_cast this
 · intro h
   have h':(0:Rat)≤((tr a b c:Int):Rat):=by exact_mod_cast h
   rw[← e] at h'
   rcases (Rat.le_total:0≤(trQ (ovr Px Py a) (ovr Px Py b) (ovr Px Py c))∨_) with k | k
   · exact k
   · have:trQ (ovr Px Py a) (ovr Px Py b) (ovr Px Py c)*((Px:Rat)*(Py:Rat))=0:=by
       have h3:=Rat.mul_nonneg (show 0≤- trQ (ovr Px Py a) (ovr Px Py b) (ovr Px Py c) by grind) (Rat.le_of_lt hp)
       grind
     rcases Rat.mul_eq_zero.mp this with z | z
     · rw[z];exact Rat.le_refl
     · grind
theorem trQ_zero{Px Py:Int}(hx:0<Px)(hy:0<Py)(a b c:Pl):trQ (ovr Px Py a) (ovr Px Py b) (ovr Px Py c)=0↔tr a b c=0:=by
 have e:=b2i hx hy a b c
 have hp:(0:Rat)<(Px:Rat)*(Py:Rat):=Rat.mul_pos (a8h hx) (a8h hy)
 constructor
 · intro h
   rw[h,Rat.zero_mul] at e
   exact_mod_cast e.symm
 · intro h
   rw[h] at e
   rcases Rat.mul_eq_zero.mp (by simpa using e) with z | z
   · exact z
   · grind
theorem a9w{x y P:Int}(hP:0<P)(h:b5l x P=b5l y P):x=y:=by
 have hP':(P:Rat)≠0:=by have:=a8h hP;grind
 rw[b7i,b7i] at h
 have:(x:Rat)=(y:Rat):=by grind
 exact_mod_cast this
theorem div_lt{x y P:Int}(hP:0<P):b5l x P<b5l y P↔x<y:=by
 constructor
 · intro h
   rcases Int.lt_or_le x y with k | k
   · exact k
   · exact absurd h (Rat.not_lt.mpr (div_le hP k))
 · intro h
   by_cases k:b5l x P<b5l y P
   · exact k
   · have k:=Rat.not_lt.mp k
     have:=a9w hP (Rat.le_antisymm (div_le hP (Int.le_of_lt h)) k)
     omega
theorem ovr_inj{Px Py:Int}(hx:0<Px)(hy:0<Py){a b:Pl}(h:ovr Px Py a=ovr Px Py b):a=b:=
 Prod.ext (a9w hx (congrArg Prod.fst h)) (a9w hy (congrArg Prod.snd h))
end Cv
namespace Cv
open PySem PySem.Spec PyProof.Rows L2
theorem u8{n:Nat}(h:n+64<cLine):n+8<cLine:=by omega
theorem u0{n:Nat}(h:n+64<cLine):n<cLine:=by omega
def SzPl(n:Nat)(p:Pl):Prop:=Sz n p.1∧Sz n p.2
def a7x:Sp:=fun vs H Q _=>∃ (u v w:V) (a b c:Pl) (n:Nat),vs=[u,v,w]∧RwV H u a.1 a.2∧RwV H v b.1 b.2∧RwV H w c.1 c.2∧n≤1000000∧SzPl n a∧SzPl n b∧SzPl n c∧Q (.int (tr a b c)) H
def b0l(K:b5h):Sp:=fun vs H Q _=>∃ (a:Addr) (ws:List V) (ps:List Pt) (D:Int) (m:Nat),vs=[.ref a]∧SqL K H a ws∧PtsV H ws ps∧0<D∧Sz 9000 D∧(∀ p∈ps,((p.1.den:Int)∣D∧Bd m p.1)∧(p.2.den:Int)∣D∧Bd m p.2)∧m≤9000∧ps.length≤40∧
 ∀ (l:Addr) (us:List V) (pl:List Pl) (Px Py:Int) (H':Hp),Same H H'→H l=none→H' l=some (.lst us)→PlsV H' us pl→0<Px→0<Py→ps=pl.map (ovr Px Py)→(∀ p∈pl,SzPl (m+9000) p)→Q (.ref l) H'
theorem b3f{H:Hp}{us:List V}{t1 t2:List Int}(hl:us.length=min t1.length t2.length)(h:a9g H us (t1.map V.int) (t2.map V.int)):PlsV H us (t1.zip t2):=by
 refine⟨by rw[hl,List.length_zip],fun i v p e1 e2=>?_⟩
 obtain⟨T,rfl,hT⟩:=h i v e1
 rw[List.getElem?_zip_eq_some] at e2
 rw[b5s,b5s,e2.1,e2.2] at hT
 exact⟨T,rfl,hT⟩
theorem b2z:∀ {ps:List Pt} {t1 t2:List Int} {P1 P2:Int},ps.map (·.1)=t1.map (fun x=>b5l x P1)→ps.map (·.2)=t2.map (fun x=>b5l x P2)→ps=(t1.zip t2).map (ovr P1 P2)
 | [],[],_,_,_,_,_=>rfl
 | [],_::_,_,_,_,h,_=>by simp at h
 | _::_,[],_,_,_,h,_=>by simp at h
 | _::_,_::_,[],_,_,_,h=>by simp at h
 | p::ps,a::t1,b::t2,P1,P2,h1,h2=>by
   simp only[b7m,List.cons.injEq] at h1 h2
   rw[b7f,b7m,← b2z h1.2 h2.2]
   exact congrArg (· :: ps) (Prod.ext h1.1 h2.1)
theorem zip_szp{n:Nat}{t1 t2:List Int}(h1:∀ x∈t1,Sz n x)(h2:∀ x∈t2,Sz n x):∀ p∈t1.zip t2,SzPl n p:=fun p hp=>⟨h1 _ (b8g hp).1,h2 _ (b8g hp).2⟩
theorem atI_end2{α:Type}(xs:List α)(v:α)(h:xs[xs.length - 2]?=some v)(hl:2≤xs.length):atI xs (-2)=some v:=by
 have e:ixN xs.length (-2)=some (xs.length - 2):=by
   unfold ixN
   rw[if_neg (by decide),if_pos (by omega)]
   exact congrArg some (by omega)
 show ((ixN xs.length (-2)).bind fun j=>xs[j]?)=some v
 rw[e];exact h
theorem PlsV.dropLast{H:Hp}{vs:List V}{pl:List Pl}(h:PlsV H vs pl):PlsV H vs.dropLast pl.dropLast:=by
 refine⟨by rw[b7h,b7h,h.len],fun i v p e1 e2=>?_⟩
 rw[List.getElem?_dropLast] at e1 e2
 have hl:=h.len
 by_cases hi:i<vs.length - 1
 · rw[if_pos hi] at e1
   rw[if_pos (by omega)] at e2
   exact h.get i v p e1 e2
 · rw[if_neg hi] at e1;cases e1
theorem cut_drop{us:List V}(h:1≤us.length):cutV us none (some (-1))=us.dropLast:=by rw[a9z us h,List.dropLast_eq_take]
theorem plsrev{H:Hp}{vs:List V}{pl:List Pl}(h:PlsV H vs pl):PlsV H vs.reverse pl.reverse:=by
 refine⟨by rw[b7n,b7n,h.len],fun i v p e1 e2=>?_⟩
 have hl:=h.len
 have hi:i<vs.length:=by have:=(b5t.mp e1).1;rwa [b7n] at this
 rw[List.getElem?_reverse hi] at e1
 rw[List.getElem?_reverse (by omega),← hl] at e2
 exact h.get _ v p e1 e2
theorem plsapp{H:Hp}{vs ws:List V}{pl ql:List Pl}(h:PlsV H vs pl)(k:PlsV H ws ql):PlsV H (vs++ws) (pl++ql):=by
 refine⟨by rw[b5u,b5u,h.len,k.len],fun i v p e1 e2=>?_⟩
 have hl:=h.len
 by_cases hi:i<vs.length
 · rw[b5w hi] at e1
   rw[b5w (by omega)] at e2
   exact h.get i v p e1 e2
 · rw[b5y (by omega)] at e1 e2
   rw[← hl] at e2
   exact k.get _ v p e1 e2
theorem spot_of{cs:List Pt}{p:Pt}{pl:List Pl}{Px Py:Int}(h:cs++[p]=pl.map (ovr Px Py)):∃ pl1 sp,pl=pl1++[sp]∧cs=pl1.map (ovr Px Py)∧p=ovr Px Py sp:=by
 obtain⟨l1,l2,e1,e2,e3⟩:=List.map_eq_append_iff.mp h.symm
 rcases l2 with _ | ⟨sp,_ | ⟨x,r⟩⟩
 · simp at e3
 · exact⟨l1,sp,e1,e2.symm,by simpa using e3.symm⟩
 · simp at e3
section
variable {X:Cx}
theorem b3o(K:b5h)(hu:X.A.units<cLine)(hK:X.K=K:=by rfl):OpR X (compareOp .LtE) (rLeT K):=by subst hK;exact op_leT hu
theorem b1y(K:b5h)(hc:X.calm=true)(hu:X.A.units+8<cLine)(hK:X.K=K:=by rfl):a2k X (.builtin "min") (fun xs H Q=>∃ (l a b:Addr) (p q:Pl),xs=[.ref l]∧SqL K H l [.ref a,.ref b]∧H a=some (.tup [.int p.1,.int p.2])∧H b=some (.tup [.int q.1,.int q.2])∧Q (if lxP q p then .ref b else .ref a) H):=by subst hK;exact b4s hc hu
theorem b1z(K:b5h)(hc:X.calm=true)(hu:X.A.units+8<cLine)(hK:X.K=K:=by rfl):a2k X (.builtin "max") (fun xs H Q=>∃ (l a b:Addr) (p q:Pl),xs=[.ref l]∧SqL K H l [.ref a,.ref b]∧H a=some (.tup [.int p.1,.int p.2])∧H b=some (.tup [.int q.1,.int q.2])∧Q (if lxP p q then .ref b else .ref a) H):=by subst hK;exact b4u hc hu
end
theorem lexLe_pl{p q:Pl}(h:lxE p q):a3m [p.1,p.2] [q.1,q.2]=true:=by
 rw[a2u,a2u,a3b]
 unfold lxE at h
 by_cases h1:p.1=q.1
 · by_cases h2:p.2=q.2
   · rw[if_pos h1,if_pos h2]
   · rw[if_pos h1,if_neg h2];exact decide_eq_true (by omega)
 · rw[if_neg h1];exact decide_eq_true (by omega)
theorem hcut_one(us:List V)(h:1≤us.length):cutV us (some 1) none=us.drop 1:=by
 have:=a8v id us 1 1 rfl h
 simpa using this
theorem b1r(us:List V)(h:1≤us.length):cutV us none (some 1)=us.take 1:=by
 unfold cutV
 rw[HT.a5a,show (some (1:Int))=some ((1:Nat):Int) from rfl,HT.a9k,Nat.min_eq_left h]
 simp
theorem turn_one{α:Type}{us:List α}{i:Nat}(hi:i<us.length):(us.drop 1++us.take 1)[i]?=us[(i+1) % us.length]?:=by
 by_cases h:i+1<us.length
 · rw[b6t h,b5w (by simp;omega),List.getElem?_drop,Nat.add_comm]
 · have e:i+1=us.length:=by omega
   rw[e,Nat.mod_self,b5y (by simp;omega),b7z,show i - (us.length - 1)=0 by omega,List.getElem?_take,if_pos (by decide)]
theorem col_btw{a b p:Pl}(h:tr a b p=0)(h1:lxE a p)(h2:lxE p b):(a.1≤p.1∧p.1≤b.1)∧min a.2 b.2≤p.2∧p.2≤max a.2 b.2:=by
 have hx1:a.1≤p.1:=by unfold lxE at h1;omega
 have hx2:p.1≤b.1:=by unfold lxE at h2;omega
 refine⟨⟨hx1,hx2⟩,?_⟩
 by_cases w:a.1=b.1
 · have y1:a.2≤p.2:=by unfold lxE at h1;omega
   have y2:p.2≤b.2:=by unfold lxE at h2;omega
   omega
 · have hw:0<b.1 - a.1:=by omega
   have e:(b.1 - a.1)*(p.2 - a.2)=(b.2 - a.2)*(p.1 - a.1):=by unfold tr at h;omega
   have hx:0≤p.1 - a.1:=by omega
   have hxw:p.1 - a.1≤b.1 - a.1:=by omega
   generalize b.1 - a.1=w' at *
   generalize p.1 - a.1=x at *
   rcases Int.le_total 0 (b.2 - a.2) with d | d
   · have y1:0≤p.2 - a.2:=by
       have:=Int.mul_nonneg d hx
       rw[← e] at this
       rcases Int.lt_or_le (p.2 - a.2) 0 with z | z
       · have:=Int.mul_neg_of_pos_of_neg hw z;omega
       · exact z
     have y2:p.2 - a.2≤b.2 - a.2:=by
       have:=Int.mul_le_mul_of_nonneg_left hxw d
       rw[← e,Int.mul_comm (b.2 - a.2)] at this
       exact Int.le_of_mul_le_mul_left this hw
     omega
   · have d':0≤a.2 - b.2:=by omega
     have e':w' * (a.2 - p.2)=(a.2 - b.2)*x:=by
       have f1:w' * (a.2 - p.2)=- (w' * (p.2 - a.2)):=by rw[← Int.mul_neg];congr 1;omega
       have f2:(a.2 - b.2)*x=- ((b.2 - a.2)*x):=by rw[← Int.neg_mul];congr 1;omega
       rw[f1,f2,e]
     have y1:0≤a.2 - p.2:=by
       have:=Int.mul_nonneg d' hx
       rw[← e'] at this
       rcases Int.lt_or_le (a.2 - p.2) 0 with z | z
       · have:=Int.mul_neg_of_pos_of_neg hw z;omega
       · exact z
     have y2:a.2 - p.2≤a.2 - b.2:=by
       have:=Int.mul_le_mul_of_nonneg_left hxw d'
       rw[← e',Int.mul_comm (a.2 - b.2)] at this
       exact Int.le_of_mul_le_mul_left this hw
     omega
theorem atI_pred{us:List V}{k:Nat}(hk:k<us.length):atI us ((k:Int) - 1)=us[(k+us.length - 1) % us.length]?:=by
 have hl:(k+us.length - 1) % us.length<us.length:=b8b _ (by omega)
 cases k with
 | zero=>
   have e:(0+us.length - 1) % us.length=us.length - 1:=by rw[Nat.zero_add];exact b6t (by omega)
   rw[e]
   have h:us[us.length - 1]?=some (us[us.length - 1]'(by omega (config:={}))):=b5i _
   rw[h]
   exact a9e us _ h (by omega)
 | succ j=>
   have e:(j+1+us.length - 1) % us.length=j:=by rw[show j+1+us.length - 1=j+us.length by omega,Nat.add_mod_right];exact b6t (by omega)
   rw[e]
   have h:us[j]?=some (us[j]'(by omega (config:={}))):=b5i _
   rw[h]
   exact a4e (by omega) h
end Cv
namespace Cv
open PySem PySem.Spec PyProof.Rows L2
def PS(w:World)(S:Addr)(us:List V)(k:Nat):HO:=.ext fun h=>PsAt w h S (fun v=>∃ b,V.ref b∈us∧v=.ref b) k
def rSetL(K:b5h)(w:World):List V→Hp→VK→Prop:=fun xs H Q=>∃ (a:Addr) (us:List V) (pl:List Pl),xs=[.ref a]∧SqL K H a us∧PlsV H us pl∧pl.length<64∧∀ S,H S=none→Q (.ref S) (upd H S (PS w S us pl.length))
def rSortS(w:World):List V→Hp→VK→Prop:=fun xs H Q=>∃ (S:Addr) (us:List V) (pl:List Pl),xs=[.ref S]∧H S=some (PS w S us pl.length)∧PlsV H us pl∧pl.length<64∧
 ∀ (l:Addr) (vs:List V) (qs:List Pl),H l=none→qs.length≤pl.length→(∀ q∈qs,q∈pl)→PlsV H vs qs→Q (.ref l) (upd H l (.lst vs))
theorem pr_at{P:Program}{w:World}{H:Hp}{h:Heap}(ok:HOk P w H h){c:Addr}{p:Pl}(e:H c=some (.tup [.int p.1,.int p.2])):IsPr h p c:=by
 obtain⟨_,its,r,o,q1,q2,n,q3⟩:=(show a1s P w H h c (.tup [.int p.1,.int p.2]) from ok _ _ e)
 obtain⟨u1,u2,rfl,⟨t1,rfl⟩,⟨t2,rfl⟩⟩:=a1t r
 exact⟨o,t1,t2,n,q1,q2,q3⟩
theorem PsAt.mono{w:World}{h:Heap}{a:Addr}{In In':Value→Prop}{k:Nat}(x:PsAt w h a In k)(f:∀ v,In v→In' v):PsAt w h a In' k:=by
 obtain⟨es,ep,t,e,P⟩:=x
 exact⟨es,ep,t,e,{ P with mem:=fun e he=>f _ (P.mem e he) }⟩
section
variable {X:Cx}
theorem a9m{H:Hp}{us:List V}{pl:List Pl}(h:PlsV H us pl){b:Addr}(hb:V.ref b∈us):∃ p∈pl,H b=some (.tup [.int p.1,.int p.2]):=by
 obtain⟨i,hi,ei⟩:=b6y hb
 have hi2:i<pl.length:=by rw[← h.len];exact hi
 obtain⟨T,e,hT⟩:=h.get i _ _ (by rw[b5i hi,ei]) (b5i hi2)
 cases e
 exact⟨_,b6z hi2,hT⟩
theorem b4r(K:b5h)(w:World)(hc:X.calm=true)(hu:X.A.units+64<cLine)(hK:X.K=K:=by rfl)(hw:X.w=w:=by rfl):a2k X (.type "set") (rSetL K w):=by
 subst hK hw
 intro pins s σ H xs us' Q I rv h
 obtain⟨a,us,pl,rfl,hS,hP,hmx,q⟩:=h
 obtain⟨u,rfl,ru⟩:=a2v rv
 cases ru
 obtain⟨its,rits,pll,hz⟩:=I.list hS
 have l1:=hP.len
 have l2:=rits.length
 have hmem:∀ v∈its,∃ b,V.ref b∈us∧v=.ref b:=fun v hv=>by
   obtain⟨i,hi,ei⟩:=b6y hv
   have hi':i<us.length:=by omega
   obtain⟨T,e,hT⟩:=hP.get i us[i] (pl[i]'(by omega (config:={}))) (b5i _) (b5i _)
   obtain⟨v',e',rr⟩:=rits.get (b5i hi')
   rw[b5i hi,ei] at e'
   cases e'
   rw[e] at rr
   cases rr
   exact⟨T,by rw[← e];exact b6z _,rfl⟩
 refine b4q (vs:=its) (I.ok.hd hc) (by omega) pll.isList (by omega) (fun v hv=>?_) fun h' tk k1 hp=>?_
 · obtain⟨b,hb,rfl⟩:=hmem v hv
   obtain⟨p,_,e⟩:=a9m hP hb
   exact⟨b,p,rfl,pr_at I.hok e⟩
 · refine⟨.ref s.heap.objs.size,_,I.laid (a:=s.heap.objs.size) (o:=PS X.w s.heap.objs.size us pl.length) (t':=tk) k1 (b5n _) ?_,rfl,q _ I.fresh⟩
   have hp:=hp.mono (In':=fun v=>∃ b,V.ref b∈us∧v=.ref b) hmem
   rw[show its.length=pl.length by omega] at hp
   obtain⟨es,ep,t,e,P⟩:=id hp
   exact⟨hp,⟨_,e⟩,fun h1 h2 x k=>x.at' fun o e=>k o e⟩
theorem b1x(w:World)(hc:X.calm=true)(hw:X.w=w:=by rfl):a2k X (.builtin "sorted") (rSortS w):=by
 subst hw
 intro pins s σ H xs us' Q I rv h
 obtain⟨S,us,pl,rfl,hS,hP,hmx,q⟩:=h
 obtain⟨u,rfl,ru⟩:=a2v rv
 cases ru
 obtain⟨hp,_,_⟩:=(show a1s X.prog X.w H s.heap S (PS X.w S us pl.length) from I.hok _ _ hS)
 refine b1f (I.ok.hd hc) hp hmx (fun v hv=>?_) fun hA h' tk out n k1 k2 e1 e2 e3=>?_
 · obtain⟨b,hb,rfl⟩:=hv
   obtain⟨p,_,e⟩:=a9m hP hb
   exact⟨b,p,rfl,pr_at I.hok e⟩
 · have I1:Inv X pins σ H { s with heap:=hA,toks:=tk }:=I.kept k1
   obtain⟨ws,qs,hw1,hw2,hw3⟩ : ∃ (ws:List V) (qs:List Pl),Vals ws out∧PlsV H ws qs∧∀ q∈qs,q∈pl:=by
     clear e1 e2
     induction out with
     | nil=>exact⟨[],[],.nil,⟨rfl,fun i v p e=>by simp at e⟩,fun q h=>by simp at h⟩
     | cons v out ih=>
       obtain⟨b,hb,rfl⟩:=e3 v (by simp)
       obtain⟨p,hp1,hp2⟩:=a9m hP hb
       obtain⟨ws,qs,w1,w2,w3⟩:=ih fun x hx=>e3 x (b6j _ hx)
       refine⟨.ref b::ws,p::qs,.cons rfl w1,⟨by simp[w2.len],fun i x p e1 e2=>?_⟩,fun q hq=>?_⟩
       · cases i with
         | zero=>cases e1;cases e2;exact⟨b,rfl,hp2⟩
         | succ i=>exact w2.get i x p e1 e2
       · rcases b6a.mp hq with rfl | hq
         · exact hp1
         · exact w3 q hq
   have hl1:=hw1.length
   have hl2:=hw2.len
   refine⟨.ref hA.objs.size,_,I1.laid (a:=hA.objs.size) (o:=.lst ws) (t':=tk) k2 (b5n _) ⟨by have:=a8c;omega,out,n,hw1,e1⟩,rfl,q _ ws qs I1.fresh (by omega) hw3 hw2⟩
end
end Cv
namespace Cv
open PySem L2
def BtI(a b x:Int):Prop:=(a≤x∧x≤b)∨(b≤x∧x≤a)
def BtR(a b x:Rat):Prop:=(a≤x∧x≤b)∨(b≤x∧x≤a)
def In2(pl:List Pl)(s:Pl):Prop:=
 (pl.length=1→s=g0 pl 0)∧(pl.length=2→tr (g0 pl 0) (g0 pl 1) s=0∧BtI (g0 pl 0).1 (g0 pl 1).1 s.1∧BtI (g0 pl 0).2 (g0 pl 1).2 s.2)∧
 (pl.length≠1→pl.length≠2→∀ i,i<pl.length→0≤tr (g0 pl i) (g0 pl ((i+1) % pl.length)) s)
def InR(cs:List Pt)(p:Pt):Prop:=
 (cs.length=1→p=gq cs 0)∧(cs.length=2→trQ (gq cs 0) (gq cs 1) p=0∧BtR (gq cs 0).1 (gq cs 1).1 p.1∧BtR (gq cs 0).2 (gq cs 1).2 p.2)∧
 (cs.length≠1→cs.length≠2→∀ i,i<cs.length→0≤trQ (gq cs i) (gq cs ((i+1) % cs.length)) p)
theorem a7j{x y P:Int}(hP:0<P):b5l x P≤b5l y P↔x≤y:=by
 have h:=div_lt (x:=y) (y:=x) hP
 rw[← Rat.not_lt,h]
 omega
theorem bt_div{a b x P:Int}(hP:0<P):BtR (b5l a P) (b5l b P) (b5l x P)↔BtI a b x:=by
 unfold BtR BtI
 rw[a7j hP,a7j hP,a7j hP,a7j hP]
theorem in2_r{pl:List Pl}{s:Pl}{Px Py:Int}(hx:0<Px)(hy:0<Py):InR (pl.map (ovr Px Py)) (ovr Px Py s)↔In2 pl s:=by
 have el:(pl.map (ovr Px Py)).length=pl.length:=b5j ..
 unfold InR In2
 rw[el]
 refine and_congr (imp_congr_right fun e=>?_) (and_congr (imp_congr_right fun e=>?_) (imp_congr_right fun e1=>imp_congr_right fun e2=>forall_congr' fun i=>imp_congr_right fun hi=>?_))
 · rw[a8p (by omega)]
   exact⟨fun h=>ovr_inj hx hy h,fun h=>by rw[h]⟩
 · rw[a8p (by omega),a8p (by omega),trQ_zero hx hy]
   refine and_congr Iff.rfl (and_congr ?_ ?_)
   · exact bt_div hx
   · exact bt_div hy
 · rw[a8p hi,a8p (b8b _ (by omega)),trQ_nn hx hy]
theorem a7e{a b s:Pl}(t:tr a b s=0)(h:lxE a b):(lxE a s∧lxE s b)↔(BtI a.1 b.1 s.1∧BtI a.2 b.2 s.2):=by
 constructor
 · rintro⟨h1,h2⟩
   obtain⟨⟨x1,x2⟩,y1,y2⟩:=col_btw t h1 h2
   exact⟨.inl ⟨x1,x2⟩,by unfold BtI;omega⟩
 · rintro⟨hx,hy⟩
   by_cases w:a.1=b.1
   · unfold BtI at hx hy
     unfold lxE at *
     omega
   · have hab:a.1<b.1:=by unfold lxE at h;omega
     have e:(b.1 - a.1)*(s.2 - a.2)=(b.2 - a.2)*(s.1 - a.1):=by unfold tr at t;omega
     have x1:a.1≤s.1∧s.1≤b.1:=by unfold BtI at hx;omega
     have ea:s.1=a.1→s.2=a.2:=fun z=>by
       rw[z,Int.sub_self,Int.mul_zero] at e
       rcases Int.mul_eq_zero.mp e with y | y<;>omega
     have eb:s.1=b.1→s.2=b.2:=fun z=>by
       rw[z,Int.mul_comm (b.2 - a.2)] at e
       have:=Int.eq_of_mul_eq_mul_left (by omega) e
       omega
     unfold lxE
     constructor
     · by_cases y:s.1=a.1
       · exact .inr ⟨y.symm,by rw[ea y];exact Int.le_refl _⟩
       · left;omega
     · by_cases y:s.1=b.1
       · exact .inr ⟨y,by rw[eb y];exact Int.le_refl _⟩
       · left;omega
theorem BtI.comm{a b x:Int}:BtI a b x↔BtI b a x:=by unfold BtI;exact Or.comm
def mnP(p q:Pl):Pl:=if lxP q p then q else p
def mxP(p q:Pl):Pl:=if lxP p q then q else p
theorem lex_bt{a b s:Pl}(t:tr a b s=0):(lxE (mnP a b) s∧lxE s (mxP a b))↔(BtI a.1 b.1 s.1∧BtI a.2 b.2 s.2):=by
 unfold mnP mxP
 by_cases h:lxP b a
 · have h':¬ lxP a b:=by unfold lxP at *;omega
   rw[if_pos h,if_neg h',BtI.comm,BtI.comm (a:=a.2)]
   exact a7e (by unfold tr at *;grind) (by unfold lxP at h;unfold lxE;omega)
 · rw[if_neg h]
   by_cases h':lxP a b
   · rw[if_pos h']
     exact a7e t (by unfold lxP at h';unfold lxE;omega)
   · have e:a=b:=Prod.ext (by unfold lxP at *;omega) (by unfold lxP at *;omega)
     rw[if_neg h']
     subst e
     exact a7e t (by unfold lxE;omega)
theorem a7f{p q:Pl}:a3m [p.1,p.2] [q.1,q.2]=true↔lxE p q:=by
 refine⟨fun h=>?_,lexLe_pl⟩
 rw[a2u,a2u,a3b] at h
 unfold lxE
 by_cases h1:p.1=q.1
 · rw[if_pos h1] at h
   by_cases h2:p.2=q.2
   · omega
   · rw[if_neg h2] at h;have:=of_decide_eq_true h;omega
 · rw[if_neg h1] at h;have:=of_decide_eq_true h;omega
theorem b4f(us:List V):cutV us (some 1) none=us.drop 1:=by
 cases us with
 | nil=>rfl
 | cons u us=>exact hcut_one _ (by simp)
theorem a9v(us:List V):cutV us none (some 1)=us.take 1:=by
 cases us with
 | nil=>rfl
 | cons u us=>exact b1r _ (by simp)
theorem b4n(us:List V):cutV us none (some (-1))=us.dropLast:=by
 cases us with
 | nil=>rfl
 | cons u us=>exact cut_drop (by simp)
def a7z(K:b5h):Sp:=fun vs H Q _=>∃ (a:Addr) (v:V) (ws:List V) (cs:List Pt) (p:Pt) (D:Int) (m:Nat),vs=[.ref a,v]∧H a=some (.lst ws)∧PtsV H ws cs∧PtV H v p.1 p.2∧0<D∧Sz 9000 D∧(∀ q∈cs++[p],((q.1.den:Int)∣D∧Bd m q.1)∧(q.2.den:Int)∣D∧Bd m q.2)∧m≤9000∧cs.length≤39∧
 ∀ (b:Bool) H',Same H H'→(b=true↔InR cs p)→Q (.bl b) H'
def a7w:Sp:=fun vs H Q _=>∃ (a:Addr) (v:V) (us:List V) (pl:List Pl) (s:Pl) (n:Nat),vs=[.ref a,v]∧H a=some (.lst us)∧PlsV H us pl∧RwV H v s.1 s.2∧(∀ p∈pl,SzPl n p)∧SzPl n s∧n≤1000000∧pl.length≤40∧∀ (b:Bool) H',Same H H'→(b=true↔In2 pl s)→Q (.bl b) H'
def a5h(K:b5h):Sp:=fun vs H Q _=>∃ (a:Addr) (ns:List Int),vs=[.ref a,.int 20]∧SqL K H a (ns.map V.int)∧∀ (c l:Addr) (ws:List V) (pl:List Pl) (B:Int) (H':Hp),Same H H'→H' c=some (.tup [.int B,.ref l])→H' l=some (.lst ws)→PlsV H' ws pl→1≤pl.length→pl.length≤20→1≤B→B≤1000000007→(∀ p∈pl,Sz 110 p.1∧Sz 110 p.2)→Q (.ref c) H'
def b0j(K:b5h):Sp:=fun vs H Q _=>∃ (a:Addr) (us:List V) (pl:List Pl),vs=[.ref a]∧SqL K H a us∧PlsV H us pl∧(∀ p∈pl,SzPl 200 p)∧pl.length≤20∧
 ∀ (l:Addr) (vs:List V) (qs:List Pl) (H':Hp),Same H H'→H l=none→H' l=some (.lst vs)→PlsV H' vs qs→qs.length+1≤pl.length+(if pl=[] then 1 else 0)→(∀ q∈qs,q∈pl)→Q (.ref l) H'
def a6i(K:b5h):Sp:=fun vs H Q _=>∃ (a:Addr) (us:List V) (pl:List Pl),vs=[.ref a]∧SqL K H a us∧PlsV H us pl∧(∀ p∈pl,SzPl 200 p)∧pl.length≤20∧
 ∀ (l:Addr) (vs:List V) (qs:List Pl) (H':Hp),Same H H'→H l=none→H' l=some (.lst vs)→PlsV H' vs qs→qs.length≤38→(∀ q∈qs,q∈pl)→Q (.ref l) H'
def b0i(K:b5h):Sp:=fun vs H Q _=>∃ (c:Int) (a:Addr) (us:List V) (pl:List Pl),vs=[.int c,.ref a]∧H a=some (.lst us)∧PlsV H us pl∧(∀ p∈pl,SzPl 110 p)∧1≤pl.length∧pl.length≤20∧
 ∀ (g:Addr) (n x y:Int) (H':Hp),Same H H'→H' g=some (.tup [.int n,.int x,.int y])→1≤n→n≤9→Sz 130 x→Sz 130 y→Q (.ref g) H'
def b2p(K:b5h):Sp:=fun vs H Q _=>∃ (a:Addr) (us:List V) (pl:List Pl) (B n x y:Int),vs=[.ref a,.int B,.int n,.int x,.int y]∧H a=some (.lst us)∧PlsV H us pl∧(∀ p∈pl,SzPl 110 p)∧pl.length≤38∧1≤B∧B≤1000000007∧1≤n∧n≤9∧Sz 130 x∧Sz 130 y∧
 ∀ H',Same H H'→Q (.bl true) H'
end Cv
namespace Cv
open PySem L2
theorem b4d{pl:List Pl}{s:Pl}(h:pl.length=1):In2 pl s↔s=g0 pl 0:=⟨fun x=>x.1 h,fun x=>⟨fun _=>x,fun e=>by omega,fun e=>absurd h e⟩⟩
theorem a3i{pl:List Pl}{s:Pl}(h:pl.length=2):In2 pl s↔(tr (g0 pl 0) (g0 pl 1) s=0∧BtI (g0 pl 0).1 (g0 pl 1).1 s.1∧BtI (g0 pl 0).2 (g0 pl 1).2 s.2):=⟨fun x=>x.2.1 h,fun x=>⟨fun e=>by omega,fun _=>x,fun _ e=>absurd h e⟩⟩
theorem b0x{pl:List Pl}{s:Pl}(h1:pl.length≠1)(h2:pl.length≠2):In2 pl s↔∀ i,i<pl.length→0≤tr (g0 pl i) (g0 pl ((i+1) % pl.length)) s:=⟨fun x=>x.2.2 h1 h2,fun x=>⟨fun e=>absurd e h1,fun e=>absurd e h2,fun _ _=>x⟩⟩
end Cv
namespace Cv
open PySem L2
theorem b3u{ys:List V}{f:Nat→Bool}(h:∀ (i:Nat) v,ys[i]?=some v→v=V.bl (f i)):∃ bs:List Bool,ys=bs.map V.bl∧bs.length=ys.length∧∀ (i:Nat) b,bs[i]?=some b→b=f i:=by
 refine⟨(b7l ys.length).map f,List.ext_getElem? fun i=>?_,by simp,fun i b e=>?_⟩
 · by_cases hi:i<ys.length
   · rw[b5i hi,b5s,b5s,List.getElem?_range hi]
     exact congrArg some (h i _ (b5i hi))
   · rw[b6p (by omega),b6p (by simp;omega)]
 · rw[b5s] at e
   obtain⟨j,ej,rfl⟩:=Option.map_eq_some_iff.mp e
   have hi:i<ys.length:=by have:=(b5t.mp ej).1;simpa using this
   rw[List.getElem?_range hi] at ej
   cases ej;rfl
theorem b5c{bs:List Bool}{n:Nat}{P:Nat→Prop}[∀ i,Decidable (P i)](hl:bs.length=n)(h:∀ (i:Nat) b,bs[i]?=some b→b=decide (P i)):bs.all id=true↔∀ i,i<n→P i:=by
 rw[b8e]
 constructor
 · intro a i hi
   have e:=b5i (l:=bs) (i:=i) (by omega)
   have:=h i _ e
   have t:=a bs[i] (b6z _)
   exact of_decide_eq_true (this.symm.trans t)
 · intro a b hb
   obtain⟨i,hi,rfl⟩:=b6y hb
   rw[h i _ (b5i hi)]
   exact decide_eq_true (a i (by omega))
end Cv
namespace Cv
theorem cyc_back(n:Nat)(P:Nat→Nat→Prop):(∀ i,i<n→P ((i+n - 1) % n) i)↔∀ i,i<n→P i ((i+1) % n):=by
 have e1:∀ i,i<n→((i+1) % n+n - 1) % n=i:=fun i hi=>by
   by_cases h:i+1<n
   · rw[b6t h,show i+1+n - 1=i+n by omega,Nat.add_mod_right,b6t hi]
   · have:i+1=n:=by omega
     rw[this,Nat.mod_self,Nat.zero_add,b6t (by omega)];omega
 have e2:∀ i,i<n→((i+n - 1) % n+1) % n=i:=fun i hi=>by
   by_cases h:i=0
   · subst h
     rw[Nat.zero_add,b6t (show n - 1<n by omega),show n - 1+1=n by omega,Nat.mod_self]
   · rw[show i+n - 1=i - 1+n by omega,Nat.add_mod_right,b6t (show i - 1<n by omega),show i - 1+1=i by omega,b6t hi]
 constructor
 · intro h i hi
   have:=h ((i+1) % n) (b8b _ (by omega))
   rwa [e1 i hi] at this
 · intro h i hi
   have:=h ((i+n - 1) % n) (b8b _ (by omega))
   rwa [e2 i hi] at this
end Cv
namespace Cv
def scP(n:Int)(pl:List Pl):List Pl:=pl.map fun p=>(p.1*n,p.2*n)
theorem div_sc{p n B:Int}(hn:0<n)(hB:0<B):b5l (p*n) (B*n)=b5l p B:=Rat.divInt_mul_right (by omega)
theorem scP_pts{n B:Int}(hn:0<n)(hB:0<B)(pl:List Pl):(scP n pl).map (ovr (B*n) (B*n))=a4i B pl:=by
 unfold scP a4i
 rw[List.map_map]
 refine List.map_congr_left fun p _=>?_
 show (b5l (p.1*n) (B*n),b5l (p.2*n) (B*n))=_
 rw[div_sc hn hB,div_sc hn hB]
theorem sc_in{n B:Int}(hn:0<n)(hB:0<B){pl:List Pl}{x y:Int}:InR (a4i B pl) (b5l x (B*n),b5l y (B*n))↔In2 (scP n pl) (x,y):=by
 have hp:0<B*n:=Int.mul_pos hB hn
 have:=in2_r (pl:=scP n pl) (s:=(x,y)) hp hp
 rw[scP_pts hn hB] at this
 exact this
theorem bools_eq{b c:Bool}{P:Prop}(h1:b=true↔P)(h2:c=true↔P):b=c:=b7u.mpr (h1.trans h2.symm)
end Cv
namespace Cv
open PySem PySem.Spec PyProof.Rows L2
def FH(K:b5h)(x:Str)(st:Stmt):Prop:=∃ (f:Addr) (od an:Option Addr) (sl:Array (Option Value)) (oc kV dc pm cd ct:Value),b6b K mainGlobals x=some (some (.ref f))∧K.lookup f=some ⟨oc,od,.func (b6m x x (a2j st) (a1p st) (a0g st) .none kV dc pm an cd ct),sl⟩∧b7w K cd x=true∧b7s K (.ref f)=true
theorem FH.mk{K:b5h}{x:Str}{st:Stmt}{f:Addr}{od an:Option Addr}{sl:Array (Option Value)}{oc kV dc pm cd ct:Value}(a:b6b K mainGlobals x=some (some (.ref f)))(l:K.lookup f=some ⟨oc,od,.func (b6m x x (a2j st) (a1p st) (a0g st) .none kV dc pm an cd ct),sl⟩)(c:b7w K cd x=true)(k:b7s K (.ref f)=true):FH K x st:=⟨f,od,an,sl,oc,kV,dc,pm,cd,ct,a,l,c,k⟩
theorem FH.fn{K:b5h}{x:Str}{st:Stmt}{ps:List Str}{mg:Str→Option Value}{h:Heap}(e:FH K x st)(KX:K.In h)(GN:h.Ns mainGlobals mg)(b:∀ (kV doc pm:Value) (an:Option Addr) (cdv ct:Value) (us:List Value),us.length=ps.length→bindArgs (b6m x x (a2j st) (a1p st) (a0g st) .none kV doc pm an cdv ct) ⟨us,[]⟩=pure (ps.zip us)):a0w K mg x st ps:=by
 obtain⟨f,od,an,sl,oc,kV,dc,pm,cd,ct,a,l,c,k⟩:=e
 exact a0w.mk' (PySem.W.mg_of KX GN a) l c k b
end Cv
set_option maxHeartbeats 4000000
namespace Cv
open PySem L2
local macro_rules | `(tactic| walk_at "hf") => `(tactic| first
 | assumption
 | exact a0f
 | (refine a1x (by assumption) ?_;walk_at "hf")
 | (refine (by assumption:L2.Same _ _) _ _ ?_;walk_at "hf")
 | fail)
local macro_rules | `(tactic| walk_at "sm") => `(tactic| first
 | assumption
 | exact L2.Same.refl _
 | (refine L2.Same.trans ?_ (by assumption:L2.Same _ _);walk_at "sm")
 | (refine L2.Same.trans ?_ (Same.new (by assumption));walk_at "sm")
 | fail)
local macro_rules | `(tactic| walk_at "mv") => `(tactic| first
 | assumption
 | (refine ShV.same ?_ (by assumption:L2.Same _ _);walk_at "mv")
 | (refine ShV.same ?_ (Same.new (by assumption));walk_at "mv")
 | (refine PtV.same ?_ (by assumption:L2.Same _ _);walk_at "mv")
 | (refine PtV.same ?_ (Same.new (by assumption));walk_at "mv")
 | (refine RwV.same ?_ (by assumption:L2.Same _ _);walk_at "mv")
 | (refine RwV.same ?_ (Same.new (by assumption));walk_at "mv")
 | (refine RwQ.same ?_ (by assumption:L2.Same _ _);walk_at "mv")
 | (refine RwQ.same ?_ (Same.new (by assumption));walk_at "mv")
 | (refine MpV.same ?_ (by assumption:L2.Same _ _);walk_at "mv")
 | (refine MpV.same ?_ (Same.new (by assumption));walk_at "mv")
 | (refine PtsV.same ?_ (by assumption:L2.Same _ _);walk_at "mv")
 | (refine PtsV.same ?_ (Same.new (by assumption));walk_at "mv")
 | (refine AxV.same ?_ (by assumption:L2.Same _ _);walk_at "mv")
 | (refine AxV.same ?_ (Same.new (by assumption));walk_at "mv")
 | (refine ShL.same ?_ (by assumption:L2.Same _ _);walk_at "mv")
 | (refine ShL.same ?_ (Same.new (by assumption));walk_at "mv")
 | (refine SqL.same' ?_ (by assumption:L2.Same _ _);walk_at "mv")
 | (refine SqL.same' ?_ (Same.new (by assumption));walk_at "mv")
 | fail)
local macro_rules | `(tactic| walk_at "sq") => `(tactic| first
 | exact SqT.of (by walk_at "hf")
 | exact SqL.of (by walk_at "hf")
 | walk_at "mv"
 | fail)
local macro_rules | `(tactic| walk_at "at") => `(tactic| first
 | rfl
 | assumption
 | exact a5w _ _ (by omega) (by omega)
 | fail)
local macro_rules | `(tactic| walk_at "sz") => `(tactic| first
 | assumption
 | exact Bd.num (by assumption)
 | exact Bd.den (by assumption)
 | exact Sz.one
 | exact Sz.mul (by walk_at "sz") (by walk_at "sz")
 | exact Sz.add (by walk_at "sz") (by walk_at "sz")
 | exact Sz.sub (by walk_at "sz") (by walk_at "sz")
 | exact Sz.neg (by walk_at "sz")
 | fail)
local macro_rules | `(tactic| walk_at "bdx") => `(tactic| first
 | assumption
 | exact Bd.zero'
 | exact Bd.one'
 | exact Bd.add (by walk_at "bdx") (by walk_at "bdx")
 | exact Bd.sub (by walk_at "bdx") (by walk_at "bdx")
 | exact Bd.mul (by walk_at "bdx") (by walk_at "bdx")
 | fail)
local macro_rules | `(tactic| walk_at "bd") => `(tactic| exact Bd.mono (by walk_at "bdx") (by decide))
local macro_rules | `(tactic| walk_at "szm") => `(tactic| exact Sz.mono (by walk_at "sz") (by decide))
local macro_rules | `(tactic| walk_at "arith") => `(tactic| first
 | exact pos30
 | exact pl
 | exact⟨by decide,by decide⟩
 | exact⟨by decide,by decide,by decide⟩
 | exact mulL (by decide) (by decide)
 | exact mulR (by decide) (by decide)
 | exact mulR (by omega) (by omega)
 | exact mulL (by omega) (by omega)
 | exact mulB (by walk_at "sz") (by walk_at "sz")
 | fail)
local macro_rules | `(tactic| walk_at "len") => `(tactic| first
 | (show 2≤sizeLine;decide)
 | (show 0≤sizeLine;decide)
 | (show 1≤sizeLine;decide)
 | (show 3≤sizeLine;decide)
 | (show 4≤sizeLine;decide)
 | (show 5≤sizeLine;decide)
 | (show 6≤sizeLine;decide)
 | (show 8≤sizeLine;decide)
 | fail)
local macro_rules | `(tactic| walk_at "r1") => `(tactic| first
 | refine⟨_,_,rfl,rfl,by walk_at "arith",?_⟩
 | refine⟨_,_,rfl,rfl,?_⟩
 | refine⟨_,_,_,_,rfl,rfl,by walk_at "sq",by walk_at "at",?_⟩
 | refine⟨_,rfl,?_⟩
 | refine⟨rfl,?_⟩
 | refine⟨_,_,rfl,.inr (SqT.of (by walk_at "hf")),?_⟩
 | refine⟨_,_,rfl,.inl (SqL.of (by walk_at "hf")),?_⟩
 | refine⟨_,"tuple",_,_,rfl,TyOf.tup (by walk_at "hf"),kit_tt _,?_⟩
 | refine⟨_,"list",_,_,rfl,TyOf.lst (by walk_at "hf"),kit_ll _,?_⟩
 | refine⟨_,"int",_,_,rfl,TyOf.int _,kit_ii _,?_⟩
 | refine⟨_,"bool",_,_,rfl,TyOf.int _,kit_ib _,?_⟩
 | refine⟨_,"bool",_,_,rfl,TyOf.bl _,kit_bb _,?_⟩
 | refine⟨by walk_at "len",?_⟩
 | refine⟨by decide,?_⟩
 | fail)
local macro_rules | `(tactic| walk_at "rd") => `(tactic| repeat walk_at "r1")
local macro_rules | `(tactic| walk_at "fr") => `(tactic| first
 | assumption
 | (refine L2.Same.free (by assumption:L2.Same _ _) ?_;walk_at "fr")
 | (refine L2.Same.free (Same.new (by assumption)) ?_;walk_at "fr")
 | fail)
local macro_rules | `(tactic| walk_at "tk") => `(tactic| first
 | assumption
 | fail)
local macro_rules | `(tactic| walk_at "mv") => `(tactic| first
 | assumption
 | (refine ShK.same ?_ (by assumption:L2.Same _ _);walk_at "mv")
 | (refine ShK.same ?_ (Same.new (by assumption));walk_at "mv")
 | (refine PtK.same ?_ (by assumption:L2.Same _ _);walk_at "mv")
 | (refine PtK.same ?_ (Same.new (by assumption));walk_at "mv")
 | (refine PtsK.same ?_ (by assumption:L2.Same _ _);walk_at "mv")
 | (refine PtsK.same ?_ (Same.new (by assumption));walk_at "mv")
 | (refine ShV.k ?_;walk_at "mv")
 | (refine PtV.k ?_;walk_at "mv")
 | (refine PtsV.k ?_;walk_at "mv")
 | fail)
local macro_rules | `(tactic| walk_at "sq") => `(tactic| first
 | exact TK.sq (by walk_at "tk")
 | fail)
local macro_rules | `(tactic| walk_at "rk1") => `(tactic| first
 | refine⟨_,"tuple",_,_,rfl,.inr ⟨rfl,_,_,rfl,by walk_at "sq"⟩,kit_tt _,?_⟩
 | refine⟨_,"list",_,_,rfl,.inl (TyOf.lst (by walk_at "hf")),kit_ll _,?_⟩
 | refine⟨_,"int",_,_,rfl,.inl (TyOf.int _),kit_ii _,?_⟩
 | refine⟨_,"bool",_,_,rfl,.inl (TyOf.int _),kit_ib _,?_⟩
 | refine⟨_,"bool",_,_,rfl,.inl (TyOf.bl _),kit_bb _,?_⟩
 | refine⟨_,_,rfl,.inr (by walk_at "sq"),?_⟩
 | walk_at "r1"
 | fail)
local macro_rules | `(tactic| walk_at "rk") => `(tactic| repeat walk_at "rk1")
structure Cst(K:b5h)(mg:Str→Option Value):Prop where
 set:mg "set" = none
def top(i:Nat):Stmt:=PySem.Challenge.pw_curveseat_k43_in_a_hull.main.body.getD i (.Pass ⟨0,0,0,0⟩)
abbrev a1k:Stmt:=top 1
theorem a2l:a0t ["one","other"] ["one","other"] (a0g a1k):=⟨rfl,rfl,rfl,by decide +kernel,rfl,by decide +kernel,by decide +kernel⟩
abbrev a1n:Stmt:=top 3
theorem a0x:a0t ["shares","found","whole","one","more"] ["shares"] (a0g a1n):=⟨rfl,rfl,rfl,by decide +kernel,rfl,by decide +kernel,by decide +kernel⟩
abbrev a3s:Stmt:=top 4
theorem a3j:a0t ["numbers","found","number"] ["numbers"] (a0g a3s):=⟨rfl,rfl,rfl,by decide +kernel,rfl,by decide +kernel,by decide +kernel⟩
abbrev a8f:Stmt:=top 5
theorem a9j:a0t ["shares","bottoms","whole"] ["shares"] (a0g a8f):=⟨rfl,rfl,rfl,by decide +kernel,rfl,by decide +kernel,by decide +kernel⟩
abbrev a6k:Stmt:=top 6
theorem sc_axes:a0t ["points"] ["points"] (a0g a6k):=⟨rfl,rfl,rfl,by decide +kernel,rfl,by decide +kernel,by decide +kernel⟩
abbrev a1u:Stmt:=top 8
theorem a2d:a0t ["points","xs","ys"] ["points"] (a0g a1u):=⟨rfl,rfl,rfl,by decide +kernel,rfl,by decide +kernel,by decide +kernel⟩
abbrev b0o:Stmt:=top 9
theorem sc_turn:a0t ["one","other","third"] ["one","other","third"] (a0g b0o):=⟨rfl,rfl,rfl,by decide +kernel,rfl,by decide +kernel,by decide +kernel⟩
abbrev a3e:Stmt:=top 10
theorem a4h:a0t ["corners","place","around","spot"] ["corners","place"] (a0g a3e):=⟨rfl,rfl,rfl,by decide +kernel,rfl,by decide +kernel,by decide +kernel⟩
abbrev a3a:Stmt:=top 12
theorem a8e:a0t ["_law_script","_law_k"] ["_law_script","_law_k"] (a0g a3a):=⟨rfl,rfl,rfl,by decide +kernel,rfl,by decide +kernel,by decide +kernel⟩
abbrev a3k:Stmt:=top 13
theorem a2e:a0t ["_law_cell","_law_many","_law_number","_law_found","_law_k"] ["_law_cell","_law_many"] (a0g a3k):=⟨rfl,rfl,rfl,by decide +kernel,rfl,by decide +kernel,by decide +kernel⟩
abbrev a3u:Stmt:=top 14
theorem a2a:a0t ["_law_top","_law_bottom","_law_one","_law_other","_law_rest"] ["_law_top","_law_bottom"] (a0g a3u):=⟨rfl,rfl,rfl,by decide +kernel,rfl,by decide +kernel,by decide +kernel⟩
abbrev a7b:Stmt:=top 15
theorem a4z:a0t ["_law_cell","_law_way_here","_law_bottom","_law_start"] ["_law_cell"] (a0g a7b):=⟨rfl,rfl,rfl,by decide +kernel,rfl,by decide +kernel,by decide +kernel⟩
abbrev a3v:Stmt:=top 16
theorem a2b:a0t ["_law_cell","_law_way_here","_law_bottom","_law_kind","_law_start","_law_by","_law_row"] ["_law_cell","_law_way_here"] (a0g a3v):=⟨rfl,rfl,rfl,by decide +kernel,rfl,by decide +kernel,by decide +kernel⟩
abbrev a2s:Stmt:=top 17
theorem a9i:a0t ["_law_places","_law_bottom"] ["_law_places","_law_bottom"] (a0g a2s):=⟨rfl,rfl,rfl,by decide +kernel,rfl,by decide +kernel,by decide +kernel⟩
abbrev a3x:Stmt:=top 18
theorem a6j:a0t ["_law_one","_law_other","_law_third","_law_wide"] ["_law_one","_law_other","_law_third"] (a0g a3x):=⟨rfl,rfl,rfl,by decide +kernel,rfl,by decide +kernel,by decide +kernel⟩
abbrev a2r:Stmt:=top 19
theorem a2f:a0t ["_law_script","_law_most","_law_way_here","_law_more","_law_cells"] ["_law_script","_law_most"] (a0g a2r):=⟨rfl,rfl,rfl,by decide +kernel,rfl,by decide +kernel,by decide +kernel⟩
abbrev a3y:Stmt:=top 20
theorem a4g:a0t ["_law_some","_law_found","_law_place_here"] ["_law_some"] (a0g a3y):=⟨rfl,rfl,rfl,by decide +kernel,rfl,by decide +kernel,by decide +kernel⟩
abbrev a2z:Stmt:=top 21
theorem a4w:a0t ["_law_places","_law_order"] ["_law_places"] (a0g a2z):=⟨rfl,rfl,rfl,by decide +kernel,rfl,by decide +kernel,by decide +kernel⟩
abbrev a2q:Stmt:=top 22
theorem a2y:a0t ["_law_corners_here","_law_place_here","_law_one","_law_other","_law_k"] ["_law_corners_here","_law_place_here"] (a0g a2q):=⟨rfl,rfl,rfl,by decide +kernel,rfl,by decide +kernel,by decide +kernel⟩
abbrev a3w:Stmt:=top 23
theorem a1i:a0t ["_law_cell","_law_places","_law_row","_law_parts","_law_x","_law_y","_law_k","_law_place_here"] ["_law_cell","_law_places"] (a0g a3w):=⟨rfl,rfl,rfl,by decide +kernel,rfl,by decide +kernel,by decide +kernel⟩
abbrev a3t:Stmt:=top 24
theorem a3d:a0t ["_law_corners_here","_law_bottom","_law_often","_law_x","_law_y","_law_handed_here","_law_kept","_law_told_here","_law_scaled"] ["_law_corners_here","_law_bottom","_law_often","_law_x","_law_y"] (a0g a3t):=⟨rfl,rfl,rfl,by decide +kernel,rfl,by decide +kernel,by decide +kernel⟩
abbrev a7a:Stmt:=top 25
theorem a3n:a0t ["_law_script","_law_bottom","_law_places","_law_corners_here","_law_x","_law_y","_law_k","_law_often"] ["_law_script"] (a0g a7a):=⟨rfl,rfl,rfl,by decide +kernel,rfl,by decide +kernel,by decide +kernel⟩
section
variable {P:Program} {w:World} {K:b5h} {mg:Str→Option Value} {base:Heap}
theorem a8n(F:a0w K mg "_law_cell_at" a3a ["_law_script","_law_k"])(B:Blt mg):a0u P w K mg base CX0 1 "_law_cell_at" ["_law_script","_law_k"] (b2q K):=by
 refine a1b F a8e (fun vs H Q E h=>?_) (fun f cdv A outer s H vs Q E hr h=>?_)
 · obtain⟨a,ns,i,rfl,_⟩:=h;rfl
 obtain⟨a,ns,i,rfl,hS,h0,k⟩:=h
 have hu:=hr.units
 refine⟨_,(a0c (a1v (a0z op_lt (pvI 1) (a0r (a1q K) (by rfl) B.len PySem.boot_len (a0a (pvI 0) a0d)) (a1e _)) (a0h (a0o (a0i (a0k K) (pvI 0) (pvI 1) (fun _ _=>rfl)))) a1c) (a0h (a0o a0b))),?_⟩
 refine⟨_,rfl,_,rfl,a,_,rfl,.inl hS,_,_,rfl,rfl,_,rfl,a4r (fun hn=>?_) (fun hn=>?_)⟩
 · rw[b5j] at hn
   refine⟨_,rfl,_,rfl,a,_,_,_,rfl,rfl,hS,a5w ns i h0 hn,?_⟩
   exact k _
 · exact k 0
theorem b1l(F:a0w K mg "_law_cross" a3x ["_law_one","_law_other","_law_third"]):a0u P w K mg base CX0 1 "_law_cross" ["_law_one","_law_other","_law_third"] a7x:=by
 refine a1b F a6j (fun vs H Q E h=>?_) (fun f cdv A outer s H vs Q E hr h=>?_)
 · obtain⟨u,v,w,a,b,c,n,rfl,_⟩:=h;rfl
 obtain⟨_,_,_,a,b,c,n,rfl,⟨ua,rfl,ha⟩,⟨ub,rfl,hb⟩,⟨uc,rfl,hc⟩,hn,⟨za1,za2⟩,⟨zb1,zb2⟩,⟨zc1,zc2⟩,k⟩:=h
 have hu:=hr.units
 refine⟨_,(a0c (a0l (i:=3) a6j.nd rfl (Or.inl rfl) (a0e a0y (a0e a1h (a0i (a0m K) (pvI 1) a0b (fun _ _=>rfl)) (a0i (a0m K) (pvI 0) a0b (fun _ _=>rfl))) (a0e a1h (a0i (a0m K) (pvI 2) a0b (fun _ _=>rfl)) (a0i (a0m K) (pvI 0) a0b (fun _ _=>rfl))))) (a0h (a0o (a0e a1h (pvI 3) (a0e a0y (a0e a1h (a0i (a0m K) (pvI 1) a0b (fun _ _=>rfl)) (a0i (a0m K) (pvI 0) a0b (fun _ _=>rfl))) (a0e a1h (a0i (a0m K) (pvI 2) a0b (fun _ _=>rfl)) (a0i (a0m K) (pvI 0) a0b (fun _ _=>rfl)))))))),?_⟩
 walk_at "rd"
 refine⟨mulN (zb1.sub za1) (zc2.sub za2) (by omega),?_⟩
 walk_at "rd"
 refine⟨mulN (zb2.sub za2) (zc1.sub za1) (by omega),?_⟩
 walk_at "rd"
 exact k
theorem b1m(F:a0w K mg "_law_chain" a3y ["_law_some"])(B:Blt mg)(D_l_cross:a0u P w K mg base CX0 1 "_law_cross" ["_law_one","_law_other","_law_third"] a7x):a0u P w K mg base CX0 2 "_law_chain" ["_law_some"] (b0j K):=by
 refine a1b F a4g (fun vs H Q E h=>?_) (fun f cdv A outer s H vs Q E hr h=>?_)
 · obtain⟨a,us,pl,rfl,_⟩:=h;rfl
 obtain⟨a,us,pl,rfl,hS,hP,hz,h20,k⟩:=h
 have hu:=hr.units
 refine⟨_,(a0c (a0l (i:=1) a4g.nd rfl (Or.inl rfl) (a4k a0d)) (a0c (a3g PassesOwn.never rfl (a1m K (pvI 0)) (a0j (i:=2) a4g.nd rfl (Or.inl rfl)) (a0c (a5j PassesOwn.never (PW_ptI (pw_andI (a0z op_gt (a0r (a1q K) (by rfl) B.len PySem.boot_len (a0a (pvI 1) a0d)) a0b (a1e _)) (pw_and1I (a0z op_le (a0v D_l_cross hr a1j (a0a (a0i (a0k K) (pvI 1) (b0q b0g a0b) (fun _ _=>rfl)) (a0a (a0i (a0k K) (pvI 1) (b0q b0g a0b) (fun _ _=>rfl)) (a0a (pvI 2) a0d)))) a0b (a1e _))))) (a0h (a5c (show PEi _ _ (tBM0 K _ _ _) from (b3n b7k PySem.F.slot_list_pop PySem.F.type_list_pop mt_pop (pvI 1)))))) (a0h (a5c (show PEi _ _ (tBM K _ _ _ _) from (b3m b7k b8i b8j a3h (pvI 1) (a0a (pvI 2) a0d))))))) (a0h (a0o (a2g (a2x K) (pvI 1) a3l (a1y (b0q b0g a0b))))))),?_⟩
 walk_at "rd"
 intro l hl
 walk_at "rd"
 refine⟨⟨us,by walk_at "mv"⟩,a5e (xs:=us) (fun i σ H'=>∃ (y:Option V) (vs:List V) (qs:List Pl),σ=[some (.ref a),some (.ref l),y]∧Same H H'∧H' l=some (.lst vs)∧PlsV H' vs qs∧qs.length≤i∧∀ q∈qs,q∈pl) ⟨none,[],[],rfl,Same.new hl,a0f,⟨rfl,fun i v p e=>by simp at e⟩,b5n _,fun q h=>by simp at h⟩ ?_ ?_ ?_⟩
 · rintro i σ H' _ ⟨y,vs,qs,rfl,s1,h1,hv,_⟩
   exact s1.seq hS
 · rintro i x σ H' hx ⟨y,vs,qs,rfl,s1,h1,hv,hql,hqm⟩
   have hi:i<pl.length:=by rw[← hP.len];exact (b5t.mp hx).1
   have hp:pl[i]?=some (g0 pl i):=a1w hi
   have rx:RwV H x (g0 pl i).1 (g0 pl i).2:=hP.get i x _ hx hp
   have zp:=hz _ (a2o hi)
   have hl2:∀ b o,H b=some o→b≠l:=fun b o e z=>by rw[z,hl] at e;cases e
   have fin:∀ (H2:Hp) (ws:List V) (R:List Pl),Same H H2→H2 l=some (.lst ws)→PlsV H2 ws R→R.length≤i→(∀ q∈R,q∈pl)→∃ (vs:List V) (qs:List Pl),Same H (upd H2 l (.lst (ws++[x])))∧(upd H2 l (.lst (ws++[x]))) l=some (.lst vs)∧PlsV (upd H2 l (.lst (ws++[x]))) vs qs∧qs.length≤i+1∧∀ q∈qs,q∈pl:=fun H2 ws R s2 h2 hw hRl hRm=>by
     refine⟨_,R++[g0 pl i],fun b o e=>?_,a0f,?_,by simp;omega,fun q hq=>?_⟩
     · rw[a0n (hl2 b o e)];exact s2 b o e
     · exact (hw.tup (Tup.lst h2)).snoc ((rx.same s2).tup (Tup.lst h2))
     · rcases b6n.mp hq with hq | hq
       · exact hRm q hq
       · rw[b6d.mp hq];exact a2o hi
   walk_at "rd"
   refine a6s (fun σ H''=>∃ (vs:List V) (R:List Pl),σ=[some (.ref a),some (.ref l),some x]∧Same H H''∧H'' l=some (.lst vs)∧PlsV H'' vs R∧R.length≤i∧∀ q∈R,q∈pl) (fun _ H''=>match H'' l with | some (.lst vs)=>vs.length | _=>0) ⟨vs,qs,rfl,s1,h1,hv,hql,hqm⟩ ?_ ?_
   · rintro σ H2 ⟨ws,R,rfl,s2,h2,hw,hRl,hRm⟩
     have hwl:=hw.len
     walk_at "rd"
     refine a4r (fun h0=>?_) (fun h0=>?_)
     · have h0':1<R.length:=by have:(1:Int)<ws.length:=h0;omega
       obtain⟨vb,eb,hvb⟩:=hw.at (i:=ws.length - 1) (a1w (l:=R) (i:=ws.length - 1) (by omega))
       obtain⟨vc,ec,hvc⟩:=hw.at (i:=ws.length - 2) (a1w (l:=R) (i:=ws.length - 2) (by omega))
       walk_at "rd"
       refine⟨l,_,_,_,rfl,rfl,SqL.of h2,atI_end2 _ _ ec (by omega),?_⟩
       walk_at "rd"
       refine⟨l,_,_,_,rfl,rfl,SqL.of h2,a9e _ _ eb (by omega),?_⟩
       walk_at "rd"
       refine⟨_,_,_,g0 R (ws.length - 2),g0 R (ws.length - 1),g0 pl i,200,rfl,⟨vc,rfl,hvc⟩,⟨vb,rfl,hvb⟩,rx.same s2,by omega,hz _ (hRm _ (a2o (by omega))),hz _ (hRm _ (a2o (by omega))),zp,?_⟩
       walk_at "rd"
       refine a4r (fun h3=>?_) (fun h3=>?_)
       · walk_at "rd"
         refine⟨.inl ⟨rfl,_,SqL.of h2⟩,?_⟩
         walk_at "rd"
         refine⟨l,_,_,rfl,rfl,h2,eb,?_⟩
         refine⟨⟨_,R.dropLast,rfl,fun b o e=>?_,a0f,(hw.tup (Tup.lst h2)).dropLast,by rw[b7h];omega,fun q hq=>hRm q (List.dropLast_subset _ hq)⟩,?_⟩
         · rw[a0n (hl2 b o e)];exact s2 b o e
         · rw[a0f,h2]
           simp only[b7h]
           omega
       · walk_at "rd"
         refine⟨.inl ⟨rfl,_,SqL.of h2⟩,?_⟩
         walk_at "rd"
         refine⟨l,_,_,rfl,rfl,h2,a0s (by omega),?_⟩
         obtain⟨vs',qs',f1,f2,f3,f4,f5⟩:=fin H2 ws R s2 h2 hw hRl hRm
         exact⟨_,vs',qs',rfl,f1,f2,f3,f4,f5⟩
     · refine ifF rfl ?_
       walk_at "rd"
       refine⟨.inl ⟨rfl,_,SqL.of h2⟩,?_⟩
       walk_at "rd"
       refine⟨l,_,_,rfl,rfl,h2,a0s (by omega),?_⟩
       obtain⟨vs',qs',f1,f2,f3,f4,f5⟩:=fin H2 ws R s2 h2 hw hRl hRm
       exact⟨_,vs',qs',rfl,f1,f2,f3,f4,f5⟩
   · rintro σ H' Q Q' hq ⟨v1,e1,p,ys,e2,e3,i,j,e4,e5,c,e6,h⟩
     refine⟨v1,e1,p,ys,e2,e3,i,j,e4,e5,c,e6,?_⟩
     cases c with
     | false=>exact hq _ _ h
     | true=>
       obtain⟨v2,f1,i2,f2,p2,xs2,i3,w2,f3,f4,f5,f6,v3,g1,i4,g2,p3,xs3,i5,w3,g3,g4,g5,g6,v4,k1,u1,u2,u3,a1,b1,c1,n1,m1,m2,m3,m4,m5,m6,m7,m8,i6,j6,o1,o2,kk,o3,h⟩:=h
       exact⟨v2,f1,i2,f2,p2,xs2,i3,w2,f3,f4,f5,f6,v3,g1,i4,g2,p3,xs3,i5,w3,g3,g4,g5,g6,v4,k1,u1,u2,u3,a1,b1,c1,n1,m1,m2,m3,m4,m5,m6,m7,m8,i6,j6,o1,o2,kk,o3,hq _ _ h⟩
 · rintro σ H' ⟨y,vs,qs,rfl,s1,h1,hv,hql,hqm⟩
   walk_at "rd"
   refine⟨l,_,rfl,SqL.of h1,fun q1 hq1=>?_⟩
   rw[b4n]
   have hul:=hP.len
   refine k q1 vs.dropLast qs.dropLast _ (s1.trans (Same.new hq1)) (s1.free hq1) a0f (hv.same (Same.new hq1)).dropLast ?_ fun q hq=>hqm q (List.dropLast_subset _ hq)
   rw[b7h]
   by_cases e:pl=[]
   · have:us.length=0:=by rw[hul,e];rfl
     rw[if_pos e];omega
   · rw[if_neg e]
     have:=List.length_pos_iff.mpr e
     omega
theorem a8m(F:a0w K mg "_law_corners" a2z ["_law_places"])(B:Blt mg)(G:Cst K mg )(D_l_chain:a0u P w K mg base CX0 2 "_law_chain" ["_law_some"] (b0j K)):a0u P w K mg base CX0 3 "_law_corners" ["_law_places"] (a6i K):=by
 refine a1b F a4w (fun vs H Q E h=>?_) (fun f cdv A outer s H vs Q E hr h=>?_)
 · obtain⟨a,us,pl,rfl,_⟩:=h;rfl
 obtain⟨a,us,pl,rfl,hS,hP,hz,h20,k⟩:=h
 have hu:=hr.units
 refine⟨_,(a0c (a0l (i:=1) a4w.nd rfl (Or.inl rfl) (a0r (b1x w rfl) (by rfl) B.sorted PyProof.Rows.boot_sorted (a0a (a6n (b4r K w rfl hu) rfl G.set PyProof.Rows.boot_set (a0a (pvI 0) a0d)) a0d))) (a0c (a1v (a0z a4l (a0r (a1q K) (by rfl) B.len PySem.boot_len (a0a (pvI 1) a0d)) a0b (a1e _)) (a0h (a0o (pvI 1))) a1c) (a0h (a0o (a0e b0s (a0v D_l_chain hr a1j (a0a (pvI 1) a0d)) (a0v D_l_chain hr a1j (a0a (a8l K (pvI 1) (a1y (b0q b0g a0b))) a0d))))))),?_⟩
 have hul:=hP.len
 walk_at "rd"
 refine⟨a,us,pl,rfl,hS,hP,by omega,fun S hS0=>?_⟩
 walk_at "rd"
 refine⟨S,us,pl,rfl,a0f,hP.same (Same.new hS0),by omega,fun l vs qs hl0 hql hqm hV=>?_⟩
 have sA:Same H (upd (upd H S (PS w S us pl.length)) l (.lst vs)):=(Same.new hS0).trans (Same.new hl0)
 have hV1:=hV.same (Same.new (o:=.lst vs) hl0)
 have hvl:=hV.len
 walk_at "rd"
 refine ifB (fun h=>?_) (fun h=>?_)
 · walk_at "rd"
   exact k l vs qs _ sA ((Same.new hS0).free hl0) a0f hV1 (by omega) hqm
 walk_at "rd"
 refine⟨l,vs,qs,rfl,SqL.of a0f,hV1,fun p hp=>hz p (hqm p hp),by omega,fun l1 v1 q1 H1 s1 hl1 h1 hV2 hq1 hm1=>?_⟩
 have hl2:=s1 _ _ (a0f (H:=upd H S (PS w S us pl.length)) (a:=l) (o:=.lst vs))
 walk_at "rd"
 refine⟨l,vs,rfl,SqL.of hl2,fun q hq=>?_⟩
 walk_at "rd"
 refine⟨q,_,qs.reverse,rfl,SqL.of a0f,plsrev ((hV1.same s1).same (Same.new hq)),fun p hp=>hz p (hqm p (List.mem_reverse.mp hp)),by rw[b7n];omega,fun l2 v2 q2 H2 s2 hl2' h2 hV3 hq2 hm2=>?_⟩
 have h12:H2 l1=some (.lst v1):=s2 _ _ (a1x hq h1)
 have c1:q1.length≤19:=by
   by_cases e:qs=[]
   · have:qs.length=0:=by rw[e];rfl
     rw[if_pos e] at hq1;omega
   · rw[if_neg e] at hq1;omega
 have c2:q2.length≤19:=by
   rw[b7n] at hq2
   by_cases e:qs.reverse=[]
   · have e':qs.length=0:=by rw[List.reverse_eq_nil_iff.mp e];rfl
     rw[if_pos e] at hq2;omega
   · rw[if_neg e] at hq2;omega
 have w1:=hV2.len
 have w2:=hV3.len
 walk_at "rd"
 refine⟨b6u (a0s (by omega)),fun q3 hq3=>?_⟩
 have sB:Same H H2:=((sA.trans s1).trans (Same.new hq)).trans s2
 refine k q3 (v1++v2) (q1++q2) _ (sB.trans (Same.new hq3)) (sB.free hq3) a0f (plsapp ((hV2.same ((Same.new hq).trans s2)).same (Same.new hq3)) (hV3.same (Same.new hq3))) (by rw[b5u];omega) fun p hp=>?_
 rcases b6n.mp hp with hp | hp
 · exact hqm p (hm1 p hp)
 · exact hqm p (List.mem_reverse.mp (hm2 p hp))
theorem a9r(F:a0w K mg "_law_stream" a3k ["_law_cell","_law_many"])(B:Blt mg):a0u P w K mg base CX0 1 "_law_stream" ["_law_cell","_law_many"] a3c:=by
 refine a1b F a2e (fun vs H Q E h=>?_) (fun f cdv A outer s H vs Q E hr h=>?_)
 · obtain⟨c,n,rfl,_⟩:=h;rfl
 obtain⟨c,n,rfl,hn,k⟩:=h
 have hu:=hr.units
 refine⟨_,(a0c (a0l (i:=2) a2e.nd rfl (Or.inl rfl) (a0e a2i a0b (a0e a1d (pvI 0) a0b))) (a0c (a0l (i:=3) a2e.nd rfl (Or.inl rfl) (a4k a0d)) (a0c (a3g PassesOwn.never rfl (a2c rfl B.range (a0a (a0e a2i (pvI 1) a0b) a0d)) (a0j (i:=4) a2e.nd rfl (Or.inl rfl)) (a0c (a0l (i:=2) a2e.nd rfl (Or.inl rfl) (a0e a1d (a0e a0y (pvI 2) a0b) a0b)) (a0h (a5c (show PEi _ _ (tBM K _ _ _ _) from (b3m b7k b8i b8j a3h (pvI 3) (a0a (pvI 2) a0d))))))) (a0h (a0o (a2g (a2x K) (pvI 3) (a1y a0b) a3l)))))),?_⟩
 walk_at "rd"
 intro l hl
 walk_at "rd"
 refine⟨by omega,by omega,a4d (fun i σ H'=>∃ (x:Int) (xs:List Int) (y:Option V),σ=[some (.int c),some (.int (n:Int)),some (.int x),some (.ref l),y]∧Same H H'∧H' l=some (.lst (xs.map V.int))∧xs.length=i∧∀ z∈xs,0≤z∧z≤2147483647) ⟨_,[],none,rfl,Same.new hl,a0f,rfl,fun _ h=>nomatch h⟩ ?_ ?_⟩
 · rintro i σ H2 hi ⟨x,xs,y,rfl,s2,h2,hlen,hx⟩
   walk_at "rd"
   refine⟨.inl ⟨rfl,_,SqL.of h2⟩,?_⟩
   walk_at "rd"
   refine⟨l,_,_,rfl,rfl,h2,?_,?_⟩
   · rw[b5j,hlen];exact a0s (by omega)
   · refine⟨_,xs++[x*48271 % 2147483647],_,rfl,fun b o e=>?_,?_,?_,?_⟩
     · rw[a0n (a0p e hl)];exact s2 b o e
     · rw[a0f,List.map_append];rfl
     · rw[b5u,hlen];rfl
     · intro z hz
       rcases b6n.mp hz with hz | hz
       · exact hx z hz
       · cases b6d.mp hz
         have:=b6q (x*48271) (b:=2147483647) (by decide)
         have:=b6r (x*48271) (b:=2147483647) (by decide)
         omega
 · rintro σ H2 ⟨x,xs,y,rfl,s2,h2,hlen,hx⟩
   refine⟨_,rfl,2,rfl,l,_,rfl,SqL.of h2,fun q hq=>?_⟩
   rw[a8v V.int xs 2 2 rfl (by omega)]
   exact k q (xs.drop 2) _ (s2.trans (Same.new hq)) (s2.free hq) a0f (by rw[b7z,hlen];omega) fun z hz=>hx z (List.mem_of_mem_drop hz)
theorem b3r(F:a0w K mg "_law_mean" a3w ["_law_cell","_law_places"])(B:Blt mg)(D_l_stream:a0u P w K mg base CX0 1 "_law_stream" ["_law_cell","_law_many"] a3c):a0u P w K mg base CX0 2 "_law_mean" ["_law_cell","_law_places"] (b0i K):=by
 refine a1b F a1i (fun vs H Q E h=>?_) (fun f cdv A outer s H vs Q E hr h=>?_)
 · obtain⟨c,a,us,pl,rfl,_⟩:=h;rfl
 obtain⟨c,a,us,pl,rfl,ha,hP,hz,h1,h20,k⟩:=h
 have hu:=hr.units
 refine⟨_,(a0c (a0l (i:=2) a1i.nd rfl (Or.inr rfl) (a0v D_l_stream hr a1j (a0a (pvI 0) (a0a a0b a0d)))) (a0c (a8i (i:=3) (os:=["_law_k"]) (caps:=[(2,"_law_row")]) ["_law_cell","_law_places","_law_row","_law_parts","_law_x","_law_y","_law_k","_law_place_here"] (a0g a3w) a1i.nd rfl rfl (a2c rfl B.range (a0a a0b a0d)) (fun _ _ _ _ _=>(a0j (i:=0) (show b7o (["_law_k","_law_row"]:List Str) from by decide +kernel) rfl (Or.inl rfl))) (fun _ _ _ _ _=>(a0e a1d (a0i (a0k K) (pvI 1) (pvI 0) (fun _ _=>rfl)) a0b)) (by decide +kernel)) (a0c (a4j (a0r (a8x rfl) (by rfl) B.max PyProof.Rows.boot_max (a0a a0b (a0a (a0i (a0k K) (pvI 3) a0b (fun _ _=>rfl)) a0d))) (pg_subI (pvI 3) a0b set_list)) (a0c (a0l (i:=4) a1i.nd rfl (Or.inl rfl) a0b) (a0c (a0l (i:=5) a1i.nd rfl (Or.inl rfl) a0b) (a0c (a3g PassesOwn.never rfl (a2c rfl B.range (a0a a0b a0d)) (a0j (i:=6) a1i.nd rfl (Or.inl rfl)) (a0c (a0l (i:=7) a1i.nd rfl (Or.inl rfl) (a0i (a0k K) (pvI 1) (a0e a1d (a0i (a0k K) (pvI 2) (a0e a2i a0b (pvI 6)) (fun _ _=>rfl)) (a0r (a1q K) (by rfl) B.len PySem.boot_len (a0a (pvI 1) a0d))) (fun _ _=>rfl))) (a0c (a0l (i:=4) a1i.nd rfl (Or.inl rfl) (a0e a2i (pvI 4) (a0e a0y (a0i (a0k K) (pvI 3) (pvI 6) (fun _ _=>rfl)) (a0i (a0m K) (pvI 7) a0b (fun _ _=>rfl))))) (a0h (a0l (i:=5) a1i.nd rfl (Or.inl rfl) (a0e a2i (pvI 5) (a0e a0y (a0i (a0k K) (pvI 3) (pvI 6) (fun _ _=>rfl)) (a0i (a0m K) (pvI 7) a0b (fun _ _=>rfl))))))))) (a0c (a1v (a0z a4l (a0e a1d (a0i (a0k K) (pvI 2) a0b (fun _ _=>rfl)) a0b) a0b (a1e _)) (a0c (a0l (i:=4) a1i.nd rfl (Or.inl rfl) (a0e a1h (a0e a2i (pvI 4) (a0e a1d (a0i (a0k K) (pvI 2) a0b (fun _ _=>rfl)) a0b)) a0b)) (a0h (a0l (i:=5) a1i.nd rfl (Or.inl rfl) (a0e a1h (a0e a2i (pvI 5) (a0e a1d (a0i (a0k K) (pvI 2) a0b (fun _ _=>rfl)) a0b)) a0b)))) a1c) (a0h (a0o (a1g (a0a (a0r (b4p rfl) (by rfl) B.sum PyProof.Rows.boot_sum (a0a (pvI 3) a0d)) (a0a (pvI 4) (a0a (pvI 5) a0d))))))))))))),?_⟩
 have hul:=hP.len
 walk_at "rd"
 refine⟨c,10,rfl,by decide,fun lx xs H1 s1 hx0 hx hxl hnn=>?_⟩
 have nn:∀ j:Nat,0≤xs.getD j 0:=fun j=>a7g (fun x h=>(hnn x h).1) j
 have hx1:SqL K H1 lx (xs.map V.int):=SqL.of hx
 walk_at "rd"
 refine b0b (a5m _ _ _) (by show 3≤100000;decide) (fun i v _=>∃ z:Int,v=.int z∧0≤z∧z≤3) (fun _ _ _ _ _ h=>h) (fun i H5 kk hi s5 hk=>?_) (fun E ys H5 hE s5 hE' hl5 hr=>?_)
 · have hi3:i<3:=hi
   have hx5:SqL K H5 lx (xs.map V.int):=SqL.of (s5 _ _ hx)
   walk_at "rd"
   have m4:=b6r (xs.getD (0+(i:Int)).toNat 0) (b:=4) (by decide)
   exact hk _ _ (L2.Same.refl _) ⟨_,rfl,b6q _ (by decide),by omega⟩
 obtain⟨z0,z1,z2,rfl,hz0,hz1,hz2⟩ : ∃ z0 z1 z2:Int,ys=[.int z0,.int z1,.int z2]∧(0≤z0∧z0≤3)∧(0≤z1∧z1≤3)∧(0≤z2∧z2≤3):=by
   have hl5:ys.length=3:=hl5
   rcases ys with _ | ⟨u0,_ | ⟨u1,_ | ⟨u2,_ | ⟨u3,r⟩⟩⟩⟩
   · simp at hl5
   · simp at hl5
   · simp at hl5
   · obtain⟨z0,rfl,p0⟩:=hr 0 _ rfl
     obtain⟨z1,rfl,p1⟩:=hr 1 _ rfl
     obtain⟨z2,rfl,p2⟩:=hr 2 _ rfl
     exact⟨z0,z1,z2,rfl,p0,p1,p2⟩
   · simp at hl5
 walk_at "rd"
 dsimp only[tNil]
 refine⟨1,z0,rfl,?_⟩
 walk_at "rd"
 obtain⟨m,hm,hm1,hm3⟩ : ∃ m:Int,(if z0 > 1 then z0 else 1)=m∧1≤m∧m≤3:=⟨_,rfl,by split<;>omega,by split<;>omega⟩
 rw[hm]
 have hE6:(upd H5 E (.lst ([V.int z0,V.int z1,V.int z2].set (b7c 0) (.int m)))) E=some (.lst ([m,z1,z2].map V.int)):=a0f
 have sE:Same H (upd H5 E (.lst ([V.int z0,V.int z1,V.int z2].set (b7c 0) (.int m)))):=fun b o e=>by
   have:b≠E:=fun z=>by
     rw[z] at e
     have:=s5 _ _ (s1 _ _ e)
     have:=s1 _ _ e
     rw[hE] at this;cases this
   rw[a0n this];exact s5 _ _ (s1 _ _ e)
 have hx6:(upd H5 E (.lst ([V.int z0,V.int z1,V.int z2].set (b7c 0) (.int m)))) lx=some (.lst (xs.map V.int)):=by
   have:lx≠E:=fun z=>by
     rw[z,hE] at hx;cases hx
   rw[a0n this];exact s5 _ _ hx
 generalize (upd H5 E (.lst ([V.int z0,V.int z1,V.int z2].set (b7c 0) (.int m))))=Hs at *
 have ha6:=sE _ _ ha
 have hP6:=hP.same sE
 have aE:SqL K Hs E ([m,z1,z2].map V.int):=SqL.of hE6
 have ax:SqL K Hs lx (xs.map V.int):=SqL.of hx6
 refine a4d (fun i σ H'=>∃ (x y:Int) (p q:Option V),σ=[some (.int c),some (.ref a),some (.ref lx),some (.ref E),some (.int x),some (.int y),p,q]∧H'=Hs∧Sz (113+i) x∧Sz (113+i) y) ⟨0,0,none,none,rfl,rfl,Sz.zero.mono (by decide),Sz.zero.mono (by decide)⟩ ?_ ?_
 · rintro i σ H' hi ⟨x,y,p,q,rfl,rfl,zx,zy⟩
   have hi3:i<3:=hi
   have hpos:(0:Int)<us.length:=by omega
   have e0:=b6q (xs.getD (3+(0+(i:Int))).toNat 0) (b:=us.length) (by omega)
   have e1:=b6r (xs.getD (3+(0+(i:Int))).toNat 0) hpos
   obtain⟨j,ej⟩ : ∃ j:Nat,xs.getD (3+(0+(i:Int))).toNat 0 % (us.length:Int)=(j:Int):=⟨_,(Int.toNat_of_nonneg e0).symm⟩
   have hj:j<pl.length:=by omega
   obtain⟨va,ea,hva⟩:=hP6.at (a1w hj)
   have zq:=hz _ (a2o hj)
   have zm:∀ t:Nat,Sz 2 ([m,z1,z2].getD t 0):=fun t=>by
     rcases t with _ | _ | _ | t
     · exact a2w (b:=3) (by show m.natAbs≤3;omega) (by decide)
     · exact a2w (b:=3) (by show z1.natAbs≤3;omega) (by decide)
     · exact a2w (b:=3) (by show z2.natAbs≤3;omega) (by decide)
     · exact Sz.zero.mono (by decide)
   walk_at "rd"
   refine⟨hpos,a,_,_,_,rfl,rfl,SqL.of ha6,a4e (j:=j) ej ea,?_⟩
   walk_at "rd"
   refine⟨E,_,_,_,rfl,rfl,aE,a5w [m,z1,z2] _ (by omega) (by show (0+(i:Int))<3;omega),?_⟩
   walk_at "rd"
   refine⟨mulN (zm _) zq.1 (by decide),?_⟩
   walk_at "rd"
   refine⟨E,_,_,_,rfl,rfl,aE,a5w [m,z1,z2] _ (by omega) (by show (0+(i:Int))<3;omega),?_⟩
   walk_at "rd"
   refine⟨mulN (zm _) zq.2 (by decide),?_⟩
   walk_at "rd"
   exact⟨_,_,_,_,rfl,rfl,(zx.add ((zm _).mul zq.1)).mono (by omega),(zy.add ((zm _).mul zq.2)).mono (by omega)⟩
 · rintro σ H' ⟨x,y,p,q,rfl,rfl,zx,zy⟩
   have zx:Sz 116 x:=zx
   have zy:Sz 116 y:=zy
   have fin:∀ x' y':Int,Sz 130 x'→Sz 130 y'→∀ g,H' g=none→Q (.ref g) (upd H' g (.tup [.int (m+(z1+(z2+0))),.int x',.int y'])):=fun x' y' zx' zy' g hg=>k g _ x' y' _ (sE.trans (Same.new hg)) a0f (by omega) (by omega) zx' zy'
   have z3:∀ t:Int,Sz 2 (t % 3):=fun t=>a2w (b:=2) (by have:=b6q t (b:=3) (by decide);have:=b6r t (b:=3) (by decide);omega) (by decide)
   walk_at "rd"
   refine ifB (fun _=>?_) (fun _=>?_)
   · walk_at "rd"
     refine⟨E,[m,z1,z2],rfl,aE,?_⟩
     walk_at "rd"
     exact fin _ _ (((zx.add (z3 _)).sub Sz.one).mono (by decide)) (((zy.add (z3 _)).sub Sz.one).mono (by decide))
   · walk_at "rd"
     refine⟨E,[m,z1,z2],rfl,aE,?_⟩
     walk_at "rd"
     exact fin _ _ (zx.mono (by decide)) (zy.mono (by decide))
theorem b1k(F:a0w K mg "_law_place" a3v ["_law_cell","_law_way_here"])(D_l_stream:a0u P w K mg base CX0 1 "_law_stream" ["_law_cell","_law_many"] a3c):a0u P w K mg base CX0 2 "_law_place" ["_law_cell","_law_way_here"] b2o:=by
 refine a1b F a2b (fun vs H Q E h=>?_) (fun f cdv A outer s H vs Q E hr h=>?_)
 · obtain⟨c,w,B,kd,rfl,_⟩:=h;rfl
 obtain⟨c,_,B,kd,rfl,⟨a,s,b,sx,sy,bx,by_,rfl,ha,hs,hb,B1,B2,z1,z2,z3,z4⟩,k⟩:=h
 have hu:=hr.units
 refine⟨_,(a0c (a4j (pvI 1) (a2m (n:=4) K rfl (a0q (a0j (i:=2) a2b.nd rfl (Or.inl rfl)) (a0q (a0j (i:=3) a2b.nd rfl (Or.inl rfl)) (a0q (a0j (i:=4) a2b.nd rfl (Or.inl rfl)) (a0q (a0j (i:=5) a2b.nd rfl (Or.inl rfl)) a1z)))))) (a0c (a0l (i:=6) a2b.nd rfl (Or.inl rfl) (a0v D_l_stream hr a1j (a0a (pvI 0) (a0a a0b a0d)))) (a0c (a1v (a0z a4l (pvI 3) a0b (a1e _)) (a0h (a0o (a1g (a0a (a0e a1h (a0e a1d (pvI 0) (a0e a5n a0b a0b)) (a0e a0y a0b (a0e a5n a0b a0b))) (a0a (a0e a1h (a0e a1d (a0e a0y (pvI 0) (a0i (a0k K) (pvI 6) a0b (fun _ _=>rfl))) (a0e a5n a0b a0b)) (a0e a0y a0b (a0e a5n a0b a0b))) a0d))))) a1c) (a0c (a1v (a0z a4l (pvI 3) a0b (a1e _)) (a0h (a0o (a1g (a0a (a0e a2i (a0i (a0m K) (pvI 4) a0b (fun _ _=>rfl)) (a0e a0y (a0i (a0m K) (pvI 5) a0b (fun _ _=>rfl)) (a0e a1d (a0i (a0k K) (pvI 6) a0b (fun _ _=>rfl)) a0b))) (a0a (a0e a2i (a0i (a0m K) (pvI 4) a0b (fun _ _=>rfl)) (a0e a0y (a0i (a0m K) (pvI 5) a0b (fun _ _=>rfl)) (a0e a1d (a0i (a0k K) (pvI 6) a0b (fun _ _=>rfl)) a0b))) a0d))))) a1c) (a0c (a1v (a0z a4l (pvI 3) a0b (a1e _)) (a0h (a0o (a1g (a0a (a0e a2i (a0i (a0m K) (pvI 4) a0b (fun _ _=>rfl)) (a0e a0y (a0e a1d (a0i (a0k K) (pvI 6) a0b (fun _ _=>rfl)) a0b) (a0i (a0m K) (pvI 5) a0b (fun _ _=>rfl)))) (a0a (a0i (a0m K) (pvI 4) a0b (fun _ _=>rfl)) a0d))))) a1c) (a0c (a1v (a0z a4l (pvI 3) a0b (a1e _)) (a0h (a0o (a1g (a0a (a0e a2i (a0e a0y (a0i (a0m K) (pvI 4) a0b (fun _ _=>rfl)) (a0e a5n a0b a0b)) (a0e a1d (a0i (a0k K) (pvI 6) a0b (fun _ _=>rfl)) a0b)) (a0a (a0e a2i (a0e a0y (a0i (a0m K) (pvI 4) a0b (fun _ _=>rfl)) (a0e a5n a0b a0b)) (a0e a1d (a0i (a0k K) (pvI 6) a0b (fun _ _=>rfl)) a0b)) a0d))))) a1c) (a0c (a1v (a0z op_gt (pvI 0) a0b (a1e _)) (a0h (a0o (a1g (a0a (a0e a1h (a0e a1d (pvI 0) a0b) a0b) (a0a (a0e a1h (a0e a1d (a0e b3p (pvI 0) a0b) a0b) a0b) a0d))))) a1c) (a0h (a0o (a1g (a0a (a0e a1h (a0e a1d (a0i (a0k K) (pvI 6) a0b (fun _ _=>rfl)) a0b) a0b) (a0a (a0e a1h (a0e a1d (a0i (a0k K) (pvI 6) a0b (fun _ _=>rfl)) a0b) a0b) a0d)))))))))))),?_⟩
 walk_at "rd"
 refine⟨a,_,rfl,SqT.of ha,rfl,_,_,rfl,_,_,rfl,_,_,rfl,_,_,rfl,rfl,?_⟩
 walk_at "rd"
 refine⟨c,4,rfl,by decide,fun lx xs H1 s1 hx0 hx hxl hnn=>?_⟩
 have nn:∀ j:Nat,0≤xs.getD j 0:=fun j=>a7g (fun x h=>(hnn x h).1) j
 have n0:=nn 0
 have n1:=nn 1
 have m0:xs.getD 0 0≤2147483647:=by
   have e:xs[0]?=some (xs[0]'(by omega (config:={}))):=b5i _
   rw[b5z,e];exact (hnn _ (b6z _)).2
 have m0':xs.getD (b7c 0) 0≤2147483647:=m0
 have n0':0≤xs.getD (b7c 0) 0:=n0
 have n1':0≤xs.getD (b7c 1) 0:=n1
 have hx1:SqL K H1 lx (xs.map V.int):=SqL.of hx
 walk_at "rd"
 refine ifB (fun _=>?_) (fun _=>?_)
 · walk_at "rd"
   intro g hg
   rw[p29,p30] at *
   have a1:=b6q c (b:=1000000000000000000000000000000) (by decide)
   have a2:=b6r c (b:=1000000000000000000000000000000) (by decide)
   have a3:=b6q (c*xs.getD (b7c 0) 0) (b:=1000000000000000000000000000000) (by decide)
   have a4:=b6r (c*xs.getD (b7c 0) 0) (b:=1000000000000000000000000000000) (by decide)
   exact k _ _ _ _ (by walk_at "sm") ⟨g,rfl,a0f⟩ (a2w (b:=1000000000000000000000000000000) (by omega) (by decide)) (a2w (b:=1000000000000000000000000000000) (by omega) (by decide))
 have hs1:=s1 _ _ hs
 have hb1:=s1 _ _ hb
 have f9:∀ (u v:Int),u.natAbs≤3→0≤v→v<9→(u*v).natAbs≤27:=fun u v h1 h2 h3=>by
   rw[Int.natAbs_mul]
   exact b7j (Nat.mul_le_mul h1 (show v.natAbs≤9 by omega)) (by decide)
 walk_at "rd"
 refine ifB (fun _=>?_) (fun _=>?_)
 · walk_at "rd"
   intro g hg
   have q1:=f9 bx (xs.getD (b7c 0) 0 % 9) z3 (by omega) (by omega)
   have q2:=f9 by_ (xs.getD (b7c 0) 0 % 9) z4 (by omega) (by omega)
   exact k _ _ _ _ (by walk_at "sm") ⟨g,rfl,a0f⟩ (a2w (b:=1000000000000000000000000000000) (by omega) (by decide)) (a2w (b:=1000000000000000000000000000000) (by omega) (by decide))
 walk_at "rd"
 refine ifB (fun _=>?_) (fun _=>?_)
 · walk_at "rd"
   intro g hg
   have q1:=f9 bx (xs.getD (b7c 0) 0 % 2) z3 (by omega) (by omega)
   rw[Int.mul_comm] at q1
   exact k _ _ _ _ (by walk_at "sm") ⟨g,rfl,a0f⟩ (a2w (b:=1000000000000000000000000000000) (by omega) (by decide)) (a2w (b:=1000000000000000000000000000000) (by omega) (by decide))
 walk_at "rd"
 refine ifB (fun _=>?_) (fun _=>?_)
 · walk_at "rd"
   intro g hg
   rw[p25] at *
   exact k _ _ _ _ (by walk_at "sm") ⟨g,rfl,a0f⟩ (a2w (b:=1000000000000000000000000000000) (by omega) (by decide)) (a2w (b:=1000000000000000000000000000000) (by omega) (by decide))
 walk_at "rd"
 refine a4r (fun _=>?_) (fun _=>?_)
 · walk_at "rd"
   intro g hg
   exact k _ _ _ _ (by walk_at "sm") ⟨g,rfl,a0f⟩ (a2w (b:=1000000000000000000000000000000) (by omega) (by decide)) (a2w (b:=1000000000000000000000000000000) (by omega) (by decide))
 walk_at "rd"
 intro g hg
 exact k _ _ _ _ (by walk_at "sm") ⟨g,rfl,a0f⟩ (a2w (b:=1000000000000000000000000000000) (by omega) (by decide)) (a2w (b:=1000000000000000000000000000000) (by omega) (by decide))
theorem ok_l_way(F:a0w K mg "_law_way" a7b ["_law_cell"])(D_l_stream:a0u P w K mg base CX0 1 "_law_stream" ["_law_cell","_law_many"] a3c):a0u P w K mg base CX0 2 "_law_way" ["_law_cell"] spWay:=by
 refine a1b F a4z (fun vs H Q E h=>?_) (fun f cdv A outer s H vs Q E hr h=>?_)
 · obtain⟨c,rfl,_⟩:=h;rfl
 obtain⟨c,rfl,k⟩:=h
 have hu:=hr.units
 refine⟨_,(a0c (a0l (i:=1) a4z.nd rfl (Or.inl rfl) (a0v D_l_stream hr a1j (a0a (pvI 0) (a0a a0b a0d)))) (a0c (a0l (i:=2) a4z.nd rfl (Or.inl rfl) (a0i (a0k K) (a4k (a0a a0b (a0a a0b (a0a a0b (a0a a0b (a0a a0b (a0a a0b (a0a a0b (a0a (a0e a2i (a0e a5n a0b a0b) a0b) a0d))))))))) (a0e a1d (a0i (a0k K) (pvI 1) a0b (fun _ _=>rfl)) a0b) (fun _ _=>rfl))) (a0c (a0l (i:=3) a4z.nd rfl (Or.inl rfl) (a1g (a0a (a0e a1h (a0e a1d (a0i (a0k K) (pvI 1) a0b (fun _ _=>rfl)) a0b) a0b) (a0a (a0e a1h (a0e a1d (a0i (a0k K) (pvI 1) a0b (fun _ _=>rfl)) a0b) a0b) a0d)))) (a0h (a0o (a1g (a0a (pvI 2) (a0a (a0e a1d (a0i (a0k K) (pvI 1) a0b (fun _ _=>rfl)) a0b) (a0a (pvI 3) (a0a (a1g (a0a (a0e a1h (a0e a1d (a0i (a0k K) (pvI 1) a0b (fun _ _=>rfl)) a0b) a0b) (a0a (a0e a1h (a0e a1d (a0i (a0k K) (pvI 1) a0b (fun _ _=>rfl)) a0b) a0b) a0d))) a0d)))))))))),?_⟩
 walk_at "rd"
 refine⟨c,6,rfl,by decide,fun lx xs H1 s1 hx0 hx hxl hnn=>?_⟩
 have nn:∀ j:Nat,0≤xs.getD j 0:=fun j=>a7g (fun x h=>(hnn x h).1) j
 have n0:=nn 0
 have n1:=nn 1
 have n2:=nn 2
 have n3:=nn 3
 have n4:=nn 4
 have n5:=nn 5
 have hx1:SqL K H1 lx (xs.map V.int):=SqL.of hx
 walk_at "rd"
 intro lb hlb
 walk_at "rd"
 obtain⟨B,hB,B1,B2⟩:=tab [1,1,2,3,6,12,8,(10:Int)^(9:Int).toNat+7] 1 1000000007 (xs.getD (b7c 0) 0 % 8) (by rw[p9];decide) (by omega) (by show _<(8:Int);omega)
 refine⟨_,_,_,_,rfl,rfl,SqL.of a0f,hB,?_⟩
 walk_at "rd"
 intro ls hls
 walk_at "rd"
 intro lz hlz
 walk_at "rd"
 intro la hla
 exact k _ B _ _ (by walk_at "sm") ⟨la,ls,lz,_,_,_,_,rfl,a0f,by walk_at "hf",by walk_at "hf",by omega,by omega,by omega,by omega,by omega,by omega⟩
theorem a9s(F:a0w K mg "_law_points" a2r ["_law_script","_law_most"])(D_l_cell_at:a0u P w K mg base CX0 1 "_law_cell_at" ["_law_script","_law_k"] (b2q K))(D_l_stream:a0u P w K mg base CX0 1 "_law_stream" ["_law_cell","_law_many"] a3c)(D_l_place:a0u P w K mg base CX0 2 "_law_place" ["_law_cell","_law_way_here"] b2o)(D_l_way:a0u P w K mg base CX0 2 "_law_way" ["_law_cell"] spWay):a0u P w K mg base CX0 3 "_law_points" ["_law_script","_law_most"] (a5h K):=by
 refine a1b F a2f (fun vs H Q E h=>?_) (fun f cdv A outer s H vs Q E hr h=>?_)
 · obtain⟨a,ns,rfl,_⟩:=h;rfl
 obtain⟨a,ns,rfl,hS,k⟩:=h
 have hu:=hr.units
 refine⟨_,(a0c (a0l (i:=2) a2f.nd rfl (Or.inr rfl) (a0v D_l_way hr a1j (a0a (a0v D_l_cell_at hr a1j (a0a (pvI 0) (a0a a0b a0d))) a0d))) (a0c (a0l (i:=3) a2f.nd rfl (Or.inl rfl) (a0v D_l_stream hr a1j (a0a (a0e b3p (a0v D_l_cell_at hr a1j (a0a (pvI 0) (a0a a0b a0d))) a0b) (a0a a0b a0d)))) (a0c (a0l (i:=4) a2f.nd rfl (Or.inl rfl) (a0e b0s (a2g (a2x K) (pvI 0) (a1y a0b) (a1y (a0e a1h (pvI 1) a0b))) (a2g (a2x K) (pvI 3) a3l (a1y (a0e a1d (a0i (a0k K) (pvI 3) a0b (fun _ _=>rfl)) a0b))))) (a0c (a1v (a0z (a7c K hu) (pvI 4) (a4k a0d) (a1e _)) (a0h (a0l (i:=4) a2f.nd rfl (Or.inl rfl) (a2g (a2x K) (pvI 3) a3l (a1y a0b)))) a1c) (a0h (a0o (a1g (a0a (a0i (a0m K) (pvI 2) a0b (fun _ _=>rfl)) (a0a (a2h (os:=["_law_cell"]) (caps:=[(2,"_law_way_here")]) ["_law_script","_law_most","_law_way_here","_law_more","_law_cells"] (a0g a2r) (a1m K (pvI 4)) (fun _ _ _ _ _=>(a0j (i:=0) (show b7o (["_law_cell","_law_way_here"]:List Str) from by decide +kernel) rfl (Or.inl rfl))) (fun _ _ _ _ _=>(a0v D_l_place hr a1j (a0a (pvI 0) (a0a (pvI 1) a0d)))) (by decide +kernel)) a0d))))))))),?_⟩
 walk_at "rd"
 refine⟨a,ns,_,rfl,by walk_at "mv",by decide,fun z0=>?_⟩
 walk_at "rd"
 intro vw B kd H1 s1 hW
 obtain⟨wa,sa,ba,sx,sy,bx,by_,rfl,hwa,hsa,hba,B1,B2,r⟩:=id hW
 walk_at "rd"
 refine⟨a,ns,_,rfl,by walk_at "mv",by decide,fun z1=>?_⟩
 walk_at "rd"
 refine⟨_,7,rfl,by decide,fun lm xs H2 s2 hm0 hm hxl hnn=>?_⟩
 have nn:∀ j:Nat,0≤xs.getD j 0:=fun j=>a7g (fun x h=>(hnn x h).1) j
 have n6:0≤xs.getD (b7c 6) 0:=nn 6
 have hS2:SqL K H2 a (ns.map V.int):=by walk_at "mv"
 walk_at "rd"
 refine⟨a,_,rfl,hS2,fun q1 hq1=>?_⟩
 obtain⟨m1,e1,l1⟩:=a7m ns (some 1) (some (20 - 5))
 rw[a5b _ _ _ (by decide),a5b _ _ _ (by decide)] at l1
 rw[e1]
 have hm1:(upd H2 q1 (.lst (m1.map V.int))) lm=some (.lst (xs.map V.int)):=a1x hq1 hm
 have hx1:SqL K (upd H2 q1 (.lst (m1.map V.int))) lm (xs.map V.int):=SqL.of hm1
 walk_at "rd"
 refine⟨lm,_,rfl,hx1,fun q2 hq2=>?_⟩
 obtain⟨m2,e2,l2⟩:=a7m xs none (some (xs.getD (b7c 6) 0 % 7))
 rw[a5b _ _ _ (by omega)] at l2
 rw[e2]
 have c1:(20 - 5:Int).toNat=15:=by decide
 have c2:(1:Int).toNat=1:=by decide
 rw[c1,c2] at l1
 have b1:m1.length≤14:=by omega
 have b2:m2.length≤6:=by omega
 walk_at "rd"
 refine⟨q1,q2,_,_,rfl,rfl,by walk_at "hf",a0f,?_,fun q3 hq3=>?_⟩
 · rw[b5j,b5j];exact b6u (a0s (by omega))
 rw[← List.map_append]
 walk_at "rd"
 intro le hle
 refine⟨_,_,dnInts (SqL.of (by walk_at "hf")),dnInts (ms:=[]) (SqL.of a0f),a6p _ 7,a6p _ 7,fun b hb=>?_⟩
 cases b with
 | true=>
   refine⟨_,rfl,ifT rfl ?_⟩
   have hm4:SqL K (upd (upd (upd (upd H2 q1 (.lst (m1.map V.int))) q2 (.lst (m2.map V.int))) q3 (.lst ((m1++m2).map V.int))) le (.lst [])) lm (xs.map V.int):=SqL.of (by walk_at "hf")
   walk_at "rd"
   refine⟨lm,_,rfl,hm4,fun q4 hq4=>?_⟩
   obtain⟨m3,e3,l3⟩:=a7m xs none (some 1)
   have e3':m3=[xs.getD 0 0]:=by
     have h0:cutV (xs.map V.int) none (some 1)=[V.int (xs.getD 0 0)]:=by
       match xs,hxl with
       | x::r,_=>
         unfold cutV
         rw[HT.a5a]
         have:HT.sIx ((x::r).map V.int).length ((x::r).map V.int).length (some 1)=1:=by rw[a5b _ _ _ (by decide)];simp
         rw[this];rfl
     rw[e3] at h0
     match m3,h0 with
     | [y],h0=>simpa using h0
   subst e3'
   rw[e3]
   walk_at "rd"
   have hcl:=a0f (H:=upd (upd (upd (upd H2 q1 (.lst (m1.map V.int))) q2 (.lst (m2.map V.int))) q3 (.lst ((m1++m2).map V.int))) le (.lst [])) (a:=q4) (o:=.lst ([xs.getD 0 0].map V.int))
   have h1c:1≤[xs.getD 0 0].length:=by simp
   have h2c:[xs.getD 0 0].length≤20:=by simp
   have hW5:WayV (upd (upd (upd (upd (upd H2 q1 (.lst (m1.map V.int))) q2 (.lst (m2.map V.int))) q3 (.lst ((m1++m2).map V.int))) le (.lst [])) q4 (.lst ([xs.getD 0 0].map V.int))) (.ref wa) B kd:=hW.same (by walk_at "sm")
   generalize hms:[xs.getD 0 0]=ms at *
   refine⟨⟨_,SqL.of hcl⟩,b0b (a2t (SqL.of hcl)) (by rw[b5j];omega) (fun i v H=>∃ x y:Int,RwV H v x y∧Sz 110 x∧Sz 110 y) (fun _ _ _ _ t h=>by obtain⟨x,y,h1,h2⟩:=h;exact⟨x,y,h1.tup t,h2⟩) (fun i H5 kk hi s5 hk=>?_) (fun E ys H5 hE s5 hE' hl5 hr=>?_)⟩
   · rw[b5j] at hi
     rw[int_at (b5i hi)]
     walk_at "rd"
     exact⟨_,_,B,kd,rfl,hW5.same s5,fun v x y H6 s6 r z1 z2=>hk v H6 s6 ⟨x,y,r,z1,z2⟩⟩
   obtain⟨pl,hP,hZ⟩:=a5l hr
   clear hr
   have hpl:=hP.len
   rw[b5j] at hl5
   walk_at "rd"
   intro c hc
   exact k c E ys pl B _ (by walk_at "sm") a0f (a1x hc hE') (hP.same (Same.new hc)) (by omega) (by omega) B1 B2 hZ
 | false=>
   refine⟨_,rfl,ifF rfl ?_⟩
   have hne:m1++m2≠[]:=fun e=>by
     have:=hb.mpr (by rw[e])
     cases this
   have hcl:(upd (upd (upd (upd H2 q1 (.lst (m1.map V.int))) q2 (.lst (m2.map V.int))) q3 (.lst ((m1++m2).map V.int))) le (.lst [])) q3=some (.lst ((m1++m2).map V.int)):=by walk_at "hf"
   have h1c:1≤(m1++m2).length:=Nat.one_le_iff_ne_zero.mpr (fun e=>hne (List.length_eq_zero_iff.mp e))
   have h2c:(m1++m2).length≤20:=by rw[b5u];omega
   have hW5:WayV (upd (upd (upd (upd H2 q1 (.lst (m1.map V.int))) q2 (.lst (m2.map V.int))) q3 (.lst ((m1++m2).map V.int))) le (.lst [])) (.ref wa) B kd:=hW.same (by walk_at "sm")
   walk_at "rd"
   refine⟨⟨_,SqL.of hcl⟩,b0b (a2t (SqL.of hcl)) (by rw[b5j];omega) (fun i v H=>∃ x y:Int,RwV H v x y∧Sz 110 x∧Sz 110 y) (fun _ _ _ _ t h=>by obtain⟨x,y,h1,h2⟩:=h;exact⟨x,y,h1.tup t,h2⟩) (fun i H5 kk hi s5 hk=>?_) (fun E ys H5 hE s5 hE' hl5 hr=>?_)⟩
   · rw[b5j] at hi
     rw[int_at (b5i hi)]
     walk_at "rd"
     exact⟨_,_,B,kd,rfl,hW5.same s5,fun v x y H6 s6 r z1 z2=>hk v H6 s6 ⟨x,y,r,z1,z2⟩⟩
   obtain⟨pl,hP,hZ⟩:=a5l hr
   clear hr
   have hpl:=hP.len
   rw[b5j] at hl5
   walk_at "rd"
   intro c hc
   exact k c E ys pl B _ (by walk_at "sm") a0f (a1x hc hE') (hP.same (Same.new hc)) (by omega) (by omega) B1 B2 hZ
theorem b1j(F:a0w K mg "_law_share" a3u ["_law_top","_law_bottom"])(B:Blt mg):a0u P w K mg base CX0 1 "_law_share" ["_law_top","_law_bottom"] a6y:=by
 refine a1b F a2a (fun vs H Q E h=>?_) (fun f cdv A outer s H vs Q E hr h=>?_)
 · obtain⟨a,b,rfl,_⟩:=h;rfl
 obtain⟨t,b,rfl,hb,hz,k⟩:=h
 have hu:=hr.units
 refine⟨_,(a0c (a0l (i:=2) a2a.nd rfl (Or.inl rfl) (a0r b1b (by rfl) B.abs PyProof.Rows.boot_abs (a0a (pvI 0) a0d))) (a0c (a0l (i:=3) a2a.nd rfl (Or.inl rfl) (pvI 1)) (a0c (a5j PassesOwn.never (a0z op_gt (pvI 3) a0b (a1e _)) (a0c (a0l (i:=4) a2a.nd rfl (Or.inl rfl) (a0e a1d (pvI 2) (pvI 3))) (a0c (a0l (i:=2) a2a.nd rfl (Or.inl rfl) (pvI 3)) (a0h (a0l (i:=3) a2a.nd rfl (Or.inl rfl) (pvI 4)))))) (a0h (a0o (a1g (a0a (a0e a5d (pvI 0) (pvI 2)) (a0a (a0e a5d (pvI 1) (pvI 2)) a0d)))))))),?_⟩
 have g0:(b5x t b:Int)≠0:=gcd_pos' t b (by omega)
 have gz:Sz 9000 (b5x t b:Int):=hz.le (by
   rw[Int.natAbs_natCast]
   exact Nat.le_of_dvd (by omega) (Int.gcd_dvd_natAbs_right t b))
 walk_at "rd"
 refine a6s (fun σ H'=>∃ (x y:Int) (z:Option V),σ=[some (.int t),some (.int b),some (.int x),some (.int y),z]∧H'=H∧0≤x∧0≤y∧b5x x y=b5x t b) (fun σ _=>match σ with | [_,_,_,some (.int y),_]=>y.natAbs | _=>0) ⟨_,b,none,rfl,rfl,by split<;>omega,by omega,gcd_abs t b⟩ ?_ ?_
 · rintro σ H' ⟨x,y,z,rfl,rfl,hx,hy,e⟩
   refine⟨_,rfl,_,_,rfl,rfl,_,rfl,a4r (fun h0=>?_) (fun h0=>?_)⟩
   · refine⟨_,rfl,_,rfl,_,_,rfl,rfl,h0,?_⟩
     walk_at "rd"
     refine⟨⟨_,_,_,rfl,rfl,hy,b6q x (by omega),?_⟩,?_⟩
     · rw[emod_gcd x y h0];exact e
     · show (x % y).natAbs<y.natAbs
       have:=b6r x h0
       have:=b6q x (b:=y) (by omega)
       omega
   · have h0':y=0:=by omega
     subst h0'
     have hg:=low_gcd hx e
     subst hg
     refine⟨_,rfl,_,rfl,_,_,rfl,rfl,⟨g0,gz⟩,_,rfl,_,rfl,_,_,rfl,rfl,⟨g0,gz⟩,(by show 2≤sizeLine;decide),fun p hp=>?_⟩
     have e:=b2v t b hb
     refine k _ _ (Same.new hp) ⟨p,rfl,?_⟩
     rw[a0f,← e.1,← e.2]
 · rintro σ H' Q Q' hq ⟨v,h1,i,j,h2,h3,c,h4,h5⟩
   exact⟨v,h1,i,j,h2,h3,c,h4,hq _ _ h5⟩
theorem a9t(F:a0w K mg "_law_handed" a2s ["_law_places","_law_bottom"])(D_l_share:a0u P w K mg base CX0 1 "_law_share" ["_law_top","_law_bottom"] a6y):a0u P w K mg base CX0 2 "_law_handed" ["_law_places","_law_bottom"] (b0k K):=by
 refine a1b F a9i (fun vs H Q E h=>?_) (fun f cdv A outer s H vs Q E hr h=>?_)
 · obtain⟨a,ws,pl,B,rfl,_⟩:=h;rfl
 obtain⟨a,ws,pl,B,rfl,hS,hP,B1,zB,h1000,k⟩:=h
 have hu:=hr.units
 refine⟨_,(a0h (a0o (a2h (os:=["_law_x","_law_y"]) (caps:=[(1,"_law_bottom")]) ["_law_places","_law_bottom"] (a0g a2s) (a1m K (pvI 0)) (fun _ _ _ _ _=>(a2m (n:=2) K rfl (a0q (a0j (i:=0) (show b7o (["_law_x","_law_y","_law_bottom"]:List Str) from by decide +kernel) rfl (Or.inl rfl)) (a0q (a0j (i:=1) (show b7o (["_law_x","_law_y","_law_bottom"]:List Str) from by decide +kernel) rfl (Or.inl rfl)) a1z)))) (fun _ _ _ _ _=>(a1g (a0a (a0v D_l_share hr a1j (a0a (pvI 0) (a0a (pvI 2) a0d))) (a0a (a0v D_l_share hr a1j (a0a (pvI 1) (a0a (pvI 2) a0d))) a0d)))) (by decide +kernel)))),?_⟩
 walk_at "rd"
 refine⟨⟨_,hS⟩,comp2 (a8k hS hP) (by omega) (fun i v H=>PtV H v (b5l ((pl[i]?).getD (0,0)).1 B) (b5l ((pl[i]?).getD (0,0)).2 B)) (fun _ _ _ _ t h=>h.tup t) (fun i H2 kk hi s2 hk=>?_) (fun E us H2 hE s2 hE2 hl hr=>?_)⟩
 · walk_at "rd"
   refine⟨_,_,rfl,by omega,zB,fun v3 H3 s3 w3=>?_⟩
   walk_at "rd"
   refine⟨_,_,rfl,by omega,zB,fun v4 H4 s4 w4=>?_⟩
   walk_at "rd"
   intro p hp
   exact hk _ _ (by walk_at "sm") ⟨p,v3,v4,rfl,a0f,by walk_at "mv",by walk_at "mv"⟩
 · refine k E us H2 s2 hE hE2 ⟨by rw[hl];unfold a4i;rw[b5j],fun i v p e1 e2=>?_⟩
   unfold a4i at e2
   rw[b5s] at e2
   have:=hr i v e1
   cases e3:pl[i]? with
   | none=>rw[e3] at e2;cases e2
   | some q=>rw[e3] at e2 this;cases e2;exact this
theorem a9q(F:a0w K mg "_law_within" a2q ["_law_corners_here","_law_place_here"])(B:Blt mg)(D_l_cross:a0u P w K mg base CX0 1 "_law_cross" ["_law_one","_law_other","_law_third"] a7x):a0u P w K mg base CX0 2 "_law_within" ["_law_corners_here","_law_place_here"] a7w:=by
 refine a1b F a2y (fun vs H Q E h=>?_) (fun f cdv A outer s H vs Q E hr h=>?_)
 · obtain⟨a,v,us,pl,s,n,rfl,_⟩:=h;rfl
 obtain⟨a,_,us,pl,sp,n,rfl,ha,hU2,⟨vp,rfl,hsp2⟩,zp,zs,hn,h40,k⟩:=h
 have hu:=hr.units
 refine⟨_,(a0c (a1v (a0z a4l (a0r (a1q K) (by rfl) B.len PySem.boot_len (a0a (pvI 0) a0d)) a0b (a1e _)) (a0h (a0o (a2n (a7c K hu) (pvI 1) (a0i (a0k K) (pvI 0) a0b (fun _ _=>rfl)) (a1e _)))) a1c) (a0c (a1v (a0z a4l (a0r (a1q K) (by rfl) B.len PySem.boot_len (a0a (pvI 0) a0d)) a0b (a1e _)) (a0c (a4j (pvI 0) (pg_lstKI (n:=2) K rfl (a0q (a0j (i:=2) a2y.nd rfl (Or.inl rfl)) (a0q (a0j (i:=3) a2y.nd rfl (Or.inl rfl)) a1z)))) (a0c (a3g PassesOwn.never rfl (a2c rfl B.range (a0a a0b a0d)) (a0j (i:=4) a2y.nd rfl (Or.inl rfl)) (a0h (a1v (a9l (b3c op_le op_le (a0r (b4t rfl) (by rfl) B.min PyProof.Rows.boot_min (a0a (a0i (a0m K) (pvI 2) (pvI 4) (fun _ _=>rfl)) (a0a (a0i (a0m K) (pvI 3) (pvI 4) (fun _ _=>rfl)) a0d))) (a0i (a0m K) (pvI 1) (pvI 4) (fun _ _=>rfl)) (a0r (a8x rfl) (by rfl) B.max PyProof.Rows.boot_max (a0a (a0i (a0m K) (pvI 2) (pvI 4) (fun _ _=>rfl)) (a0a (a0i (a0m K) (pvI 3) (pvI 4) (fun _ _=>rfl)) a0d))) (by with_unfolding_all rfl))) (a0h (a0o b0r)) a1c))) (a0h (a0o (a2n a4l (a0v D_l_cross hr a1j (a0a (pvI 2) (a0a (pvI 3) (a0a (pvI 1) a0d)))) a0b (a1e _)))))) a1c) (a0h (a0o (a0r (a6r K rfl) (by rfl) B.all PyProof.Rows.boot_all (a0a (a2h (os:=["_law_k"]) (caps:=[(1,"_law_place_here"),(0,"_law_corners_here")]) ["_law_corners_here","_law_place_here","_law_one","_law_other","_law_k"] (a0g a2q) (a2c rfl B.range (a0a (a0r (a1q K) (by rfl) B.len PySem.boot_len (a0a (pvI 0) a0d)) a0d)) (fun _ _ _ _ _=>(a0j (i:=0) (show b7o (["_law_k","_law_place_here","_law_corners_here"]:List Str) from by decide +kernel) rfl (Or.inl rfl))) (fun _ _ _ _ _=>(a2n op_ge (a0v D_l_cross hr a1j (a0a (a0i (a0k K) (pvI 2) (a0e a1h (pvI 0) a0b) (fun _ _=>rfl)) (a0a (a0i (a0k K) (pvI 2) (pvI 0) (fun _ _=>rfl)) (a0a (pvI 1) a0d)))) a0b (a1e _))) (by decide +kernel)) a0d)))))),?_⟩
 have hul1:=hU2.len
 walk_at "rd"
 refine ifB (fun h=>?_) (fun h=>?_)
 · have hn1:pl.length=1:=by have:=V.int.inj (of_decide_eq_true h);omega
   obtain⟨va,ea,hva⟩:=hU2.at (a1w (l:=pl) (i:=0) (by omega))
   walk_at "rd"
   refine⟨a,_,_,_,rfl,rfl,SqL.of ha,a4e (j:=0) rfl ea,?_⟩
   walk_at "rd"
   refine⟨a5v sp,a5v (g0 pl 0),dnPl hsp2,dnPl hva,a5f _ 7,a5f _ 7,fun b hb=>?_⟩
   exact k b _ (L2.Same.refl _) (hb.trans (a8u.trans (b4d hn1).symm))
 walk_at "rd"
 refine ifB (fun h2=>?_) (fun h2=>?_)
 · have hn2:pl.length=2:=by have:=V.int.inj (of_decide_eq_true h2);omega
   obtain⟨va,ea,hva⟩:=hU2.at (a1w (l:=pl) (i:=0) (by omega))
   obtain⟨vb,eb,hvb⟩:=hU2.at (a1w (l:=pl) (i:=1) (by omega))
   obtain rfl:us=[.ref va,.ref vb]:=by
     rcases us with _ | ⟨x,_ | ⟨y,_ | ⟨z,r⟩⟩⟩
     · simp at ea
     · simp at eb
     · simp at ea eb;rw[ea,eb]
     · simp at hul1;omega
   have bad:¬ In2 pl sp→Q (.bl false) H:=fun z=>k false _ (L2.Same.refl _) ⟨fun e=>(by cases e),fun e=>absurd e z⟩
   walk_at "rd"
   refine⟨a,_,rfl,SqL.of ha,rfl,_,_,rfl,_,_,rfl,rfl,?_⟩
   walk_at "rd"
   refine a4d (fun i σ H'=>∃ y:Option V,σ=[some (.ref a),some (.ref vp),some (.ref va),some (.ref vb),y]∧H'=H∧(1≤i→BtI (g0 pl 0).1 (g0 pl 1).1 sp.1)∧(2≤i→BtI (g0 pl 0).2 (g0 pl 1).2 sp.2)) ⟨none,rfl,rfl,fun z=>absurd z (by decide),fun z=>absurd z (by decide)⟩ ?_ ?_
   · rintro i σ H' hi ⟨y,rfl,rfl,b1,b2⟩
     have hi2:i=0∨i=1:=by have:i<2:=hi;omega
     rcases hi2 with rfl | rfl
     · walk_at "rd"
       dsimp only[tNil]
       refine⟨_,_,rfl,?_⟩
       walk_at "rd"
       refine ifB (fun c0=>?_) (fun c0=>?_)
       · have c0:=of_decide_eq_true c0
         walk_at "rd"
         dsimp only[tNil]
         refine⟨_,_,rfl,?_⟩
         walk_at "rd"
         refine ifB (fun c1=>?_) (fun c1=>?_)
         · have c1:=of_decide_eq_false ((Bool.not_eq_true' _).mp c1)
           walk_at "rd"
           refine bad fun z=>?_
           have z:=((a3i hn2).mp z).2.1
           unfold BtI at z
           split at c1<;>omega
         · have c1:=of_decide_eq_true (by simpa using c1)
           refine⟨_,rfl,rfl,fun _=>(by unfold BtI;split at c0<;>split at c1<;>omega),fun z=>absurd z (by decide)⟩
       · walk_at "rd"
         refine bad fun z=>?_
         have z:=((a3i hn2).mp z).2.1
         have c0:=of_decide_eq_false c0
         unfold BtI at z
         split at c0<;>omega
     · walk_at "rd"
       dsimp only[tNil]
       refine⟨_,_,rfl,?_⟩
       walk_at "rd"
       refine ifB (fun c0=>?_) (fun c0=>?_)
       · have c0:=of_decide_eq_true c0
         walk_at "rd"
         dsimp only[tNil]
         refine⟨_,_,rfl,?_⟩
         walk_at "rd"
         refine ifB (fun c1=>?_) (fun c1=>?_)
         · have c1:=of_decide_eq_false ((Bool.not_eq_true' _).mp c1)
           walk_at "rd"
           refine bad fun z=>?_
           have z:=((a3i hn2).mp z).2.2
           unfold BtI at z
           split at c1<;>omega
         · have c1:=of_decide_eq_true (by simpa using c1)
           refine⟨_,rfl,rfl,fun _=>b1 (by decide),fun _=>(by unfold BtI;split at c0<;>split at c1<;>omega)⟩
       · walk_at "rd"
         refine bad fun z=>?_
         have z:=((a3i hn2).mp z).2.2
         have c0:=of_decide_eq_false c0
         unfold BtI at z
         split at c0<;>omega
   · rintro σ H' ⟨y,rfl,rfl,b1,b2⟩
     walk_at "rd"
     refine⟨_,_,_,g0 pl 0,g0 pl 1,sp,n,rfl,⟨va,rfl,hva⟩,⟨vb,rfl,hvb⟩,⟨vp,rfl,hsp2⟩,hn,zp _ (a2o (by omega)),zp _ (a2o (by omega)),zs,?_⟩
     walk_at "rd"
     refine k _ _ (L2.Same.refl _) (Iff.trans ⟨fun h=>?_,fun h=>decide_eq_true (congrArg V.int h)⟩ ((a3i hn2).trans ⟨fun h=>h.1,fun h=>⟨h,b1 (by decide),b2 (by decide)⟩⟩).symm)
     exact V.int.inj (of_decide_eq_true h)
 have n1:pl.length≠1:=fun z=>absurd (show V.int (us.length:Int)=V.int 1 by rw[hul1,z];rfl) (of_decide_eq_false h)
 have n2:pl.length≠2:=fun z=>absurd (show V.int (us.length:Int)=V.int 2 by rw[hul1,z];rfl) (of_decide_eq_false h2)
 walk_at "rd"
 refine⟨by omega,by omega,b0b (a5m _ _ _) (by omega) (fun i v _=>v=V.bl (decide (0≤tr (g0 pl ((i+pl.length - 1) % pl.length)) (g0 pl i) sp))) (fun _ _ _ _ _ h=>h) (fun i H5 kk hi s5 hk=>?_) (fun E ys H5 hE s5 hE' hl5 hr=>?_)⟩
 · have hi1:i<pl.length:=by omega
   have hj:(i+pl.length - 1) % pl.length<pl.length:=b8b _ (by omega)
   obtain⟨va,ea,hva⟩:=hU2.at (a1w hj)
   obtain⟨vb,eb,hvb⟩:=hU2.at (a1w hi1)
   have ha5:=s5 _ _ ha
   walk_at "rd"
   refine⟨a,_,_,_,rfl,rfl,SqL.of ha5,(show atI us (0+(i:Int) - 1)=some (.ref va) by rw[Int.zero_add,atI_pred (by omega),hul1];exact ea),?_⟩
   walk_at "rd"
   refine⟨a,_,_,_,rfl,rfl,SqL.of ha5,a4e (by omega) eb,?_⟩
   walk_at "rd"
   refine⟨_,_,_,_,g0 pl i,sp,n,rfl,⟨va,rfl,s5 _ _ hva⟩,⟨vb,rfl,s5 _ _ hvb⟩,⟨vp,rfl,s5 _ _ hsp2⟩,hn,zp _ (a2o hj),zp _ (a2o hi1),zs,?_⟩
   walk_at "rd"
   exact hk _ _ (L2.Same.refl _) rfl
 · obtain⟨bs,rfl,hb1,hb2⟩:=b3u hr
   walk_at "rd"
   refine⟨E,bs,rfl,SqL.of hE',?_⟩
   refine k _ _ s5 (Iff.trans ?_ (b0x n1 n2).symm)
   rw[b5j] at hl5
   exact (b5c (by omega) hb2).trans (cyc_back pl.length fun i j=>0≤tr (g0 pl i) (g0 pl j) sp)
theorem ok_turn(F:a0w K mg "turn" b0o ["one","other","third"]):a0u P w K mg base CX0 1 "turn" ["one","other","third"] a7x:=by
 refine a1b F sc_turn (fun vs H Q E h=>?_) (fun f cdv A outer s H vs Q E hr h=>?_)
 · obtain⟨u,v,w,a,b,c,n,rfl,_⟩:=h;rfl
 obtain⟨_,_,_,a,b,c,n,rfl,⟨ua,rfl,ha⟩,⟨ub,rfl,hb⟩,⟨uc,rfl,hc⟩,hn,⟨za1,za2⟩,⟨zb1,zb2⟩,⟨zc1,zc2⟩,k⟩:=h
 have hu:=hr.units
 refine⟨_,(a0h (a0o (a0e a1h (a0e a0y (a0e a1h (a0i (a0m K) (pvI 1) a0b (fun _ _=>rfl)) (a0i (a0m K) (pvI 0) a0b (fun _ _=>rfl))) (a0e a1h (a0i (a0m K) (pvI 2) a0b (fun _ _=>rfl)) (a0i (a0m K) (pvI 0) a0b (fun _ _=>rfl)))) (a0e a0y (a0e a1h (a0i (a0m K) (pvI 1) a0b (fun _ _=>rfl)) (a0i (a0m K) (pvI 0) a0b (fun _ _=>rfl))) (a0e a1h (a0i (a0m K) (pvI 2) a0b (fun _ _=>rfl)) (a0i (a0m K) (pvI 0) a0b (fun _ _=>rfl))))))),?_⟩
 walk_at "rd"
 refine⟨mulN (zb1.sub za1) (zc2.sub za2) (by omega),?_⟩
 walk_at "rd"
 refine⟨mulN (zb2.sub za2) (zc1.sub za1) (by omega),?_⟩
 walk_at "rd"
 exact k
theorem a4a(F:a0w K mg "greatest_common" a1k ["one","other"])(B:Blt mg):a0u P w K mg base CX0 1 "greatest_common" ["one","other"] spGcd:=by
 refine a1b F a2l (fun vs H Q E h=>?_) (fun f cdv A outer s H vs Q E hr h=>?_)
 · obtain⟨a,b,rfl,_⟩:=h;rfl
 obtain⟨a,b,rfl,k⟩:=h
 have hu:=hr.units
 refine⟨_,(a0c (a5j PassesOwn.never (a0z op_ne (pvI 1) a0b (a1e _)) (a0h (ps_parI (i:=0) (j:=1) rfl a2l.nd rfl rfl (by decide) rfl rfl (a0a (pvI 1) (a0a (a0e op_modN (pvI 0) (pvI 1)) a0d)) rfl))) (a0h (a0o (a0r b1b (by rfl) B.abs PyProof.Rows.boot_abs (a0a (pvI 0) a0d))))),?_⟩
 refine a6s (fun σ H'=>∃ x y:Int,σ=[some (.int x),some (.int y)]∧H'=H∧b5x x y=b5x a b) (fun σ _=>match σ with | [_,some (.int y)]=>y.natAbs | _=>0) ⟨a,b,rfl,rfl,rfl⟩ ?_ ?_
 · rintro σ H' ⟨x,y,rfl,rfl,e⟩
   refine⟨_,rfl,rfl,_,rfl,?_⟩
   by_cases hy:y=0
   · subst hy
     refine iteNS rfl ?_
     refine⟨_,rfl,_,rfl,?_⟩
     rw[gcd_zero,e]
     exact k
   · refine ifT (b1u hy) ?_
     refine⟨_,rfl,_,rfl,_,rfl,_,_,rfl,rfl,hy,_,_,rfl,⟨_,_,rfl,rfl,?_⟩,?_⟩
     · rw[b0y];exact e
     · exact fmod_lt x y hy
 · rintro σ H' Q Q' hq ⟨v,h1,hs,k1,h2,h3⟩
   exact⟨v,h1,hs,k1,h2,hq _ _ h3⟩
theorem a4m(F:a0w K mg "common_bottoms" a1n ["shares"])(D_greatest_common:a0u P w K mg base CX0 1 "greatest_common" ["one","other"] spGcd):a0u P w K mg base CX0 2 "common_bottoms" ["shares"] (b0m K):=by
 refine a1b F a0x (fun vs H Q E h=>?_) (fun f cdv A outer s H vs Q E hr h=>?_)
 · obtain⟨a,ws,qs,D,rfl,_⟩:=h;rfl
 obtain⟨a,ws,qs,D,rfl,hS,hQ,hD,zD,hdv,h40,k⟩:=h
 have hu:=hr.units
 refine⟨_,(a0c (a0l (i:=1) a0x.nd rfl (Or.inl rfl) (a4k a0d)) (a0c (a0l (i:=2) a0x.nd rfl (Or.inl rfl) a0b) (a0c (a3g PassesOwn.never rfl (a1m K (pvI 0)) (a0j (i:=3) a0x.nd rfl (Or.inl rfl)) (a0c (a0l (i:=4) a0x.nd rfl (Or.inl rfl) (a0e a5d (a0i (a0m K) (pvI 3) a0b (fun _ _=>rfl)) (a0v D_greatest_common hr a1j (a0a (pvI 2) (a0a (a0i (a0m K) (pvI 3) a0b (fun _ _=>rfl)) a0d))))) (a0h (a1v (a0z op_gt (pvI 4) a0b (a1e _)) (a0c (a5c (show PEi _ _ (tBM K _ _ _ _) from (b3m b7k b8i b8j a3h (pvI 1) (a0a (pvI 4) a0d)))) (a0h (a0l (i:=2) a0x.nd rfl (Or.inl rfl) (a0e a0y (pvI 2) (pvI 4))))) a1c)))) (a0h (a0o (pvI 1)))))),?_⟩
 walk_at "rd"
 intro l hl
 walk_at "rd"
 refine⟨⟨ws,by walk_at "mv"⟩,a5e (xs:=ws) (fun i σ H'=>∃ (y1 y2:Option V) (W:Int) (bs:List Int),σ=[some (.ref a),some (.ref l),some (.int W),y1,y2]∧W=a1r bs∧Same H H'∧H' l=some (.lst (bs.map V.int))∧(∀ b∈bs,0<b∧Sz 9000 b)∧W∣D∧(∀ j q,j<i→qs[j]?=some q→(q.den:Int)∣W)∧bs.length≤i)
   ⟨none,none,1,[],rfl,rfl,Same.new hl,a0f,(fun _ h=>nomatch h),⟨D,by rw[Int.one_mul]⟩,fun j q h=>absurd h (Nat.not_lt_zero _),b5n _⟩ ?_ ?_ ?_⟩
 · rintro i σ H' hi ⟨y1,y2,W,bs,rfl,eW,s1,h1,hb,hW,hq,hn⟩
   exact s1.seq hS
 · rintro i x σ H' hx ⟨y1,y2,W,bs,rfl,eW,s1,h1,hb,hW,hq,hn⟩
   have hi:i<ws.length:=(b5t.mp hx).1
   have hwl:=hQ.len
   obtain⟨q,eq,c,rfl,hc⟩:=(hQ.same s1).atV hx
   have hdq:=hdv q (b6e eq)
   have hd0:0<(q.den:Int):=by have:=q.den_pos;omega
   obtain⟨g1,g2,g3,g4,g5⟩:=lcm_step hd0 hW hdq
   have zq:Sz 9000 (q.den:Int):=a6h (by omega) hdq zD
   have zg:Sz 9000 (b5x W q.den:Int):=a6h (by omega) g5 zq
   walk_at "rd"
   refine⟨W,q.den,rfl,?_⟩
   refine⟨_,_,rfl,rfl,⟨by omega,zg⟩,?_⟩
   walk_at "rd"
   have zW:Sz 9000 W:=a6h (by omega) hW zD
   have zm:Sz 9000 ((q.den:Int).fdiv (b5x W q.den)):=b2y hd0 g4 g5 zq
   refine a4r (fun hm=>?_) (fun hm=>?_)
   · walk_at "rd"
     refine⟨.inl ⟨rfl,_,SqL.of h1⟩,?_⟩
     walk_at "rd"
     refine⟨l,_,_,rfl,rfl,h1,a0s (by rw[b5j];omega),?_⟩
     walk_at "rd"
     refine⟨_,_,_,bs++[(q.den:Int).fdiv (b5x W q.den)],rfl,by rw[a6l,eW],fun b o e=>?_,?_,?_,g2,?_,?_⟩
     · rw[a0n (a0p e hl)];exact s1 b o e
     · rw[a0f,List.map_append];rfl
     · intro b hb'
       rcases b6n.mp hb' with h | h
       · exact hb b h
       · rw[b6d.mp h];exact⟨g3,zm⟩
     · intro j r hj er
       by_cases hji:j=i
       · subst hji
         rw[eq] at er;cases er
         exact g1
       · exact Int.dvd_trans (hq j r (by omega) er) ⟨_,rfl⟩
     · rw[b5u];show bs.length+1≤i+1;omega
   · have e1:(q.den:Int).fdiv (b5x W q.den)=1:=by omega
     rw[e1,Int.mul_one] at g1
     refine⟨_,_,_,bs,rfl,eW,s1,h1,hb,hW,?_,by omega⟩
     intro j r hj er
     by_cases hji:j=i
     · subst hji
       rw[eq] at er;cases er
       exact g1
     · exact hq j r (by omega) er
 · rintro σ H' ⟨y1,y2,W,bs,rfl,eW,s1,h1,hb,hW,hq,hn⟩
   have hwl:=hQ.len
   refine⟨_,rfl,k l bs H' s1 h1 hb (fun q hm=>?_) (eW ▸ hW) (by omega)⟩
   obtain⟨j,hj,rfl⟩:=b6y hm
   rw[← eW]
   exact hq j _ (by omega) (b5i hj)
theorem b1i(F:a0w K mg "product" a3s ["numbers"]):a0u P w K mg base CX0 1 "product" ["numbers"] (a7y K):=by
 refine a1b F a3j (fun vs H Q E h=>?_) (fun f cdv A outer s H vs Q E hr h=>?_)
 · obtain⟨a,bs,rfl,_⟩:=h;rfl
 obtain⟨a,bs,rfl,hS,hb,hn,k⟩:=h
 have hu:=hr.units
 refine⟨_,(a0c (a0l (i:=1) a3j.nd rfl (Or.inl rfl) a0b) (a0c (a3g PassesOwn.never rfl (a1m K (pvI 0)) (a0j (i:=2) a3j.nd rfl (Or.inl rfl)) (a0h (a0l (i:=1) a3j.nd rfl (Or.inl rfl) (a0e a0y (pvI 1) (pvI 2))))) (a0h (a0o (pvI 1))))),?_⟩
 walk_at "rd"
 refine⟨⟨_,hS⟩,a5e (xs:=bs.map V.int) (fun i σ H'=>∃ (y:Option V) (W:Int),σ=[some (.ref a),some (.int W),y]∧W=a1r (bs.take i)∧H'=H) ⟨none,1,rfl,rfl,rfl⟩ ?_ ?_ ?_⟩
 · rintro i σ H' hi ⟨y,W,rfl,eW,rfl⟩
   exact hS
 · rintro i x σ H' hx ⟨y,W,rfl,eW,rfl⟩
   obtain⟨b,eb,rfl⟩:=ints_at hx
   have zW:Sz (9000*100+1) W:=by
     rw[eW]
     exact (prod_sz fun c hc=>hb c (List.mem_of_mem_take hc)).mono (by rw[b7y];omega)
   walk_at "rd"
   refine⟨mulB zW (hb b (b6e eb)).2,_,_,rfl,?_,rfl⟩
   rw[b2j eb,a6l,eW]
 · rintro σ H' ⟨y,W,rfl,eW,rfl⟩
   refine⟨_,rfl,?_⟩
   rw[b5j,List.take_length] at eW
   rw[eW];exact k
theorem ok_axis(F:a0w K mg "axis" a8f ["shares"])(D_common_bottoms:a0u P w K mg base CX0 2 "common_bottoms" ["shares"] (b0m K))(D_product:a0u P w K mg base CX0 1 "product" ["numbers"] (a7y K)):a0u P w K mg base CX0 3 "axis" ["shares"] (spAxis K):=by
 refine a1b F a9j (fun vs H Q E h=>?_) (fun f cdv A outer s H vs Q E hr h=>?_)
 · obtain⟨a,ws,qs,D,m,rfl,_⟩:=h;rfl
 obtain⟨a,ws,qs,D,m,rfl,hS,hQ,hD,zD,hdv,hm,h40,k⟩:=h
 have hu:=hr.units
 refine⟨_,(a0c (a0l (i:=1) a9j.nd rfl (Or.inl rfl) (a0v D_common_bottoms hr a1j (a0a (pvI 0) a0d))) (a0c (a0l (i:=2) a9j.nd rfl (Or.inr rfl) (a0v D_product hr a1j (a0a (pvI 1) a0d))) (a0h (a0o (a1g (a0a (a2h (os:=["one"]) (caps:=[(2,"whole")]) ["shares","bottoms","whole"] (a0g a8f) (a1m K (pvI 0)) (fun _ _ _ _ _=>(a0j (i:=0) (show b7o (["one","whole"]:List Str) from by decide +kernel) rfl (Or.inl rfl))) (fun _ _ _ _ _=>(a0e a0y (a0i (a0m K) (pvI 0) a0b (fun _ _=>rfl)) (a0e a5d (pvI 1) (a0i (a0m K) (pvI 0) a0b (fun _ _=>rfl))))) (by decide +kernel)) (a0a (pvI 1) a0d))))))),?_⟩
 walk_at "rd"
 refine⟨a,ws,qs,D,rfl,hS,hQ,hD,zD,fun q hq=>(hdv q hq).1,h40,fun lb bs H1 s1 hlb hb hdb hbD hbl=>?_⟩
 have hW:0<a1r bs:=a5k fun b hb'=>(hb b hb').1
 have zW:Sz 9000 (a1r bs):=a6h (by omega) hbD zD
 have hwl:=hQ.len
 walk_at "rd"
 refine⟨lb,bs,rfl,SqL.of hlb,hb,by omega,?_⟩
 walk_at "rd"
 refine⟨⟨_,s1.seq hS⟩,b0b (a2t (s1.seq hS)) (by omega) (fun i v _=>∀ q,qs[i]?=some q→v=.int (q.num*(a1r bs).fdiv q.den)) (fun _ _ _ _ _ h=>h) (fun i H2 kk hi s2 hk=>?_) (fun E2 ys H2 hE s2 hE2 hl hr=>?_)⟩
 · have ew:ws[i]?=some ws[i]:=b5i hi
   obtain⟨q,eq,c,ec,hc⟩:=((hQ.same s1).same s2).atV ew
   have ef:(ws[i]?).getD V.non=.ref c:=by rw[ew];exact ec
   obtain⟨dq,bq⟩:=hdv q (b6e eq)
   have hd0:0<(q.den:Int):=by have:=q.den_pos;omega
   have zq:Sz 9000 (q.den:Int):=a6h (by omega) dq zD
   have dW:=hdb q (b6e eq)
   have zf:Sz 9000 ((a1r bs).fdiv q.den):=b2y hW hd0 dW zW
   rw[ef]
   walk_at "rd"
   refine⟨⟨by omega,zq⟩,?_⟩
   refine⟨_,_,rfl,rfl,mulN bq.num zf (by omega),?_⟩
   refine hk _ _ (L2.Same.refl _) fun q' e'=>?_
   rw[eq] at e';cases e'
   rfl
 · walk_at "rd"
   intro p hp
   have ey:=ints_of (by omega) hr
   refine k _ (qs.map fun q=>q.num*(a1r bs).fdiv q.den) bs _ (by walk_at "sm") ⟨p,E2,lb,rfl,a0f,?_,?_,?_,hb,by omega,by rw[b5j];omega⟩ (axR_tops hW hdb) hbl
   · rw[← ey];exact a1x hp hE2
   · exact a1x hp (s2 _ _ hlb)
   · intro x hx
     obtain⟨q,hq,rfl⟩:=b8c.mp hx
     obtain⟨dq,bq⟩:=hdv q hq
     exact (bq.num.mul (b2y hW (by have:=q.den_pos;omega) (hdb q hq) zW)).mono (by omega)
theorem ok_axes(F:a0w K mg "axes" a6k ["points"])(D_axis:a0u P w K mg base CX0 3 "axis" ["shares"] (spAxis K)):a0u P w K mg base CX0 4 "axes" ["points"] (spAxes K):=by
 refine a1b F sc_axes (fun vs H Q E h=>?_) (fun f cdv A outer s H vs Q E hr h=>?_)
 · obtain⟨a,ws,ps,D,m,rfl,_⟩:=h;rfl
 obtain⟨a,ws,ps,D,m,rfl,hS,hP,hD,zD,hdv,hm,h40,k⟩:=h
 have hu:=hr.units
 refine⟨_,(a0h (a0o (a1g (a0a (a0v D_axis hr a1j (a0a (a2h (os:=["place"]) (caps:=[]) ["points"] (a0g a6k) (a1m K (pvI 0)) (fun _ _ _ _ _=>(a0j (i:=0) (show b7o (["place"]:List Str) from by decide +kernel) rfl (Or.inl rfl))) (fun _ _ _ _ _=>(a0i (a0m K) (pvI 0) a0b (fun _ _=>rfl))) (by decide +kernel)) a0d)) (a0a (a0v D_axis hr a1j (a0a (a2h (os:=["place"]) (caps:=[]) ["points"] (a0g a6k) (a1m K (pvI 0)) (fun _ _ _ _ _=>(a0j (i:=0) (show b7o (["place"]:List Str) from by decide +kernel) rfl (Or.inl rfl))) (fun _ _ _ _ _=>(a0i (a0m K) (pvI 0) a0b (fun _ _=>rfl))) (by decide +kernel)) a0d)) a0d))))),?_⟩
 have hwl:=hP.len
 walk_at "rd"
 refine⟨⟨ws,by walk_at "mv"⟩,b0b (a2t (by walk_at "mv" : SqL K _ a ws)) (by omega) (fun i v H=>∀ p,ps[i]?=some p→ShV H v p.1) (fun _ _ _ _ t h p e=>(h p e).tup t) (fun i H2 kk hi s2 hk=>?_) (fun E2 ys2 H2 hE2 s2 hE'2 hl2 hr2=>?_)⟩
 · have ew:ws[i]?=some ws[i]:=b5i hi
   obtain⟨p,ep,c,vx,vy,ec,hc,hx,hy⟩:=(show PtsV H2 ws ps by walk_at "mv").atV ew
   have ef:(ws[i]?).getD V.non=.ref c:=by rw[ew];exact ec
   rw[ef]
   walk_at "rd"
   refine hk _ _ (L2.Same.refl _) fun p' e'=>?_
   rw[ep] at e';cases e'
   assumption
 have hq2:ShL H2 ys2 (ps.map (·.1)):=ShL.map (by omega) hr2
 clear hr2
 refine⟨E2,ys2,ps.map (·.1),D,m,rfl,SqL.of hE'2,hq2,hD,zD,fun q hq=>?_,hm,by rw[b5j];omega,fun v3 t3 b3 H3 s3 A3 e3 n3=>?_⟩
 · obtain⟨p,hp,rfl⟩:=b8c.mp hq
   exact (hdv p hp).1
 rw[b5j] at n3
 walk_at "rd"
 refine⟨⟨ws,by walk_at "mv"⟩,b0b (a2t (by walk_at "mv" : SqL K _ a ws)) (by omega) (fun i v H=>∀ p,ps[i]?=some p→ShV H v p.2) (fun _ _ _ _ t h p e=>(h p e).tup t) (fun i H4 kk hi s4 hk=>?_) (fun E4 ys4 H4 hE4 s4 hE'4 hl4 hr4=>?_)⟩
 · have ew:ws[i]?=some ws[i]:=b5i hi
   obtain⟨p,ep,c,vx,vy,ec,hc,hx,hy⟩:=(show PtsV H4 ws ps by walk_at "mv").atV ew
   have ef:(ws[i]?).getD V.non=.ref c:=by rw[ew];exact ec
   rw[ef]
   walk_at "rd"
   refine hk _ _ (L2.Same.refl _) fun p' e'=>?_
   rw[ep] at e';cases e'
   assumption
 have hq4:ShL H4 ys4 (ps.map (·.2)):=ShL.map (by omega) hr4
 clear hr4
 refine⟨E4,ys4,ps.map (·.2),D,m,rfl,SqL.of hE'4,hq4,hD,zD,fun q hq=>?_,hm,by rw[b5j];omega,fun v5 t5 b5 H5 s5 A5 e5 n5=>?_⟩
 · obtain⟨p,hp,rfl⟩:=b8c.mp hq
   exact (hdv p hp).2
 rw[b5j] at n5
 walk_at "rd"
 intro c hc
 exact k c v3 v5 t3 b3 t5 b5 _ (by walk_at "sm") a0f (by walk_at "mv") (by walk_at "mv") e3 e5 n3 n5
theorem a5o(F:a0w K mg "whole_places" a1u ["points"])(B:Blt mg)(D_axes:a0u P w K mg base CX0 4 "axes" ["points"] (spAxes K)):a0u P w K mg base CX0 5 "whole_places" ["points"] (b0l K):=by
 refine a1b F a2d (fun vs H Q E h=>?_) (fun f cdv A outer s H vs Q E hr h=>?_)
 · obtain⟨a,ws,ps,D,m,rfl,_⟩:=h;rfl
 obtain⟨a,ws,ps,D,m,rfl,hS,hP,hD,zD,hdv,hm,h40,k⟩:=h
 have hu:=hr.units
 refine⟨_,(a0c (a4j (a0v D_axes hr a1j (a0a (pvI 0) a0d)) (a2m (n:=2) K rfl (a0q (a0j (i:=1) a2d.nd rfl (Or.inl rfl)) (a0q (a0j (i:=2) a2d.nd rfl (Or.inl rfl)) a1z)))) (a0h (a0o (show PEi _ _ (tZipL K _) from (a9n rfl B.list rfl B.zip (a0a (a0i (a0m K) (pvI 1) a0b (fun _ _=>rfl)) (a0a (a0i (a0m K) (pvI 2) a0b (fun _ _=>rfl)) a0d))))))),?_⟩
 walk_at "rd"
 refine⟨a,ws,ps,D,m,rfl,hS,hP,hD,zD,hdv,hm,h40,fun c x y t1 b1 t2 b2 H1 s1 hc A1 A2 e1 e2 n1 n2=>?_⟩
 refine⟨c,_,rfl,SqT.of hc,rfl,_,_,rfl,_,_,rfl,rfl,?_⟩
 have P1:0<a1r b1:=by obtain⟨_,_,_,_,_,_,_,_,g,_⟩:=A1;exact a5k fun b hb=>(g b hb).1
 have P2:0<a1r b2:=by obtain⟨_,_,_,_,_,_,_,_,g,_⟩:=A2;exact a5k fun b hb=>(g b hb).1
 obtain⟨a1,lt1,lb1,rfl,ha1,ht1,hb1,z1,g1,_,q1⟩:=A1
 obtain⟨a2,lt2,lb2,rfl,ha2,ht2,hb2,z2,g2,_,q2⟩:=A2
 walk_at "rd"
 refine⟨lt1,lt2,_,_,rfl,SqL.of ht1,SqL.of ht2,by rw[b5j];omega,fun l us H2 hl0 s2 hl hlen hpr=>?_⟩
 rw[b5j,b5j] at hlen
 exact k l us (t1.zip t2) _ _ H2 (s1.trans s2) (s1.free hl0) hl (b3f hlen hpr) P1 P2 (b2z e1.symm e2.symm) (zip_szp z1 z2)
theorem b1n(F:a0w K mg "in_hull" a3e ["corners","place"])(B:Blt mg)(D_turn:a0u P w K mg base CX0 1 "turn" ["one","other","third"] a7x)(D_whole_places:a0u P w K mg base CX0 5 "whole_places" ["points"] (b0l K)):a0u P w K mg base CX0 6 "in_hull" ["corners","place"] (a7z K):=by
 refine a1b F a4h (fun vs H Q E h=>?_) (fun f cdv A outer s H vs Q E hr h=>?_)
 · obtain⟨a,v,ws,cs,p,D,m,rfl,_⟩:=h;rfl
 obtain⟨a,v,ws,cs,p,D,m,rfl,ha,hP,hv,hD,zD,hdv,hm,h39,k⟩:=h
 have hu:=hr.units
 refine⟨_,(a0c (a0l (i:=2) a4h.nd rfl (Or.inl rfl) (a0v D_whole_places hr a1j (a0a (a0e b0s (pvI 0) (a4k (a0a (pvI 1) a0d))) a0d))) (a0c (a0l (i:=3) a4h.nd rfl (Or.inr rfl) (show PEi _ _ (tBM0 K _ _ _) from (b3n b7k PySem.F.slot_list_pop PySem.F.type_list_pop mt_pop (pvI 2)))) (a0c (a1v (a0z a4l (a0r (a1q K) (by rfl) B.len PySem.boot_len (a0a (pvI 2) a0d)) a0b (a1e _)) (a0h (a0o (a2n (a7c K hu) (pvI 3) (a0i (a0k K) (pvI 2) a0b (fun _ _=>rfl)) (a1e _)))) a1c) (a0c (a1v (a0z a4l (a0r (a1q K) (by rfl) B.len PySem.boot_len (a0a (pvI 2) a0d)) a0b (a1e _)) (a0h (a0o (a9p (a2n a4l (a0v D_turn hr a1j (a0a (a0i (a0k K) (pvI 2) a0b (fun _ _=>rfl)) (a0a (a0i (a0k K) (pvI 2) a0b (fun _ _=>rfl)) (a0a (pvI 3) a0d)))) a0b (a1e _)) (b3j (b3k (b3o K (u0 hu)) (b3o K (u0 hu)) (a0r (b1y K rfl (u8 hu)) (by rfl) B.min PyProof.Rows.boot_min (a0a (pvI 2) a0d)) (pvI 3) (a0r (b1z K rfl (u8 hu)) (by rfl) B.max PyProof.Rows.boot_max (a0a (pvI 2) a0d)) (by with_unfolding_all rfl)))))) a1c) (a0h (a0o (a0r (a6r K rfl) (by rfl) B.all PyProof.Rows.boot_all (a0a (a2h (os:=["one","other"]) (caps:=[(3,"spot")]) ["corners","place","around","spot"] (a0g a3e) (show PIi _ _ _ (iZip K _) from (pi_zipI rfl B.zip (a0a (pvI 2) (a0a (a0e b0s (a2g (a2x K) (pvI 2) (a1y a0b) a3l) (a2g (a2x K) (pvI 2) a3l (a1y a0b))) a0d)))) (fun _ _ _ _ _=>(a2m (n:=2) K rfl (a0q (a0j (i:=0) (show b7o (["one","other","spot"]:List Str) from by decide +kernel) rfl (Or.inl rfl)) (a0q (a0j (i:=1) (show b7o (["one","other","spot"]:List Str) from by decide +kernel) rfl (Or.inl rfl)) a1z)))) (fun _ _ _ _ _=>(a2n op_ge (a0v D_turn hr a1j (a0a (pvI 0) (a0a (pvI 1) (a0a (pvI 2) a0d)))) a0b (a1e _))) (by decide +kernel)) a0d)))))))),?_⟩
 have hpl:=hP.len
 walk_at "rd"
 intro l1 hl1
 walk_at "rd"
 refine⟨a,l1,_,_,rfl,rfl,by walk_at "hf",a0f,?_,fun l2 hl2=>?_⟩
 · simp;exact b6u (a0s (by omega))
 have sA:Same H (upd (upd H l1 (.lst [v])) l2 (.lst (ws++[v]))):=(Same.new hl1).trans (Same.new hl2)
 have hPA:PtsV (upd (upd H l1 (.lst [v])) l2 (.lst (ws++[v]))) (ws++[v]) (cs++[p]):=(hP.same sA).snoc (hv.same sA)
 walk_at "rd"
 refine⟨l2,_,_,D,m,rfl,SqL.of a0f,hPA,hD,zD,hdv,hm,by simp;omega,fun l us pl Px Py H1 s1 hl0 hl hU hx hy hps hz=>?_⟩
 obtain⟨pl1,sp,rfl,rfl,rfl⟩:=spot_of hps
 have k':∀ (b:Bool) H',Same H H'→(b=true↔In2 pl1 sp)→Q (.bl b) H':=fun b H' s e=>k b H' s (e.trans (in2_r hx hy).symm)
 have hul:=hU.len
 rw[b5u,List.length_singleton] at hul
 rw[b5j] at h39 hpl
 obtain⟨vp,esp,hsp⟩:=hU.at (i:=pl1.length) (p:=sp) (by simp)
 obtain⟨us1,rfl⟩ : ∃ us1,us=us1++[.ref vp]:=by
   rcases List.eq_nil_or_concat us with rfl | ⟨ys,y,rfl⟩
   · simp at hul
   · rw[List.concat_eq_append] at *
     have:ys.length=pl1.length:=by simpa using hul
     rw[← this] at esp
     simp at esp
     exact⟨ys,by rw[esp]⟩
 have hul1:us1.length=pl1.length:=by simpa using hul
 have hU1:PlsV H1 us1 pl1:=by
   have:=hU.dropLast
   simpa using this
 have zs:SzPl (m+9000) sp:=hz sp (by simp)
 have zp:∀ q∈pl1,SzPl (m+9000) q:=fun q hq=>hz q (by simp[hq])
 walk_at "rd"
 refine⟨.inl ⟨rfl,_,SqL.of hl⟩,?_⟩
 walk_at "rd"
 refine⟨l,_,.ref vp,rfl,rfl,hl,by simp,?_⟩
 rw[List.dropLast_concat]
 have sB:Same H (upd H1 l (.lst us1)):=fun b o e=>by
   have:b≠l:=fun z=>by
     rw[z] at e
     have:=sA _ _ e
     rw[hl0] at this;cases this
   rw[a0n this];exact s1 _ _ (sA _ _ e)
 have hU2:PlsV (upd H1 l (.lst us1)) us1 pl1:=hU1.tup (Tup.lst hl)
 have hsp2:(upd H1 l (.lst us1)) vp=some (.tup [.int sp.1,.int sp.2]):=Tup.lst hl _ _ hsp
 have hl2':(upd H1 l (.lst us1)) l=some (.lst us1):=a0f
 generalize upd H1 l (.lst us1)=H2 at *
 walk_at "rd"
 refine ifB (fun h=>?_) (fun h=>?_)
 · have hn1:pl1.length=1:=by have:=V.int.inj (of_decide_eq_true h);omega
   obtain⟨va,ea,hva⟩:=hU2.at (a1w (l:=pl1) (i:=0) (by omega))
   walk_at "rd"
   refine⟨l,_,_,_,rfl,rfl,SqL.of hl2',a4e (j:=0) rfl ea,?_⟩
   walk_at "rd"
   refine⟨a5v sp,a5v (g0 pl1 0),dnPl hsp2,dnPl hva,a5f _ 7,a5f _ 7,fun b hb=>?_⟩
   exact k' b _ sB (hb.trans (a8u.trans (b4d hn1).symm))
 walk_at "rd"
 refine ifB (fun h2=>?_) (fun h2=>?_)
 · have hn2:pl1.length=2:=by have:=V.int.inj (of_decide_eq_true h2);omega
   obtain⟨va,ea,hva⟩:=hU2.at (a1w (l:=pl1) (i:=0) (by omega))
   obtain⟨vb,eb,hvb⟩:=hU2.at (a1w (l:=pl1) (i:=1) (by omega))
   obtain rfl:us1=[.ref va,.ref vb]:=by
     rcases us1 with _ | ⟨x,_ | ⟨y,_ | ⟨z,r⟩⟩⟩
     · simp at ea
     · simp at eb
     · simp at ea eb;rw[ea,eb]
     · simp at hul1;omega
   walk_at "rd"
   refine⟨_,_,_,g0 pl1 0,g0 pl1 1,sp,m+9000,rfl,⟨va,rfl,hva⟩,⟨vb,rfl,hvb⟩,⟨vp,rfl,hsp2⟩,by omega,zp _ (a2o (by omega)),zp _ (a2o (by omega)),zs,?_⟩
   walk_at "rd"
   refine ifB (fun t0=>?_) (fun t0=>?_)
   · have t0:=V.int.inj (of_decide_eq_true t0)
     have key:∀ b:Bool,(b=true↔(lxE (mnP (g0 pl1 0) (g0 pl1 1)) sp∧lxE sp (mxP (g0 pl1 0) (g0 pl1 1))))→Q (.bl b) H2:=fun b e=>k' b _ sB (e.trans ((lex_bt t0).trans ⟨fun h=>(a3i hn2).mpr ⟨t0,h⟩,fun h=>((a3i hn2).mp h).2⟩))
     obtain⟨v0,e0,h0⟩ : ∃ v0,(if lxP (g0 pl1 1) (g0 pl1 0) then V.ref vb else V.ref va)=.ref v0∧H2 v0=some (.tup [.int (mnP (g0 pl1 0) (g0 pl1 1)).1,.int (mnP (g0 pl1 0) (g0 pl1 1)).2]):=by
       unfold mnP
       split
       · exact⟨vb,rfl,hvb⟩
       · exact⟨va,rfl,hva⟩
     obtain⟨vm,em,hvm⟩ : ∃ vm,(if lxP (g0 pl1 0) (g0 pl1 1) then V.ref vb else V.ref va)=.ref vm∧H2 vm=some (.tup [.int (mxP (g0 pl1 0) (g0 pl1 1)).1,.int (mxP (g0 pl1 0) (g0 pl1 1)).2]):=by
       unfold mxP
       split
       · exact⟨vb,rfl,hvb⟩
       · exact⟨va,rfl,hva⟩
     walk_at "rd"
     refine⟨l,va,vb,g0 pl1 0,g0 pl1 1,rfl,SqL.of hl2',hva,hvb,?_⟩
     rw[e0]
     walk_at "rd"
     refine⟨v0,vp,[(mnP (g0 pl1 0) (g0 pl1 1)).1,(mnP (g0 pl1 0) (g0 pl1 1)).2],[sp.1,sp.2],rfl,rfl,SqT.of h0,SqT.of hsp2,?_⟩
     refine⟨_,rfl,ifB (fun c0=>?_) (fun c0=>?_)⟩
     · have c0:=a7f.mp c0
       walk_at "rd"
       refine⟨l,va,vb,g0 pl1 0,g0 pl1 1,rfl,SqL.of hl2',hva,hvb,?_⟩
       rw[em]
       walk_at "rd"
       refine⟨vp,vm,[sp.1,sp.2],[(mxP (g0 pl1 0) (g0 pl1 1)).1,(mxP (g0 pl1 0) (g0 pl1 1)).2],rfl,rfl,SqT.of hsp2,SqT.of hvm,?_⟩
       exact key _ (a7f.trans ⟨fun h=>⟨c0,h⟩,fun h=>h.2⟩)
     · exact key false ⟨fun h=>(by cases h),fun h=>by rw[a7f.mpr h.1] at c0;cases c0⟩
   · exact k' false _ sB ⟨fun h=>(by cases h),fun h=>absurd (congrArg V.int ((a3i hn2).mp h).1) (of_decide_eq_false t0)⟩
 have n1:pl1.length≠1:=fun z=>absurd (show V.int (us1.length:Int)=V.int 1 by rw[hul1,z];rfl) (of_decide_eq_false h)
 have n2:pl1.length≠2:=fun z=>absurd (show V.int (us1.length:Int)=V.int 2 by rw[hul1,z];rfl) (of_decide_eq_false h2)
 walk_at "rd"
 refine⟨l,_,rfl,SqL.of hl2',fun q1 hq1=>?_⟩
 rw[b4f us1]
 walk_at "rd"
 refine⟨l,_,rfl,SqL.of (by walk_at "hf"),fun q2 hq2=>?_⟩
 rw[a9v us1]
 walk_at "rd"
 refine⟨q1,q2,_,_,rfl,rfl,by walk_at "hf",a0f,?_,fun q3 hq3=>?_⟩
 · rw[b7z,b7y];exact b6u (a0s (by omega))
 have sC:Same H2 (upd (upd (upd H2 q1 (.lst (us1.drop 1))) q2 (.lst (us1.take 1))) q3 (.lst (us1.drop 1++us1.take 1))):=((Same.new hq1).trans (Same.new hq2)).trans (Same.new hq3)
 have hl3:=sC _ _ hl2'
 have htl:(us1.drop 1++us1.take 1).length=us1.length:=by rw[b5u,b7z,b7y];omega
 walk_at "rd"
 refine⟨l,q3,rfl,⟨_,SqL.of hl3⟩,⟨_,SqL.of a0f⟩,comp2 (b3g (SqL.of hl3) (SqL.of a0f)) (by omega) (fun i v _=>v=V.bl (decide (0≤tr (g0 pl1 i) (g0 pl1 ((i+1) % pl1.length)) sp))) (fun _ _ _ _ _ h=>h) (fun i H5 kk hi s5 hk=>?_) (fun E ys H5 hE s5 hE' hl5 hr=>?_)⟩
 · have hi1:i<pl1.length:=by omega
   have hi2:(i+1) % pl1.length<pl1.length:=b8b _ (by omega)
   obtain⟨va,ea,hva⟩:=hU2.at (a1w hi1)
   obtain⟨vb,eb,hvb⟩:=hU2.at (a1w hi2)
   have sD:=sC.trans s5
   rw[ea,turn_one (by omega),hul1,eb]
   walk_at "rd"
   refine⟨_,_,_,g0 pl1 i,g0 pl1 ((i+1) % pl1.length),sp,m+9000,rfl,⟨va,rfl,sD _ _ hva⟩,⟨vb,rfl,sD _ _ hvb⟩,⟨vp,rfl,sD _ _ hsp2⟩,by omega,zp _ (a2o hi1),zp _ (a2o hi2),zs,?_⟩
   walk_at "rd"
   exact hk _ _ (L2.Same.refl _) rfl
 · obtain⟨bs,rfl,hb1,hb2⟩:=b3u hr
   walk_at "rd"
   refine⟨E,bs,rfl,SqL.of hE',?_⟩
   refine k' _ _ (sB.trans (sC.trans s5)) (Iff.trans ?_ (b0x n1 n2).symm)
   rw[b5j] at hl5
   exact b5c (by omega) hb2
theorem b3q(F:a0w K mg "_law_told" a3t ["_law_corners_here","_law_bottom","_law_often","_law_x","_law_y"])(B:Blt mg)(D_l_share:a0u P w K mg base CX0 1 "_law_share" ["_law_top","_law_bottom"] a6y)(D_l_handed:a0u P w K mg base CX0 2 "_law_handed" ["_law_places","_law_bottom"] (b0k K))(D_l_within:a0u P w K mg base CX0 2 "_law_within" ["_law_corners_here","_law_place_here"] a7w)(D_in_hull:a0u P w K mg base CX0 6 "in_hull" ["corners","place"] (a7z K)):a0u P w K mg base CX0 7 "_law_told" ["_law_corners_here","_law_bottom","_law_often","_law_x","_law_y"] (b2p K):=by
 refine a1b F a3d (fun vs H Q E h=>?_) (fun f cdv A outer s H vs Q E hr h=>?_)
 · obtain⟨a,us,pl,Bo,n,x,y,rfl,_⟩:=h;rfl
 obtain⟨a,us,pl,Bo,n,x,y,rfl,ha,hP,hz,h38,B1,B2,n1,n9,zx,zy,k⟩:=h
 have hu:=hr.units
 refine⟨_,(a0c (a0l (i:=5) a3d.nd rfl (Or.inl rfl) (a0v D_l_handed hr a1j (a0a (pvI 0) (a0a (pvI 1) a0d)))) (a0c (a0l (i:=6) a3d.nd rfl (Or.inl rfl) (a6n (a6g K) rfl B.list PyProof.Rows.boot_list (a0a (pvI 5) a0d))) (a0c (a0l (i:=7) a3d.nd rfl (Or.inl rfl) (a0v D_in_hull hr a1j (a0a (pvI 5) (a0a (a1g (a0a (a0v D_l_share hr a1j (a0a (pvI 3) (a0a (a0e a0y (pvI 1) (pvI 2)) a0d))) (a0a (a0v D_l_share hr a1j (a0a (pvI 4) (a0a (a0e a0y (pvI 1) (pvI 2)) a0d))) a0d))) a0d)))) (a0c (a8i (i:=8) (os:=["_law_one","_law_other"]) (caps:=[(2,"_law_often")]) ["_law_corners_here","_law_bottom","_law_often","_law_x","_law_y","_law_handed_here","_law_kept","_law_told_here","_law_scaled"] (a0g a3t) a3d.nd rfl rfl (a1m K (pvI 0)) (fun _ _ _ _ _=>(a2m (n:=2) K rfl (a0q (a0j (i:=0) (show b7o (["_law_one","_law_other","_law_often"]:List Str) from by decide +kernel) rfl (Or.inl rfl)) (a0q (a0j (i:=1) (show b7o (["_law_one","_law_other","_law_often"]:List Str) from by decide +kernel) rfl (Or.inl rfl)) a1z)))) (fun _ _ _ _ _=>(a1g (a0a (a0e a0y (pvI 0) (pvI 2)) (a0a (a0e a0y (pvI 1) (pvI 2)) a0d)))) (by decide +kernel)) (a0h (a0o (a9p (a0r (b4v K) (by rfl) B.isinstance PyProof.Rows.boot_isinstance (a0a (pvI 7) (a0a (pe_bltnI (v:=.ty "bool") rfl B.bool PyProof.Rows.boot_bool rfl) a0d))) (a9p (a2n a4l (pvI 7) (a0v D_l_within hr a1j (a0a (pvI 8) (a0a (a1g (a0a (pvI 3) (a0a (pvI 4) a0d))) a0d))) (a1e _)) (b3j (a2n (a7c K hu) (pvI 5) (pvI 6) (a1e _))))))))))),?_⟩
 have hul:=hP.len
 walk_at "rd"
 refine⟨a,us,pl,Bo,rfl,SqL.of ha,hP,B1,(a2w (n:=40) (b:=1000000007) (by omega) (by decide)).mono (by decide),by omega,fun l ws H1 s1 hl0 hl hW=>?_⟩
 walk_at "rd"
 intro l2 hl2
 have sA:=s1.trans (Same.new (o:=.lst ws) hl2)
 have hl3:(upd H1 l2 (.lst ws)) l=some (.lst ws):=a1x hl2 hl
 have zB:Sz 40 Bo:=a2w (b:=1000000007) (by omega) (by decide)
 have zn:Sz 4 n:=a2w (b:=9) (by omega) (by decide)
 have zBn:Sz 44 (Bo*n):=zB.mul zn
 have pBn:0<Bo*n:=Int.mul_pos (by omega) (by omega)
 walk_at "rd"
 dsimp only[tNil]
 refine⟨x,Bo*n,rfl,pBn,zBn.mono (by decide),fun u3 H3 s3 w3=>?_⟩
 walk_at "rd"
 dsimp only[tNil]
 refine⟨y,Bo*n,rfl,pBn,zBn.mono (by decide),fun u4 H4 s4 w4=>?_⟩
 walk_at "rd"
 intro g hg
 have sB:Same H (upd H4 g (.tup [u3,u4])):=((sA.trans s3).trans s4).trans (Same.new hg)
 have sC:Same (upd H1 l2 (.lst ws)) (upd H4 g (.tup [u3,u4])):=(s3.trans s4).trans (Same.new hg)
 have hpt:PtV (upd H4 g (.tup [u3,u4])) (.ref g) (b5l x (Bo*n)) (b5l y (Bo*n)):=⟨g,u3,u4,rfl,a0f,w3.same (s4.trans (Same.new hg)),w4.same (Same.new hg)⟩
 have oX:OvP (Bo*n) 130 (b5l x (Bo*n),b5l y (Bo*n)):=⟨a3z (by omega) zx,a3z (by omega) zy⟩
 have oP:=ptsOf_ov (B:=Bo) (by omega) hz
 refine⟨l,.ref g,ws,a4i Bo pl,(b5l x (Bo*n),b5l y (Bo*n)),Bo*n,1000,rfl,sC _ _ hl3,(hW.same (Same.new hl2)).same sC,hpt,pBn,zBn.mono (by decide),fun q hq=>?_,by decide,?_,fun b H5 s5 hb=>?_⟩
 · rcases b6n.mp hq with hq | hq
   · have o:=oP q hq
     exact⟨⟨Int.dvd_mul_of_dvd_left (a7k o.1),(o.1.bd (by omega) zB).mono (by decide)⟩,Int.dvd_mul_of_dvd_left (a7k o.2),(o.2.bd (by omega) zB).mono (by decide)⟩
   · rw[b6d.mp hq]
     exact⟨⟨a7k oX.1,(oX.1.bd (by omega) zBn).mono (by decide)⟩,a7k oX.2,(oX.2.bd (by omega) zBn).mono (by decide)⟩
 · rw[b3a];omega
 have hb:=hb.trans (sc_in (by omega) (by omega))
 have sD:=sB.trans s5
 have ha5:=sD _ _ ha
 have hP5:=hP.same sD
 walk_at "rd"
 refine⟨⟨_,SqL.of ha5⟩,comp2 (a8k (SqL.of ha5) hP5) (by omega) (fun i v H=>RwV H v (((pl[i]?).getD (0,0)).1*n) (((pl[i]?).getD (0,0)).2*n)) (fun _ _ _ _ t h=>h.tup t) (fun i H6 kk hi s6 hk=>?_) (fun E ys H6 hE s6 hE6 hl6 hr6=>?_)⟩
 · have hq:=b5i hi
   have zq:=hz _ (b6z hi)
   rw[hq]
   walk_at "rd"
   intro g2 hg2
   exact hk _ _ (Same.new hg2) ⟨g2,rfl,by rw[hq];exact a0f⟩
 have hQ6:PlsV H6 ys (scP n pl):=⟨by rw[hl6];unfold scP;rw[b5j],fun i v p e1 e2=>by
   unfold scP at e2
   rw[b5s] at e2
   have:=hr6 i v e1
   cases e3:pl[i]? with
   | none=>rw[e3] at e2;cases e2
   | some q=>rw[e3] at e2 this;cases e2;exact this⟩
 walk_at "rd"
 intro g6 hg6
 dsimp only[tNil]
 refine⟨E,.ref g6,ys,scP n pl,(x,y),200,rfl,a1x hg6 hE6,hQ6.same (Same.new hg6),⟨g6,rfl,a0f⟩,fun p hp=>?_,⟨zx.mono (by decide),zy.mono (by decide)⟩,by decide,by unfold scP;rw[b5j];omega,fun b2 H7 s7 hb2=>?_⟩
 · unfold scP at hp
   obtain⟨q,hq,rfl⟩:=b8c.mp hp
   exact⟨((hz q hq).1.mul zn).mono (by decide),((hz q hq).2.mul zn).mono (by decide)⟩
 obtain rfl:=bools_eq hb hb2
 have sF:=(s6.trans (Same.new (o:=.tup [.int x,.int y]) hg6)).trans s7
 have sG:=(sC.trans s5).trans sF
 walk_at "rd"
 refine ifT (decide_eq_true rfl) ?_
 have hW7:=(hW.same (Same.new hl2)).same sG
 walk_at "rd"
 refine⟨a5u (a4i Bo pl),a5u (a4i Bo pl),dnP (sG _ _ hl3) hW7,dnP (sG _ _ a0f) hW7,a8t _ 5,a8t _ 5,fun b1 hb1=>?_⟩
 obtain rfl:=hb1.mpr rfl
 exact k _ (sD.trans sF)
theorem ok_law(F:a0w K mg "law" a7a ["_law_script"])(B:Blt mg)(D_l_cell_at:a0u P w K mg base CX0 1 "_law_cell_at" ["_law_script","_law_k"] (b2q K))(D_l_corners:a0u P w K mg base CX0 3 "_law_corners" ["_law_places"] (a6i K))(D_l_mean:a0u P w K mg base CX0 2 "_law_mean" ["_law_cell","_law_places"] (b0i K))(D_l_points:a0u P w K mg base CX0 3 "_law_points" ["_law_script","_law_most"] (a5h K))(D_l_told:a0u P w K mg base CX0 7 "_law_told" ["_law_corners_here","_law_bottom","_law_often","_law_x","_law_y"] (b2p K)):a0u P w K mg base CX0 8 "law" ["_law_script"] (spLaw K):=by
 refine a1b F a3n (fun vs H Q E h=>?_) (fun f cdv A outer s H vs Q E hr h=>?_)
 · obtain⟨a,ns,rfl,_⟩:=h;rfl
 obtain⟨a,ns,rfl,hS,hlen,k⟩:=h
 have hu:=hr.units
 refine⟨_,(a0c (a4j (a0v D_l_points hr a1j (a0a (pvI 0) (a0a a0b a0d))) (a2m (n:=2) K rfl (a0q (a0j (i:=1) a3n.nd rfl (Or.inl rfl)) (a0q (a0j (i:=2) a3n.nd rfl (Or.inl rfl)) a1z)))) (a0c (a0l (i:=3) a3n.nd rfl (Or.inl rfl) (a0v D_l_corners hr a1j (a0a (pvI 2) a0d))) (a0c (a3g PassesOwn.never rfl (a1m K (pvI 2)) (a2m (n:=2) K rfl (a0q (a0j (i:=4) a3n.nd rfl (Or.inl rfl)) (a0q (a0j (i:=5) a3n.nd rfl (Or.inl rfl)) a1z))) (a0h (a1v (a9l (b3b (a0v D_l_told hr a1j (a0a (pvI 3) (a0a (pvI 1) (a0a a0b (a0a (pvI 4) (a0a (pvI 5) a0d)))))))) (a0h (a0o b0r)) a1c))) (a0c (a3g PassesOwn.never rfl (a2c rfl B.range (a0a a0b a0d)) (a0j (i:=6) a3n.nd rfl (Or.inl rfl)) (a0c (a4j (a0v D_l_mean hr a1j (a0a (a0e a2i (a0v D_l_cell_at hr a1j (a0a (pvI 0) (a0a (a0e a2i a0b (pvI 6)) a0d))) (a0e a0y a0b (pvI 6))) (a0a (pvI 2) a0d))) (a2m (n:=3) K rfl (a0q (a0j (i:=7) a3n.nd rfl (Or.inl rfl)) (a0q (a0j (i:=4) a3n.nd rfl (Or.inl rfl)) (a0q (a0j (i:=5) a3n.nd rfl (Or.inl rfl)) a1z))))) (a0h (a1v (a9l (b3b (a0v D_l_told hr a1j (a0a (pvI 3) (a0a (pvI 1) (a0a (pvI 7) (a0a (pvI 4) (a0a (pvI 5) a0d)))))))) (a0h (a0o b0r)) a1c)))) (a0h (a0o b0r)))))),?_⟩
 walk_at "rd"
 refine⟨a,ns,rfl,hS,fun c l ws pl Bo H1 s1 hc hl hP h1 h20 B1 B2 hz=>?_⟩
 have hul:=hP.len
 walk_at "rd"
 refine⟨c,_,rfl,SqT.of hc,rfl,_,_,rfl,_,_,rfl,rfl,?_⟩
 walk_at "rd"
 refine⟨l,ws,pl,rfl,SqL.of hl,hP,fun p hp=>⟨(hz p hp).1.mono (by decide),(hz p hp).2.mono (by decide)⟩,h20,fun l2 vs qs H2 s2 hl20 hl2 hV hq38 hqm=>?_⟩
 have hzq:∀ p∈qs,SzPl 110 p:=fun p hp=>hz p (hqm p hp)
 walk_at "rd"
 have hl3:=s2 _ _ hl
 have hP3:=hP.same s2
 have hS3:SqL K H2 a (ns.map V.int):=(s1.trans s2).seq hS
 refine⟨⟨ws,SqL.of hl3⟩,a5e (xs:=ws) (fun i σ H'=>∃ (x y:Option V),σ=[some (.ref a),some (.int Bo),some (.ref l),some (.ref l2),x,y,none,none]∧Same H2 H') ⟨none,none,rfl,L2.Same.refl _⟩ ?_ ?_ ?_⟩
 · rintro i σ H' _ ⟨x,y,rfl,s3⟩
   exact s3.seq (SqL.of hl3)
 · rintro i x σ H' hx ⟨x0,y0,rfl,s3⟩
   have hi:i<pl.length:=by rw[← hul];exact (b5t.mp hx).1
   obtain⟨vp,rfl,hvp⟩:=hP3.get i x _ hx (a1w hi)
   have zq:=hz _ (a2o hi)
   have hvp3:=s3 _ _ hvp
   refine⟨vp,_,rfl,SqT.of hvp3,rfl,_,_,rfl,_,_,rfl,rfl,?_⟩
   walk_at "rd"
   refine⟨l2,vs,qs,Bo,1,_,_,rfl,s3 _ _ hl2,hV.same s3,hzq,hq38,B1,B2,by decide,by decide,zq.1.mono (by decide),zq.2.mono (by decide),fun H4 s4=>?_⟩
   walk_at "rd"
   exact⟨_,_,rfl,s3.trans s4⟩
 · rintro σ H' ⟨x,y,rfl,s3⟩
   walk_at "rd"
   refine a4d (fun i σ H'=>∃ (x y p q:Option V),σ=[some (.ref a),some (.int Bo),some (.ref l),some (.ref l2),x,y,p,q]∧Same H2 H') ⟨x,y,none,none,rfl,s3⟩ ?_ ?_
   · rintro i σ H' hi ⟨x,y,p,q,rfl,s3⟩
     have hi12:i<12:=hi
     have hS4:SqL K H' a (ns.map V.int):=s3.seq hS3
     walk_at "rd"
     refine⟨a,ns,_,rfl,hS4,by omega,fun z=>?_⟩
     walk_at "rd"
     refine⟨_,l,ws,pl,rfl,s3 _ _ hl3,hP3.same s3,hz,h1,h20,fun g n x' y' H4 s4 hg n1 n9 zx zy=>?_⟩
     refine⟨g,_,rfl,SqT.of hg,rfl,_,_,rfl,_,_,rfl,_,_,rfl,rfl,?_⟩
     have s5:=s3.trans s4
     walk_at "rd"
     refine⟨l2,vs,qs,Bo,n,_,_,rfl,s5 _ _ hl2,hV.same s5,hzq,hq38,B1,B2,n1,n9,zx,zy,fun H6 s6=>?_⟩
     walk_at "rd"
     exact⟨_,_,_,_,rfl,s5.trans s6⟩
   · rintro σ H' ⟨x,y,p,q,rfl,s3⟩
     walk_at "rd"
     exact k _
end
theorem all_mk{w:World}{K:b5h}{h:Heap}{mg:Str→Option Value}{fa:Addr}(KX:K.In h)(GN:h.Ns mainGlobals mg)(hfa:mg "law" = some (.ref fa)){f21:Addr}{od21 an21:Option Addr}{sl21:Array (Option Value)}{oc21 kV21 dc21 pm21 cd21 ct21:Value}(h0:FH K "_law_cell_at" a3a)(h1:FH K "_law_cross" a3x)(h2:FH K "_law_chain" a3y)(h3:FH K "_law_corners" a2z)(h4:FH K "_law_stream" a3k)(h5:FH K "_law_mean" a3w)(h6:FH K "_law_place" a3v)(h7:FH K "_law_way" a7b)(h8:FH K "_law_points" a2r)(h9:FH K "_law_share" a3u)(h10:FH K "_law_handed" a2s)(h11:FH K "_law_within" a2q)(h12:FH K "turn" b0o)(h13:FH K "greatest_common" a1k)(h14:FH K "common_bottoms" a1n)(h15:FH K "product" a3s)(h16:FH K "axis" a8f)(h17:FH K "axes" a6k)(h18:FH K "whole_places" a1u)(h19:FH K "in_hull" a3e)(h20:FH K "_law_told" a3t)(a21:b6b K mainGlobals "law" = some (some (.ref f21)))(l21:K.lookup f21=some ⟨oc21,od21,.func (b6m "law" "law" (a2j a7a) (a1p a7a) (a0g a7a) .none kV21 dc21 pm21 an21 cd21 ct21),sl21⟩)(c21:b7w K cd21 "law" = true)(k21:b7s K (.ref f21)=true)(z_len:b6b K mainGlobals "len" = some none)(z_abs:b6b K mainGlobals "abs" = some none)(z_range:b6b K mainGlobals "range" = some none)(z_max:b6b K mainGlobals "max" = some none)(z_min:b6b K mainGlobals "min" = some none)(z_any:b6b K mainGlobals "any" = some none)(z_all:b6b K mainGlobals "all" = some none)(z_sum:b6b K mainGlobals "sum" = some none)(z_isinstance:b6b K mainGlobals "isinstance" = some none)(z_int:b6b K mainGlobals "int" = some none)(z_bool:b6b K mainGlobals "bool" = some none)(z_tuple:b6b K mainGlobals "tuple" = some none)(z_list:b6b K mainGlobals "list" = some none)(z_str:b6b K mainGlobals "str" = some none)(z_ValueError:b6b K mainGlobals "ValueError" = some none)(z_zip:b6b K mainGlobals "zip" = some none)(z_reversed:b6b K mainGlobals "reversed" = some none)(z_enumerate:b6b K mainGlobals "enumerate" = some none)(z_sorted:b6b K mainGlobals "sorted" = some none)(z_dict:b6b K mainGlobals "dict" = some none)(a_set:b6b K mainGlobals "set" = some none)
   : ∃ fd:FuncData,(∀ (s:Shared) (v:Value),BindsTo s fd ⟨[v],[]⟩ [("_law_script",v)])∧∀ (P:Program) (base:Heap),K.In base→base.Ns mainGlobals mg→FnOk P w K mg base CX0 8 fa fd ["_law_script"] ((spLaw K)):=by
 have e:=hfa.symm.trans (PySem.W.mg_of KX GN a21)
 cases e
 have B:Blt mg:=⟨b5o KX GN z_len,b5o KX GN z_abs,b5o KX GN z_range,b5o KX GN z_max,b5o KX GN z_min,b5o KX GN z_any,b5o KX GN z_all,b5o KX GN z_sum,b5o KX GN z_isinstance,b5o KX GN z_int,b5o KX GN z_bool,b5o KX GN z_tuple,b5o KX GN z_list,b5o KX GN z_str,b5o KX GN z_ValueError,b5o KX GN z_zip,b5o KX GN z_reversed,b5o KX GN z_enumerate,b5o KX GN z_sorted,b5o KX GN z_dict⟩
 have G:Cst K mg:=⟨b5o KX GN a_set⟩
 have F0:a0w K mg "_law_cell_at" a3a ["_law_script","_law_k"]:=h0.fn KX GN fun _ _ _ _ _ _ us hl=>uln2 (fun _ _=>rfl) us hl
 have F1:a0w K mg "_law_cross" a3x ["_law_one","_law_other","_law_third"]:=h1.fn KX GN fun _ _ _ _ _ _ us hl=>uln3 (fun _ _ _=>rfl) us hl
 have F2:a0w K mg "_law_chain" a3y ["_law_some"]:=h2.fn KX GN fun _ _ _ _ _ _ us hl=>uln1 (fun _=>rfl) us hl
 have F3:a0w K mg "_law_corners" a2z ["_law_places"]:=h3.fn KX GN fun _ _ _ _ _ _ us hl=>uln1 (fun _=>rfl) us hl
 have F4:a0w K mg "_law_stream" a3k ["_law_cell","_law_many"]:=h4.fn KX GN fun _ _ _ _ _ _ us hl=>uln2 (fun _ _=>rfl) us hl
 have F5:a0w K mg "_law_mean" a3w ["_law_cell","_law_places"]:=h5.fn KX GN fun _ _ _ _ _ _ us hl=>uln2 (fun _ _=>rfl) us hl
 have F6:a0w K mg "_law_place" a3v ["_law_cell","_law_way_here"]:=h6.fn KX GN fun _ _ _ _ _ _ us hl=>uln2 (fun _ _=>rfl) us hl
 have F7:a0w K mg "_law_way" a7b ["_law_cell"]:=h7.fn KX GN fun _ _ _ _ _ _ us hl=>uln1 (fun _=>rfl) us hl
 have F8:a0w K mg "_law_points" a2r ["_law_script","_law_most"]:=h8.fn KX GN fun _ _ _ _ _ _ us hl=>uln2 (fun _ _=>rfl) us hl
 have F9:a0w K mg "_law_share" a3u ["_law_top","_law_bottom"]:=h9.fn KX GN fun _ _ _ _ _ _ us hl=>uln2 (fun _ _=>rfl) us hl
 have F10:a0w K mg "_law_handed" a2s ["_law_places","_law_bottom"]:=h10.fn KX GN fun _ _ _ _ _ _ us hl=>uln2 (fun _ _=>rfl) us hl
 have F11:a0w K mg "_law_within" a2q ["_law_corners_here","_law_place_here"]:=h11.fn KX GN fun _ _ _ _ _ _ us hl=>uln2 (fun _ _=>rfl) us hl
 have F12:a0w K mg "turn" b0o ["one","other","third"]:=h12.fn KX GN fun _ _ _ _ _ _ us hl=>uln3 (fun _ _ _=>rfl) us hl
 have F13:a0w K mg "greatest_common" a1k ["one","other"]:=h13.fn KX GN fun _ _ _ _ _ _ us hl=>uln2 (fun _ _=>rfl) us hl
 have F14:a0w K mg "common_bottoms" a1n ["shares"]:=h14.fn KX GN fun _ _ _ _ _ _ us hl=>uln1 (fun _=>rfl) us hl
 have F15:a0w K mg "product" a3s ["numbers"]:=h15.fn KX GN fun _ _ _ _ _ _ us hl=>uln1 (fun _=>rfl) us hl
 have F16:a0w K mg "axis" a8f ["shares"]:=h16.fn KX GN fun _ _ _ _ _ _ us hl=>uln1 (fun _=>rfl) us hl
 have F17:a0w K mg "axes" a6k ["points"]:=h17.fn KX GN fun _ _ _ _ _ _ us hl=>uln1 (fun _=>rfl) us hl
 have F18:a0w K mg "whole_places" a1u ["points"]:=h18.fn KX GN fun _ _ _ _ _ _ us hl=>uln1 (fun _=>rfl) us hl
 have F19:a0w K mg "in_hull" a3e ["corners","place"]:=h19.fn KX GN fun _ _ _ _ _ _ us hl=>uln2 (fun _ _=>rfl) us hl
 have F20:a0w K mg "_law_told" a3t ["_law_corners_here","_law_bottom","_law_often","_law_x","_law_y"]:=h20.fn KX GN fun _ _ _ _ _ _ us hl=>match us,hl with | [_,_,_,_,_],_=>rfl
 have F21:a0w K mg "law" a7a ["_law_script"]:=a0w.mk' (PySem.W.mg_of KX GN a21) l21 c21 k21 fun _ _ _ _ _ _ us hl=>uln1 (fun _=>rfl) us hl
 refine⟨b6m "law" "law" (a2j a7a) (a1p a7a) (a0g a7a) .none kV21 dc21 pm21 an21 cd21 ct21,fun s v=>.of_eq rfl,fun P base _ _=>?_⟩
 have D0:=a8n (P:=P) (w:=w) (base:=base) F0 B
 have D1:=b1l (P:=P) (w:=w) (base:=base) F1
 have D2:=b1m (P:=P) (w:=w) (base:=base) F2 B D1
 have D3:=a8m (P:=P) (w:=w) (base:=base) F3 B G D2
 have D4:=a9r (P:=P) (w:=w) (base:=base) F4 B
 have D5:=b3r (P:=P) (w:=w) (base:=base) F5 B D4
 have D6:=b1k (P:=P) (w:=w) (base:=base) F6 D4
 have D7:=ok_l_way (P:=P) (w:=w) (base:=base) F7 D4
 have D8:=a9s (P:=P) (w:=w) (base:=base) F8 D0 D4 D6 D7
 have D9:=b1j (P:=P) (w:=w) (base:=base) F9 B
 have D10:=a9t (P:=P) (w:=w) (base:=base) F10 D9
 have D11:=a9q (P:=P) (w:=w) (base:=base) F11 B D1
 have D12:=ok_turn (P:=P) (w:=w) (base:=base) F12
 have D13:=a4a (P:=P) (w:=w) (base:=base) F13 B
 have D14:=a4m (P:=P) (w:=w) (base:=base) F14 D13
 have D15:=b1i (P:=P) (w:=w) (base:=base) F15
 have D16:=ok_axis (P:=P) (w:=w) (base:=base) F16 D14 D15
 have D17:=ok_axes (P:=P) (w:=w) (base:=base) F17 D16
 have D18:=a5o (P:=P) (w:=w) (base:=base) F18 B D17
 have D19:=b1n (P:=P) (w:=w) (base:=base) F19 B D12 D18
 have D20:=b3q (P:=P) (w:=w) (base:=base) F20 B D9 D10 D11 D19
 have D21:=ok_law (P:=P) (w:=w) (base:=base) F21 B D0 D3 D5 D8 D20
 exact D21.law l21 (PySem.W.mg_of KX GN a21)
end Cv
open PySem PySem.W PyProof.Rows
set_option maxHeartbeats 0 in
theorem PySem.Challenge.cw_curveseat_k43_in_a_hull_holds : PySem.Challenge.rw_curveseat_k43_in_a_hull.Holds := by
 w_on;o_law;k_head;(case hw=>w_witness2)
 k_fill
 refine Cv.walk (l:=PySem.Challenge.rw_curveseat_k43_in_a_hull) (k:=8) (x := "_law_script") (CX:=L2.CX0) (sp:=fun K=>(Cv.spLaw K)) rfl rfl ⟨rfl,by decide,by decide⟩ (fun w h Y=>PySem.W.kIn_of Y) ?F (fun K H a ns h1 h2 h3=>⟨a,ns,rfl,h3,h1,fun _=>rfl⟩) (fun _ _ _ _ z=>z)
 case F=>
   intro w mg fa h KX G hmg
   refine' Cv.all_mk KX G hmg ?h0 ?h1 ?h2 ?h3 ?h4 ?h5 ?h6 ?h7 ?h8 ?h9 ?h10 ?h11 ?h12 ?h13 ?h14 ?h15 ?h16 ?h17 ?h18 ?h19 ?h20 ?a21 ?l21 ?c21 ?k21 ?z_len ?z_abs ?z_range ?z_max ?z_min ?z_any ?z_all ?z_sum ?z_isinstance ?z_int ?z_bool ?z_tuple ?z_list ?z_str ?z_ValueError ?z_zip ?z_reversed ?z_enumerate ?z_sorted ?z_dict ?a_set
   case h0 | h1 | h2 | h3 | h4 | h5 | h6 | h7 | h8 | h9 | h10 | h11 | h12 | h13 | h14 | h15 | h16 | h17 | h18 | h19 | h20=>exact Cv.FH.mk (by k_is) (by k_is) (by k_is) (by k_is)
   case a21 | l21 | c21 | k21 | z_len | z_abs | z_range | z_max | z_min | z_any | z_all | z_sum | z_isinstance | z_int | z_bool | z_tuple | z_list | z_str | z_ValueError | z_zip | z_reversed | z_enumerate | z_sorted | z_dict | a_set=>k_is
#print axioms PySem.Challenge.cw_curveseat_k43_in_a_hull_holds
