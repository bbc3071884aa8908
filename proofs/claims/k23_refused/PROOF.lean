import PyProof.Rows.All
import Wide.All
import OpenK.AllK
import Wide.FinOn
import Lean
import PyProof.EqAt
import PyProof.EqKinds
import PyProof.TupleCall
import PySem.Challenge.RW_formturn_k23_refused
namespace PySem.W.Fast
def tw11494736619413671135:=()
def tw10430549770073301052:=()
def tw10291864078020049347:=()
def tw1696314937759687493:=()
def tw13825392885927575338:=()
def tw4771164925011377350:=()
def tw7679247328597295184:=()
def tw15825442662985354436:=()
def tw6232701263983880165:=()
def tw6040942985473956570:=()
def tw6690778950262849004:=()
def tw17736017224832659734:=()
def tw10576494789057014052:=()
def tw12872920250623752459:=()
def tw2129308191639354153:=()
def tw4706618179346178916:=()
def tw4486607365375507782:=()
def tw12075773826461786694:=()
def tw14694947531840824141:=()
def tw1959224479364769476:=()
def tw15823685930620716029:=()
def tw6551343402010114525:=()
def tw17917045744960231941:=()
def tw4728694602748549242:=()
def tw17054805030754417674:=()
def tw6054016592903271821:=()
def tw6554410907095440504:=()
def tw6620358685920802408:=()
def tw6919303329078601455:=()
def tw1319949566473478388:=()
def tw16345962752458296836:=()
def tw7659192801514732879:=()
def tw17218665870027768965:=()
def tw13838921668711563420:=()
def tw15551559725792867177:=()
def tw8410525694388429038:=()
def tw1307804631244428648:=()
def tw14246041190243355870:=()
def tw14604345259788973251:=()
def tw11434516534709786507:=()
def tw10424253495174174537:=()
def tw13609387021603169443:=()
def tw538299814912069620:=()
def tw10473595133844187981:=()
def tw12963365868088708044:=()
def tw17892956586739048748:=()
def tw1770883285447315842:=()
def tw8005175759052838191:=()
def tw15138710041342788755:=()
def tw15717800470986033651:=()
def tw6132522521789076449:=()
def tw9814861141293050394:=()
def tw2500039813200853706:=()
def tw11386478189677308943:=()
def tw6148807525558521675:=()
def tw11021791150818059192:=()
def tw7947290597827556985:=()
def tw4278801740332918324:=()
def tw11587587081087879518:=()
def tw9896225541007867647:=()
def tw1861374863106118155:=()
def tw6825863235670689071:=()
def tw9093934341829075986:=()
def tw14261559286473458098:=()
def tw4200595611465865759:=()
def tw9426233160984525552:=()
def tw1988758835293305778:=()
def tw2489932559441729065:=()
def tw14727557620548434715:=()
def tw16784716633400325242:=()
def tw13736548632672898611:=()
def tw10356151076407161414:=()
def tw16834229908618009310:=()
def tw4519366553332119940:=()
def tw9321338729036605293:=()
def tw2630352696219037064:=()
def tw933818762982001843:=()
def tw7621349880957114420:=()
def tw13380180242064328033:=()
def tw18163488686406089836:=()
def tw17728185158729239433:=()
def tw3749469320275121628:=()
def tw18380178594388105794:=()
def tw11220628400312526365:=()
def tw7983806021521109584:=()
def tw10169065852732669872:=()
def tw11402075710309842907:=()
def tw14672878164855336102:=()
def tw2558425797489102899:=()
def tw4693770536072680079:=()
def tw18427404378808708125:=()
def tw15892236372118778677:=()
def tw17617625459558222365:=()
def tw12349355365126448916:=()
def tw2824691821414157280:=()
def tw8398524380756324942:=()
def tw3803013549435722802:=()
def tw6625357247593791847:=()
def tw460898407026889976:=()
def tw14817335345919930500:=()
def tw15819581914852721903:=()
def tw16549325421075705599:=()
def tw12592855594297699643:=()
def tw15525349685086036596:=()
def tw1413839318260418020:=()
def tw3075262607047116530:=()
def tw16719791569958014979:=()
def tw3832492290875326282:=()
def tw10488908555249589819:=()
def tw2607916373515775776:=()
def tw6982428356787766466:=()
def tw1246076453926443457:=()
def tw2353421641045250239:=()
def tw13724694219934630877:=()
def tw17227263981370753762:=()
def tw1607310683301754495:=()
def tw7944909201874395491:=()
def tw15141981870624120012:=()
def tw17025387769544156803:=()
def tw16802712079637461894:=()
def tw11275464325241825673:=()
def tw10755814512365345437:=()
def tw9284851088272070939:=()
def tw13449257168490643612:=()
def tw5585303316938892932:=()
def tw15735872424838634719:=()
def tw390707168373463936:=()
def tw17571782014335961574:=()
def tw14370776970302860960:=()
def tw14513321098034764025:=()
def tw138604935202877219:=()
def tw4133591079456527997:=()
def tw4248431868741168275:=()
def tw16107069089975994457:=()
def tw17286590387863398953:=()
def tw11595346416355732625:=()
def tw4115277145104930011:=()
def tw15861518944639504898:=()
def tw3559089425932431475:=()
def tw2148761431883770274:=()
def tw2921718660216040256:=()
def tw2797699014810530386:=()
def tw17370919543786049793:=()
def tw11964700744574648257:=()
def tw11681700362990368863:=()
def tw12990395075106124305:=()
def tw3990651369270693825:=()
def tw3018919910415155950:=()
def tw17778992654456133967:=()
def tw8500473300468078981:=()
def tw14100044894204218702:=()
def tw16734130665969937773:=()
def tw9414934314380356702:=()
def tw599032752082424492:=()
def tw11922486959304924416:=()
def tw6567131906893950404:=()
def tw12550803686988811219:=()
def tw7535405805879009935:=()
def tw9842392486914956969:=()
def tw9065184969097405494:=()
def tw2576836459394877281:=()
def tw5793982560505269027:=()
def tw14966600111023382046:=()
def tw11412568259936627585:=()
def tw5946333366350588951:=()
def tw13134516694475836381:=()
def tw11076046471924181136:=()
def tw14449431845862053641:=()
def tw16226003067886091202:=()
def tw8439232820433276583:=()
def tw9899675718965999360:=()
def tw8566167400497372035:=()
def tw7395319733241053316:=()
def tw5069205869542795423:=()
def tw18089377164031430202:=()
def tw15217929512572542318:=()
def tw2889502461319816666:=()
def tw3966001491522950473:=()
def tw10998331225576714244:=()
def tw17698167955393437044:=()
def tw14496734121333212513:=()
def tw11530637006977533205:=()
def tw8605931744727761610:=()
def tw2886602232364707846:=()
def tw4636639467040286233:=()
def tw10322396471488757975:=()
def tw11940420469442509664:=()
def tw16278736192436878939:=()
def tw8776491910053841866:=()
def tw16273090748695123933:=()
def tw563821693285300859:=()
def tw1958905150044875534:=()
def tw12371644109170731583:=()
def tw12618542767157794788:=()
def tw10554183141272970602:=()
def tw7350886562039435195:=()
def tw17449946675177164138:=()
def tw17711975262845054151:=()
def tw14755000173076432485:=()
def tw13231484031601401516:=()
def tw7126427880651103029:=()
def tw7342949618641470448:=()
def tw3400120689177554277:=()
def tw3005162791736693223:=()
def tw4323202853839565368:=()
def tw3924895518730886795:=()
def tw3387907541900269078:=()
def tw6284892480598166217:=()
def tw3670567452585253994:=()
def tw14238570561727105389:=()
def tw11871429661155794746:=()
def tw386592697246988514:=()
def tw2739445974022275172:=()
def tw5938498774026538420:=()
def tw13908277840280009279:=()
def tw2872918944874519900:=()
def tw9621642655762724446:=()
def tw2697293407355886086:=()
def tw15642844305989222031:=()
def tw12018400080503193016:=()
def tw3481921482333747906:=()
def tw2564506954049541694:=()
def tw13360720957294648720:=()
def tw602356457232752246:=()
def tw14463338662661240002:=()
def tw11353165448918002162:=()
def tw7841199623329718424:=()
def tw1016200597924122568:=()
def tw13516207958437749487:=()
def tw15937203637616097015:=()
def tw14683066554415811018:=()
def tw7687284610129006895:=()
def tw3631499378518012758:=()
def tw14612007603518176924:=()
def tw7762989303174802015:=()
def tw14032238861799786971:=()
def tw15040570957881491422:=()
def tw10286071261191579645:=()
def tw5919296078339417438:=()
def tw2303759161375101113:=()
def tw14745007736219098464:=()
def tw2635694665546639035:=()
def tw13606860419566264823:=()
def tw16676954327985913582:=()
def tw13317917846868399385:=()
def tw17620875934020535352:=()
def tw9095935995387593963:=()
def tw13458232512316988841:=()
def tw3508699970126556194:=()
def tw7370434091878566343:=()
def tw4849532871143977585:=()
def tw15693362542255782955:=()
def tw2383910941719757539:=()
def tw1026487669861683073:=()
def tw18322645531875641398:=()
def tw15258648141134707069:=()
def tw17732201935500257332:=()
def tw17528463806303144759:=()
def tw339533794758228956:=()
def tw12616560732472580431:=()
def tw4989135607538707162:=()
def tw12299001750318341820:=()
def tw17570261719336590098:=()
def tw2480054436441427894:=()
def tw4316872708706885805:=()
def tw8552406521853535614:=()
def tw242374061150981010:=()
def tw2430304562286076466:=()
def tw16066102919630739256:=()
def tw8089354945260069930:=()
def tw6350312905642486497:=()
def tw10846354707432055885:=()
def tw7558054833659049925:=()
end PySem.W.Fast
set_option Elab.async false
set_option linter.all false
set_option maxRecDepth 100000
namespace L2
open PySem PySem.Spec PyProof.Rows
abbrev Key:=Sum Int Str
def keyIs:Key→Value→Bool
 | .inl k,v=>Value.isInt k v
 | .inr x,v=>Value.isStrOf x v
def keyH(w:World): Key→Int
 | .inl k=>hashInt k
 | .inr x=>hashStr w x
theorem keyIs_shape:∀ {k:Key} {v:Value},keyIs k v=true→(∃i t,k=Sum.inl i∧v=Value.int i t)∨(∃x t,k=Sum.inr x∧v=Value.str x t)
 | .inl i,v,h=>by
  obtain⟨t,e⟩:=Value.isInt_shape (k:=i) (v:=v) h
  exact .inl ⟨i,t,rfl,e⟩
 | .inr x,v,h=>by
  obtain⟨t,e⟩:=Value.isStrOf_shape (x:=x) (v:=v) h
  exact .inr ⟨x,t,rfl,e⟩
theorem key_ll(a b:Int): decide ((Sum.inl a:Key)=Sum.inl b)=(a==b):=by
 by_cases e:a=b
 ·subst e;simp
 ·have h:¬(Sum.inl a:Key)=Sum.inl b:=λq=>e (Sum.inl.inj q)
  rw[decide_eq_false h]
  exact(beq_eq_false_iff_ne.mpr e).symm
theorem key_rr(a b:Str): decide ((Sum.inr a:Key)=Sum.inr b)=decide (a=b):=by
 by_cases e:a=b
 ·subst e;simp
 ·have h:¬(Sum.inr a:Key)=Sum.inr b:=λq=>e (Sum.inr.inj q)
  rw[decide_eq_false h,decide_eq_false e]
theorem key_lr(a:Int)(b:Str): decide ((Sum.inl a:Key)=Sum.inr b)=false:=decide_eq_false (λq=>nomatch q)
theorem key_rl(a:Str)(b:Int): decide ((Sum.inr a:Key)=Sum.inl b)=false:=decide_eq_false (λq=>nomatch q)
def mixKind(prog:Program)(w:World): PySem.KeyKind prog w Key where
 is:=keyIs
 hash:=keyH w
 inj:=λv a b ha hb=>by
  rcases keyIs_shape ha with⟨i,t,rfl,rfl⟩|⟨x,t,rfl,rfl⟩
  ·rcases keyIs_shape hb with⟨j,u,rfl,e⟩|⟨y,u,rfl,e⟩
   ·injection e with e1 _;rw[e1]
   ·exact nomatch e
  ·rcases keyIs_shape hb with⟨j,u,rfl,e⟩|⟨y,u,rfl,e⟩
   ·exact nomatch e
   ·injection e with e1 _;rw[e1]
 byValue:=λk v h=>by
  rcases keyIs_shape h with⟨i,t,rfl,rfl⟩|⟨x,t,rfl,rfl⟩<;>rfl
 pyHash:=λhv h=>by
  rcases keyIs_shape hv with⟨i,t,rfl,rfl⟩|⟨x,t,rfl,rfl⟩
  ·exact wpAny_pyHash_int h
  ·exact wpAny_pyHash_str h
 eqBool:=λhu hv h=>by
  rcases keyIs_shape hu with⟨i,t,rfl,rfl⟩|⟨x,t,rfl,rfl⟩
  ·rcases keyIs_shape hv with⟨j,u,rfl,rfl⟩|⟨y,u,rfl,rfl⟩
   ·rw[key_ll]at h;exact wpAny_eqBool_int h
   ·rw[key_lr]at h;exact SeqAt.EqAt.int_str i t y u _ _ _ _ h
  ·rcases keyIs_shape hv with⟨j,u,rfl,rfl⟩|⟨y,u,rfl,rfl⟩
   ·rw[key_rl]at h;exact SeqAt.EqAt.str_int x t j u _ _ _ _ h
   ·rw[key_rr]at h;exact wpAny_eqBool_str h
 «strs» := λk x t v h=>by
  rcases keyIs_shape h with⟨i,u,rfl,e⟩|⟨y,u,rfl,e⟩
  ·exact nomatch e
  ·injection e with e1 _
   subst e1
   cases v<;>rfl
end L2
namespace L2
open PySem PySem.Spec PyProof.Rows
inductive V where
 | non|bl (b:Bool)|int (i:Int)|str (x:Str)|byt (b:Array UInt8)|flt (b:UInt64)|ref (a:Addr)|ty (n:String)
 deriving DecidableEq
def RelV:V→Value→Prop
 | .non,u=>u=Value.none
 | .bl b,u=>u=Value.bool b
 | .int i,u=>∃t,u=Value.int i t
 | .str x,u=>∃t,u=Value.str x t
 | .byt b,u=>∃t,u=Value.bytes b t
 | .flt b,u=>∃t,u=Value.float b t
 | .ref a,u=>u=Value.ref a
 | .ty n,u=>u=Value.type n
abbrev Vals:List V→List Value→Prop:=Paired RelV
theorem Vals.length{xs:List V}{us:List Value}(r:Vals xs us): xs.length=us.length:=Paired.length r
theorem Vals.get:∀ {xs:List V} {us:List Value} {i:Nat} {x:V},Vals xs us→xs[i]?=some x→∃u,us[i]?=some u∧RelV x u
 | _,_,_,_,.nil,e=>by simp at e
 | _,_,0,_,.cons r _,e=>by simp at e;subst e;exact⟨_,rfl,r⟩
 | _,_,i+1,x,.cons _ t,e=>by
  obtain⟨u,h1,h2⟩:=Vals.get (i:=i) (x:=x) t (by simpa using e)
  exact⟨u,by simpa using h1,h2⟩
theorem Vals.append:∀ {xs ys:List V} {us ws:List Value},Vals xs us→Vals ys ws→Vals (xs++ys) (us++ws)
 | _,_,_,_,.nil,s=>s
 | _,_,_,_,.cons r t,s=>.cons r (Vals.append t s)
theorem Vals.take:∀ {xs:List V} {us:List Value} (n:Nat),Vals xs us→Vals (xs.take n) (us.take n)
 | _,_,0,_=>.nil
 | _,_,_+1,.nil=>.nil
 | _,_,n+1,.cons r t=>.cons r (Vals.take n t)
theorem Vals.drop:∀ {xs:List V} {us:List Value} (n:Nat),Vals xs us→Vals (xs.drop n) (us.drop n)
 | _,_,0,r=>r
 | _,_,_+1,.nil=>.nil
 | _,_,n+1,.cons _ t=>Vals.drop n t
def RelO:Option V→Option Value→Prop
 | some v,some u=>RelV v u
 | none,none=>True
 | _,_=>False
def KV{κ:Type}: List (κ×V)→List (κ×Value)→Prop:=Paired λ(p:κ×V) (q:κ×Value)=>p.1=q.1∧RelV p.2 q.2
def kV:Key→V
 | .inl i=>.int i
 | .inr x=>.str x
inductive HO where
 | lst (xs:List V)
 | tup (xs:List V)
 | dK (kvs:List (Key×V))|dT (kvs:List (List Key×V))
 | set (S:Int→Bool) (n:Nat)
 | ins (C dx:Addr) (fs:List (Str×V))
 | own (x:Addr)
 | xd (fs:List (Str×V))
 | met (f x:Addr)
 | rng (lo hi:Int)
 | frz (o:Obj) (u:HO)
 | tbl (ps:Array Value)
 | ext (φ:Heap→Prop)
abbrev Hp:=Addr→Option HO
def upd(H:Hp)(a:Addr)(o:HO): Hp:=λb=>if b=a then some o else H b
theorem upd_same{H:Hp}{a:Addr}{o:HO}: upd H a o a=some o:=by unfold upd;rw[if_pos rfl]
theorem upd_ne{H:Hp}{a b:Addr}{o:HO}(h:b≠a): upd H a o b=H b:=by unfold upd;rw[if_neg h]
theorem ne_of{H:Hp}{a b:Addr}{o u:HO}(h:H a=some o)(h':H b=some u)(d:o≠u): a≠b:=by
 intro e;subst e;rw[h]at h';exact d (Option.some.inj h')
theorem ne_of_none{H:Hp}{a b:Addr}{o:HO}(h:H a=some o)(h':H b=none): a≠b:=by
 intro e;subst e;rw[h]at h';cases h'
section
variable (P : Program) (w : World)
def ObjOk(H:Hp)(h:Heap)(a:Addr): HO→Prop
 | .lst xs=>xs.length≤sizeLine∧∃(its:List Value) (n:Nat),Vals xs its∧h.get? a=some { cls:=.type "list",data:=.seq its.toArray n }
 | .tup xs=>xs.length≤sizeLine∧∃its:List Value,Vals xs its∧IsTup h a its.toArray
 | .dK kvs=>kvs.length≤sizeLine∧(a==sysModules)=false∧∃vs,KV kvs vs∧h.DictOf (mixKind P w) a vs
 | .dT kvs=>kvs.length≤sizeLine∧(a==sysModules)=false∧∃xs:List (List Key×Addr×Value),
  Paired (λ(p:List Key×V) (q:List Key×Addr×Value)=>p.1=q.1∧H q.2.1=some (.tup (p.1.map kV))∧RelV p.2 q.2.2) kvs xs∧
  ∃o es ep,h.get? a=some o∧o.ExactDict∧o.data = .dict es ep∧es.toList=xs.map (entryOfKey (tupleKind (mixKind P w)))∧(xs.map (·.1)).Nodup
 | .set S n=>h.SetOf (intKind P w) a S n
 | .ins C dx fs=>H dx=some (.own a)∧fs.length≤1000∧dx≠a∧h.get? a=some (PySem.W.instObj C dx)∧
  ∃mA,h.Ns1 dx mA∧(∀f,RelO (fs.lookup f) (mA f))∧PySem.Within mA (fs.map (·.1))
 | .own _=>∃o,h.get? a=some o
 | .xd fs=>∃mA,h.Ns1 a mA∧∀f,RelO (fs.lookup f) (mA f)
 | .rng lo hi=>∃t u v,h.get? a=some { cls:=.type "range",data:=.fields #[.int lo t,.int hi u,.int 1 v] }
 | .frz o u=>h.get? a=some o∧ObjOk H h a u
 | .tbl ps=>h.get? a=some { cls:=.none,data:=.fields ps }
 | .met f x=>h.get? a=some (PySem.W.methodObj (.ref f) (.ref x))
 | .ext φ=>φ h∧(∃o,h.get? a=some o)∧∀h1 h2:Heap,φ h1→(∀o,h1.get? a=some o→h2.get? a=some o)→φ h2
def HOk(H:Hp)(h:Heap): Prop:=∀a o,H a=some o→ObjOk P w H h a o
end
section
variable {P : Program} {w : World} {H H' : Hp} {h h' : Heap} {a : Addr} {o : HO}
theorem ObjOk.lt(x:ObjOk P w H h a o): a<h.objs.size:=by
 cases o with
 | lst xs=>obtain⟨_,_,_,_,e⟩:=x;exact Heap.lt_size e
 | tup xs=>obtain⟨_,_,_,p⟩:=x;exact p.lt
 | dK kvs=>obtain⟨_,_,_,_,o,_,_,e,_⟩:=x;exact Heap.lt_size e
 | dT kvs=>obtain⟨_,_,_,_,o,_,_,e,_⟩:=x;exact Heap.lt_size e
 | set S n=>obtain⟨o,_,_,_,e,_⟩:=x;exact Heap.lt_size e
 | ins C dx fs=>obtain⟨_,_,_,e,_⟩:=x;exact Heap.lt_size e
 | own y=>obtain⟨_,e⟩:=x;exact Heap.lt_size e
 | xd fs=>obtain⟨_,⟨_,_,_,e,_⟩,_⟩:=x;exact Heap.lt_size e
 | rng lo hi=>obtain⟨_,_,_,e⟩:=x;exact Heap.lt_size e
 | frz ob u=>obtain⟨e,_⟩:=x;exact Heap.lt_size e
 | tbl ps=>exact Heap.lt_size (show h.get? a=some _ from x)
 | met f y=>exact Heap.lt_size (show h.get? a=some _ from x)
 | ext φ=>obtain⟨_,⟨_,e⟩,_⟩:=x;exact Heap.lt_size e
theorem Paired.mapP{α β:Type}{F G:α→β→Prop}: ∀ {l₁:List α} {l₂:List β},Paired F l₁ l₂→(∀a b,F a b→G a b)→Paired G l₁ l₂
 | _,_,.nil,_=>.nil
 | _,_,.cons r t,f=>.cons (f _ _ r) (Paired.mapP t f)
theorem ObjOk.stay(x:ObjOk P w H h a o)(k:∀b u,(b=a∨H b=some (.own a))→h.get? b=some u→h'.get? b=some u)
  (ho:∀b,H b=some (.own a)→H' b=some (.own a)) (ht:∀b xs,H b=some (.tup xs)→H' b=some (.tup xs)):ObjOk P w H' h' a o:=by
 induction o with
 | lst xs=>obtain⟨z,its,n,r,e⟩:=x;exact⟨z,its,n,r,k _ _ (.inl rfl) e⟩
 | tup xs=>obtain⟨z,its,r,ob,e,c⟩:=x;exact⟨z,its,r,ob,k _ _ (.inl rfl) e,c⟩
 | dK kvs=>obtain⟨z,y,vs,r,ob,es,ep,e,c⟩:=x;exact⟨z,y,vs,r,ob,es,ep,k _ _ (.inl rfl) e,c⟩
 | dT kvs=>
  obtain⟨z,y,xs,r,ob,es,ep,e,c⟩:=x
  exact⟨z,y,xs,Paired.mapP r λp q z=>⟨z.1,ht _ _ z.2.1,z.2.2⟩,ob,es,ep,k _ _ (.inl rfl) e,c⟩
 | set S n=>obtain⟨ob,es,ep,t,e,c⟩:=x;exact⟨ob,es,ep,t,k _ _ (.inl rfl) e,c⟩
 | ins C dx fs=>
  obtain⟨d,z,ne,e,mA,⟨od,es,ep,e2,c⟩,r⟩:=x
  exact⟨ho _ d,z,ne,k _ _ (.inl rfl) e,mA,⟨od,es,ep,k _ _ (.inr d) e2,c⟩,r⟩
 | own y=>obtain⟨ob,e⟩:=x;exact⟨ob,k _ _ (.inl rfl) e⟩
 | xd fs=>obtain⟨mA,⟨od,es,ep,e,c⟩,r⟩:=x;exact⟨mA,⟨od,es,ep,k _ _ (.inl rfl) e,c⟩,r⟩
 | rng lo hi=>obtain⟨t,u,v,e⟩:=x;exact⟨t,u,v,k _ _ (.inl rfl) e⟩
 | frz ob u ih=>obtain⟨e,q⟩:=x;exact⟨k _ _ (.inl rfl) e,ih q⟩
 | tbl ps=>
  have e:h.get? a=some { cls:=.none,data:=.fields ps }:=x
  show h'.get? a=some { cls:=.none,data:=.fields ps }
  exact k a _ (.inl rfl) e
 | met f y=>
  have e:h.get? a=some (PySem.W.methodObj (.ref f) (.ref y)):=x
  show h'.get? a=some (PySem.W.methodObj (.ref f) (.ref y))
  exact k a _ (.inl rfl) e
 | ext φ=>obtain⟨p,⟨o,e⟩,st⟩:=x;exact⟨st _ _ p λo q=>k _ _ (.inl rfl) q,⟨o,k _ _ (.inl rfl) e⟩,st⟩
theorem HOk.lt(x:HOk P w H h)(e:H a=some o): a<h.objs.size:=(x a o e).lt
theorem HOk.fresh(x:HOk P w H h)(e:h.objs.size≤a): H a=none:=by
 cases q:H a with
 | none=>rfl
 | some u=>exact absurd (Nat.lt_of_lt_of_le (x.lt q) e) (Nat.lt_irrefl _)
theorem HOk.kept(x:HOk P w H h)(k:∀b u,h.get? b=some u→h'.get? b=some u): HOk P w H h':=λa o e=>
 (x a o e).stay (λb u _ q=>k b u q) (λ_ q=>q) λ_ _ q=>q
theorem HOk.laid(x:HOk P w H h)(k:∀b u,h.get? b=some u→h'.get? b=some u)(hp:h.objs.size≤a)(new:ObjOk P w (upd H a o) h' a o): HOk P w (upd H a o) h':=λb u e=>by
 have hn:=x.fresh hp
 by_cases hb:b=a
 ·subst hb;rw[upd_same]at e;cases e;exact new
 ·rw[upd_ne hb]at e
  exact(x b u e).stay (λc v _ q=>k c v q) (λc q=>by rw[upd_ne (ne_of_none q hn)];exact q) λc xs q=>by rw[upd_ne (ne_of_none q hn)];exact q
end
def Rd(H:Hp)(a:Addr)(u:HO): Prop:=H a=some u∨∃o,H a=some (.frz o u)
theorem Rd.ok{P:Program}{w:World}{H:Hp}{h:Heap}{a:Addr}{u:HO}(r:Rd H a u)(x:HOk P w H h): ObjOk P w H h a u:=by
 rcases r with r|⟨o,r⟩
 ·exact x a u r
 ·obtain⟨_,q⟩:=x a _ r
  exact q
def Mut:Option HO→Prop
 | some (.lst _)=>True
 | some (.dK _)=>True
 | some (.dT _)=>True
 | some (.set _ _)=>True
 | some (.ins _ _ _)=>True
 | some (.ext _)=>True
 | _=>False
section
variable {P : Program} {w : World} {H : Hp} {h h' : Heap} {x e : Addr} {o' : HO}
theorem HOk.write(ok:HOk P w H h)(mu:Mut (H x))(he:e=x∨H e=some (.own x))(k:∀b u,b≠e→h.get? b=some u→h'.get? b=some u)(heo:∃u,h'.get? e=some u)
  (new:ObjOk P w (upd H x o') h' x o'):HOk P w (upd H x o') h':=λb u q=>by
 have nown:∀c y,H c=some (.own y)→c≠x:=λc y r z=>by subst z;rw[r]at mu;exact mu
 have ntup:∀c xs,H c=some (.tup xs)→c≠x:=λc xs r z=>by subst z;rw[r]at mu;exact mu
 by_cases hb:b=x
 ·subst hb;rw[upd_same]at q;cases q;exact new
 ·rw[upd_ne hb]at q
  by_cases hbe:b=e
  ·have q':H b=some (.own x):=by
    rcases he with z|z
    ·exact absurd (hbe.trans z) hb
    ·rw[hbe];exact z
   rw[q]at q';cases q'
   obtain⟨v,hv⟩:=heo
   exact⟨v,by rw[hbe];exact hv⟩
  ·refine(ok b u q).stay (λc v hc r=>k c v ?_ r) (λc r=>by rw[upd_ne (nown c b r)];exact r) λc xs r=>by rw[upd_ne (ntup c xs r)];exact r
   rcases hc with rfl|hc
   ·exact hbe
   ·rintro rfl
    rcases he with z|z
    ·exact nown c b hc z
    ·rw[hc]at z;cases z;exact hb rfl
end
structure Un(fs ex:List Addr)(H H':Hp)(h h':Heap): Prop where
 keep:∀b o,h.get? b=some o→H b=none→b∉fs→b∉ex→h'.get? b=some o
 slot:∀b o,h.get? b=some o→H b=none→b∈fs→b∉ex→∃sl,h'.get? b=some { o with slots:=sl }
 free:∀b o,h.get? b=some o→H b=none→b∉ex→H' b=none
 there:∀b o,h.get? b=some o→b∉ex→∃o',h'.get? b=some o'
 tups:∀b xs,H b=some (.tup xs)→H' b=some (.tup xs)
 frzs:∀b o u,H b=some (.frz o u)→H' b=some (.frz o u)
 tbls:∀b ps,H b=some (.tbl ps)→∃more,H' b=some (.tbl (ps++more))
section
variable {fs fs' ex ex' : List Addr} {H H1 H2 : Hp} {h h1 h2 h' : Heap} {a x e : Addr} {o : HO}
theorem Un.any(u:Un fs ex H H1 h h1){b:Addr}{ob:Obj}(q:h.get? b=some ob)(n:H b=none)(hx:b∉ex): ∃sl,h1.get? b=some { ob with slots:=sl }:=by
 by_cases hb:b∈fs
 ·exact u.slot b ob q n hb hx
 ·exact⟨ob.slots,u.keep b ob q n hb hx⟩
theorem Un.kept(k:∀b u,h.get? b=some u→h'.get? b=some u): Un fs ex H H h h':=
 ⟨λb ob q _ _ _=>k b ob q,λb ob q _ _ _=>⟨ob.slots,k b ob q⟩,λ_ _ _ n _=>n,λb ob q _=>⟨ob,k b ob q⟩,λ_ _ q=>q,λ_ _ _ q=>q,λ_ ps q=>⟨#[],by rw[q];simp⟩⟩
theorem Un.refl:Un fs ex H H h h:=Un.kept λ_ _ q=>q
theorem Un.laid(k:∀b u,h.get? b=some u→h'.get? b=some u)(hp:h.objs.size≤a)(hn:H a=none): Un fs ex H (upd H a o) h h' where
 keep:=λb u q _ _ _=>k b u q
 slot:=λb u q _ _ _=>⟨u.slots,k b u q⟩
 free:=λb u q n _=>by rw[upd_ne (Nat.ne_of_lt (Nat.lt_of_lt_of_le (Heap.lt_size q) hp))];exact n
 there:=λb u q _=>⟨u,k b u q⟩
 tups:=λb xs q=>by rw[upd_ne (ne_of_none q hn)];exact q
 frzs:=λb u xs q=>by rw[upd_ne (ne_of_none q hn)];exact q
 tbls:=λb ps q=>⟨#[],by rw[upd_ne (ne_of_none q hn),q];simp⟩
theorem Un.write(mu:Mut (H x))(he:e=x∨H e=some (.own x))(k:∀b u,b≠e→h.get? b=some u→h'.get? b=some u)(heo:∃u,h'.get? e=some u): Un fs ex H (upd H x o) h h':=by
 have hx:∀b,H b=none→b≠x:=λb n z=>by subst z;rw[n]at mu;exact mu
 have hb:∀b,H b=none→b≠e:=λb n z=>by
  subst z
  rcases he with r|r
  ·exact hx b n r
  ·rw[n]at r;cases r
 have hm:∀b u,H b=some u→¬Mut (some u)→b≠x:=λb u q nm z=>by subst z;rw[q]at mu;exact nm mu
 refine⟨λb u q n _ _=>k b u (hb b n) q,λb u q n _ _=>⟨u.slots,k b u (hb b n) q⟩,λb u q n _=>by rw[upd_ne (hx b n)];exact n,λb u q _=> ?_,
  λb xs q=>by rw[upd_ne (hm b _ q λz=>z)];exact q,λb u xs q=>by rw[upd_ne (hm b _ q λz=>z)];exact q,λb ps q=>⟨#[],by rw[upd_ne (hm b _ q λz=>z),q];simp⟩⟩
 by_cases hbe:b=e
 ·subst hbe;exact heo
 ·exact⟨u,k b u hbe q⟩
end
def trk(h:Heap)(H:Hp): List Addr:=(List.range h.objs.size).filter λa=>(H a).isSome
def hidT(h:Heap)(H:Hp): Heap:=PySem.W.hideAll h (trk h H)
theorem hidT_size(h:Heap)(H:Hp): (hidT h H).objs.size=h.objs.size:=PySem.W.hideAll_size _ _
theorem hidT_get{h:Heap}{H:Hp}{b:Addr}{o:Obj}(e:h.get? b=some o)(n:H b=none): (hidT h H).get? b=some o:=
 PySem.W.hideAll_get _ e λhm=>by
  have q:(H b).isSome=true:=(List.mem_filter.mp hm).2
  rw[n]at q;simp at q
theorem of_hidT{h:Heap}{H:Hp}{b:Addr}{o:Obj}(e:(hidT h H).get? b=some o): h.get? b=some o∧H b=none:=by
 have e':h.get? b=some o:=PySem.W.of_hideAll (trk h H) e
 refine⟨e',?_⟩
 cases q:H b with
 | none=>rfl
 | some x=>
  have hm:b∈trk h H:=List.mem_filter.mpr ⟨List.mem_range.mpr (Heap.lt_size e'),by simp[q]⟩
  have z:(hidT h H).get? b=none:=PySem.W.hideAll_none (trk h H) hm
  rw[z]at e;cases e
end L2
namespace L2
open PySem PySem.Spec PyProof.Rows
structure Mod(K:PySem.W.Frag)(mg:Str→Option Value)(base:Heap): Prop where
 kin:K.In base
 glob:base.Ns mainGlobals mg
 blt:∃mb,base.Ns builtinsNs mb∧∀x:Str,x≠ "__name__"→mb x=bootBuiltins x
 nolimit:base.NoLimit
structure Cx where
 prog:Program
 w:World
 K:PySem.W.Frag
 mg:Str→Option Value
 base:Heap
 A:Around
 N:List Str
 s₀:Shared
 H₀:Hp
 env:Env
 outer:List Env
 stack:List Env
 ex:List Addr
 fn:Str→Bool
 calm:Bool
 pn:List (Addr×Obj)
 xe:Value→Shared→Prop
def frs(l:List Env): List Addr:=l.filterMap (·.frame)
abbrev Cx.fs(X:Cx): List Addr:=frs X.outer
def Vis(sc:Scope)(x:Str): Prop:=sc.names.lookup x=some .local∨sc.names.lookup x=some .cell∨sc.names.lookup x=some .free
def Loc(sc:Scope)(x:Str): Prop:=sc.names.lookup x=some .local∨sc.names.lookup x=some .cell
def Look(env:Env)(h:Heap)(m:Str→Option Value)(x:Str)(u:Value): Prop:=
 (env.kindOf x=some .local∧m x=some u)∨((env.kindOf x=some .cell∨env.kindOf x=some .free)∧∃c,env.cells.lookup x=some c∧h.IsCell c (some u))
structure Cx.Ok(X:Cx): Prop where
 mod:Mod X.K X.mg X.base
 kind:X.env.scope.kind = .function
 glob:X.env.globals=mainGlobals
 blt:X.env.builtins=builtinsNs
 above:X.s₀.heap.objs.size≤X.env.locals
 inj:∀x y c,X.env.cells.lookup x=some c→X.env.cells.lookup y=some c→x=y
 has:∀x,(X.env.kindOf x=some .cell∨X.env.kindOf x=some .free)→∃c,X.env.cells.lookup x=some c
 cab:∀x c,X.fn x=true→X.env.cells.lookup x=some c→X.s₀.heap.objs.size≤c
 hd:X.calm=true→X.A.handled=none
 frames:X.A.frames=some X.stack
 stk:X.stack=X.outer∨(X.stack=X.env::X.outer∧X.env.frame=some X.env.locals)
 exf:∀b∈X.ex,b≠X.env.locals∧∀x c,X.env.cells.lookup x=some c→c≠b
 bs:∀b o,X.base.get? b=some o→X.s₀.heap.get? b=some o∧X.H₀ b=none
 bsz:X.base.objs.size≤X.s₀.heap.objs.size
 noex:∀b o,X.base.get? b=some o→b∉X.ex
 exfs:∀b∈X.ex,b∉X.fs
 funs:X.s₀.heap.FunFrames X.base X.outer
 frf:∀b∈X.fs,X.H₀ b=none
structure Inv(X:Cx)(pins:List (Addr×Obj))(σ:List (Option V))(H:Hp)(s:Shared): Prop where
 ok:X.Ok
 os:s.os=X.s₀.os
 bare:AllBare s.gens
 base:Un X.fs X.ex X.H₀ H X.s₀.heap s.heap
 loc:∃m,s.heap.Ns X.env.locals m∧∀(i:Nat) (x:Str) (v:V),X.N[i]?=some x→σ[i]?=some (some v)→Vis X.env.scope x→∃u,RelV v u∧Look X.env s.heap m x u
 cell:∀x c,X.env.cells.lookup x=some c→∃v,s.heap.IsCell c v
 free:H X.env.locals=none
 freeC:∀x c,X.env.cells.lookup x=some c→H c=none
 pin:∀p∈X.pn++pins,s.heap.get? p.1=some p.2∧H p.1=none∧p.1≠X.env.locals∧p.1∉X.fs∧∀v,p.2.data≠.cell v
 hok:HOk X.prog X.w H s.heap
 len:σ.length=X.N.length
section
variable {X : Cx} {pins : List (Addr × Obj)} {σ : List (Option V)} {H H' : Hp} {s : Shared} {h' : Heap}
theorem Cx.Ok.nofr(ok:X.Ok){b:Addr}{o:Obj}(e:X.base.get? b=some o): b∉X.fs:=λhb=>by
 have:=(ok.funs.mem hb).1
 rw[e]at this;cases this
theorem Inv.bs(I:Inv X pins σ H s): ∀b o,X.base.get? b=some o→s.heap.get? b=some o∧H b=none:=λb o e=>
 ⟨I.base.keep b o (I.ok.bs b o e).1 (I.ok.bs b o e).2 (I.ok.nofr e) (I.ok.noex b o e),I.base.free b o (I.ok.bs b o e).1 (I.ok.bs b o e).2 (I.ok.noex b o e)⟩
theorem Inv.bk(I:Inv X pins σ H s): ∀b o,X.base.get? b=some o→s.heap.get? b=some o:=λb o e=>(I.bs b o e).1
theorem Inv.mod(I:Inv X pins σ H s): Mod X.K X.mg X.base:=I.ok.mod
theorem Inv.kIn(I:Inv X pins σ H s): X.K.In s.heap:=I.ok.mod.kin.keeps I.bk
theorem Inv.lt(I:Inv X pins σ H s): X.env.locals<s.heap.objs.size:=let ⟨_,hn,_⟩:=I.loc;hn.lt
theorem Inv.sz(I:Inv X pins σ H s): X.s₀.heap.objs.size≤s.heap.objs.size:=Nat.le_trans I.ok.above (Nat.le_of_lt I.lt)
theorem Inv.nofs(I:Inv X pins σ H s){a:Addr}(h:s.heap.objs.size≤a): a∉X.fs:=λhb=>by
 obtain⟨_,o,ho,_⟩:=I.ok.funs.mem hb
 exact absurd (Nat.lt_of_lt_of_le (Heap.lt_size ho) (Nat.le_trans I.sz h)) (Nat.lt_irrefl _)
theorem Inv.cne(I:Inv X pins σ H s): ∀x c,X.env.cells.lookup x=some c→c≠X.env.locals:=λx c e z=>by
 obtain⟨v,o,ho,hd⟩:=I.cell x c e
 obtain⟨m,⟨o',es,ep,ho',hd',_⟩,_⟩:=I.loc
 rw[z,ho']at ho;cases ho;rw[hd']at hd;cases hd
theorem Inv.funs(I:Inv X pins σ H s): s.heap.FunFrames X.base X.outer:=by
 have all:∀(l:List Env),(∀b∈frs l,b∈X.fs)→X.s₀.heap.FunFrames X.base l→s.heap.FunFrames X.base l:=by
  intro l
  induction l with
  | nil=>intro _ _;trivial
  | cons env r ih=>
   intro hs hl
   obtain⟨hk,⟨L,o,hf,hn,ho,hd⟩,hr⟩:=hl
   have hL:L∈X.fs:=hs L (by unfold frs;rw[List.filterMap_cons,hf];exact List.mem_cons_self)
   obtain⟨sl,e⟩:=I.base.slot L o ho (I.ok.frf L hL) hL λz=>I.ok.exfs L z hL
   exact⟨hk,⟨L,_,hf,hn,e,hd⟩,ih (λb hb=>hs b (by unfold frs;rw[List.filterMap_cons,hf];exact List.mem_cons_of_mem _ hb)) hr⟩
 exact all X.outer (λ_ hb=>hb) I.ok.funs
theorem Inv.stack(I:Inv X pins σ H s): s.heap.FunFrames X.base X.stack:=by
 rcases I.ok.stk with e|⟨e,hf⟩
 ·rw[e];exact I.funs
 ·rw[e]
  obtain⟨m,hn,_⟩:=I.loc
  refine .cons (by rw[I.ok.kind];decide) hf hn ?_ I.funs
  exact Heap.get?_none_of_le (Nat.le_trans I.ok.bsz I.ok.above)
theorem Inv.stkSub(I:Inv X pins σ H s): ∀b∈frs X.stack,b∈X.env.locals::X.fs:=λb hb=>by
 rcases I.ok.stk with e|⟨e,hf⟩
 ·rw[e]at hb;exact List.mem_cons_of_mem _ hb
 ·rw[e]at hb
  unfold frs at hb
  rw[List.filterMap_cons,hf]at hb
  exact hb
theorem Inv.stkFree(I:Inv X pins σ H s): ∀b∈frs X.stack,H b=none:=λb hb=>by
 rcases List.mem_cons.mp (I.stkSub b hb)with e|hb
 ·rw[e];exact I.free
 ·obtain⟨_,o,ho,_⟩:=I.ok.funs.mem hb
  exact I.base.free b o ho (I.ok.frf b hb) λz=>I.ok.exfs b z hb
theorem Inv.step{g':Array GenState}{t':Nat}{d':Drawn}{ch:List Addr}(I:Inv X pins σ H s)
  (hch:∀b∈ch,(b∈X.ex∨X.s₀.heap.objs.size≤b)∧b≠X.env.locals∧(∀x c,X.env.cells.lookup x=some c→c≠b)∧∀p∈X.pn++pins,p.1≠b)
  (keep:∀b o,b≠X.env.locals→b∉X.fs→b∉ch→s.heap.get? b=some o→H b=none→h'.get? b=some o)
  (slot:∀b o,b≠X.env.locals→b∈X.fs→b∉ch→s.heap.get? b=some o→H b=none→∃sl,h'.get? b=some { o with slots:=sl }) (free:∀b o,b∉ch→s.heap.get? b=some o→H b=none→H' b=none)
  (there:∀b o,b∉ch→s.heap.get? b=some o→∃o',h'.get? b=some o')
  (tups:∀b xs,H b=some (.tup xs)→H' b=some (.tup xs)) (frzs:∀b o u,H b=some (.frz o u)→H' b=some (.frz o u)) (tbls:∀b ps,H b=some (.tbl ps)→∃more,H' b=some (.tbl (ps++more)))
  (ns:∀m,s.heap.Ns X.env.locals m→h'.Ns X.env.locals m) (hok:HOk X.prog X.w H' h') (hg:AllBare g') :
  Inv X pins σ H' { s with heap:=h',gens:=g',drawn:=d',toks:=t' }:=by
 have neL:∀b o,X.s₀.heap.get? b=some o→b≠X.env.locals:=λb o e=>Nat.ne_of_lt (Nat.lt_of_lt_of_le (Heap.lt_size e) I.ok.above)
 have neC:∀b o,X.s₀.heap.get? b=some o→b∉X.ex→b∉ch:=λb o e hx hb=>by
  rcases(hch b hb).1 with z|z
  ·exact hx z
  ·exact absurd (Nat.lt_of_lt_of_le (Heap.lt_size e) z) (Nat.lt_irrefl _)
 have cellK:∀x c,X.env.cells.lookup x=some c→∀v,s.heap.IsCell c v→h'.IsCell c v:=λx c e v ⟨o,ho,hd⟩=>by
  have nch:c∉ch:=λz=>(hch c z).2.2.1 x c e rfl
  by_cases hc:c∈X.fs
  ·obtain⟨sl,q⟩:=slot c o (I.cne x c e) hc nch ho (I.freeC x c e)
   exact⟨_,q,hd⟩
  ·exact⟨o,keep c o (I.cne x c e) hc nch ho (I.freeC x c e),hd⟩
 refine⟨I.ok,I.os,hg,⟨λb o e n hb hx=> ?_,λb o e n hb hx=> ?_,λb o e n hx=> ?_,λb o e hx=> ?_,λb xs e=>tups b xs (I.base.tups b xs e),λb o xs e=>frzs b o xs (I.base.frzs b o xs e),λb ps e=> ?_⟩,?_,λx c e=> ?_,?_,λx c e=> ?_,λp hp=> ?_,hok,I.len⟩
 ·exact keep b o (neL b o e) hb (neC b o e hx) (I.base.keep b o e n hb hx) (I.base.free b o e n hx)
 ·obtain⟨sl,e1⟩:=I.base.slot b o e n hb hx
  obtain⟨sl',e2⟩:=slot b _ (neL b o e) hb (neC b o e hx) e1 (I.base.free b o e n hx)
  exact⟨sl',e2⟩
 ·obtain⟨o',e1⟩:=I.base.there b o e hx
  exact free b o' (neC b o e hx) e1 (I.base.free b o e n hx)
 ·obtain⟨o',e1⟩:=I.base.there b o e hx
  exact there b o' (neC b o e hx) e1
 ·obtain⟨m1,e1⟩:=I.base.tbls b ps e
  obtain⟨m2,e2⟩:=tbls b _ e1
  exact⟨m1++m2,by rw[e2,Array.append_assoc]⟩
 ·obtain⟨m,hn,hl⟩:=I.loc
  refine⟨m,ns m hn,λi x v e1 e2 e3=> ?_⟩
  obtain⟨u,r,l⟩:=hl i x v e1 e2 e3
  refine⟨u,r,?_⟩
  rcases l with l|⟨k,c,e,z⟩
  ·exact .inl l
  ·exact .inr ⟨k,c,e,cellK x c e _ z⟩
 ·obtain⟨v,z⟩:=I.cell x c e
  exact⟨v,cellK x c e v z⟩
 ·obtain⟨m,⟨o,_,_,ho,_⟩,_⟩:=I.loc
  exact free _ o (λz=>(hch _ z).2.1 rfl) ho I.free
 ·obtain⟨v,o,ho,hd⟩:=I.cell x c e
  exact free c o (λz=>(hch c z).2.2.1 x c e rfl) ho (I.freeC x c e)
 ·obtain⟨e,n,ne,nf,d⟩:=I.pin p hp
  have nch:p.1∉ch:=λz=>(hch p.1 z).2.2.2 p hp rfl
  exact⟨keep p.1 p.2 ne nf nch e n,free p.1 p.2 nch e n,ne,nf,d⟩
theorem Inv.un{t':Nat}(I:Inv X pins σ H s)(u:Un X.fs [] H H' s.heap h')(hok:HOk X.prog X.w H' h'): Inv X pins σ H' { s with heap:=h',toks:=t' }:=by
 obtain⟨m,⟨o,es,ep,ho,r⟩,_⟩:=id I.loc
 obtain⟨sl,hL⟩:=u.any ho I.free (by simp)
 exact I.step (g':=s.gens) (d':=s.drawn) (ch:=[]) (λ_ z=>nomatch z) (λb o _ hb _ e n=>u.keep b o e n hb (by simp)) (λb o _ hb _ e n=>u.slot b o e n hb (by simp)) (λb o _ e n=>u.free b o e n (by simp)) (λb o _ e=>u.there b o e (by simp)) u.tups u.frzs u.tbls (λm' hm=>by
  obtain⟨o',es',ep',ho',r'⟩:=hm
  rw[ho]at ho';cases ho'
  exact⟨_,es',ep',hL,r'⟩) hok I.bare
theorem Inv.call{g':Array GenState}{t':Nat}{d':Drawn}{ch:List Addr}(I:Inv X pins σ H s)(u:Un (frs X.stack) ch H H' s.heap h')(hok:HOk X.prog X.w H' h')(hg:AllBare g')
  (hch:∀b∈ch,(b∈X.ex∨X.s₀.heap.objs.size≤b)∧b≠X.env.locals∧(∀x c,X.env.cells.lookup x=some c→c≠b)∧∀p∈X.pn++pins,p.1≠b) :
  Inv X pins σ H' { s with heap:=h',gens:=g',drawn:=d',toks:=t' }:=by
 obtain⟨m,⟨o,es,ep,ho,r⟩,_⟩:=id I.loc
 obtain⟨sl,hL⟩:=u.any ho I.free λz=>(hch _ z).2.1 rfl
 exact I.step (ch:=ch) hch (λb o hL hb hc e n=>u.keep b o e n (λz=>(List.mem_cons.mp (I.stkSub b z)).elim hL hb) hc) (λb o _ _ hc e n=>u.any e n hc) (λb o hc e n=>u.free b o e n hc) (λb o hc e=>u.there b o e hc) u.tups u.frzs u.tbls (λm' hm=>by
  obtain⟨o',es',ep',ho',r'⟩:=hm
  rw[ho]at ho';cases ho'
  exact⟨_,es',ep',hL,r'⟩) hok hg
theorem Inv.turned{t':Nat}{it:Addr}(I:Inv X pins σ H s)(k:∀b o,b≠it→s.heap.get? b=some o→h'.get? b=some o)(hn:H it=none)(hL:it≠X.env.locals)
  (h1:it∈X.ex∨X.s₀.heap.objs.size≤it) (h2:∀x c,X.env.cells.lookup x=some c→c≠it) (h3:∀p∈X.pn++pins,p.1≠it):Inv X pins σ H { s with heap:=h',toks:=t' }:=by
 have nit:∀b u,H b=some u→b≠it:=λb u e z=>by rw[z,hn]at e;cases e
 refine I.step (g':=s.gens) (d':=s.drawn) (ch:=[it]) (λb hb=> ?_) (λb o _ _ hc e _=>k b o (λz=>hc (by simp[z])) e) (λb o _ _ hc e _=>⟨o.slots,k b o (λz=>hc (by simp[z])) e⟩) (λ_ _ _ _ n=>n)
  (λb o hc e=>⟨o,k b o (λz=>hc (by simp[z])) e⟩) (λ_ _ e=>e) (λ_ _ _ e=>e) (λb ps e=>⟨#[],by rw[e];simp⟩) (λm hm=> ?_) (λb u e=> ?_) I.bare
 ·have e:b=it:=by simpa using hb
  subst e
  exact⟨h1,hL,h2,h3⟩
 ·obtain⟨o,es,ep,ho,r⟩:=hm
  exact⟨o,es,ep,k _ o (Ne.symm hL) ho,r⟩
 ·refine(I.hok b u e).stay (λc v hc q=>k c v ?_ q) (λ_ q=>q) λ_ _ q=>q
  rcases hc with z|z
  ·rw[z];exact nit b u e
  ·exact nit c _ z
theorem Inv.tok(I:Inv X pins σ H s)(t:Nat): Inv X pins σ H { s with toks:=t }:=I.un (h':=s.heap) (t':=t) Un.refl I.hok
theorem Inv.kept{t':Nat}(I:Inv X pins σ H s)(k:∀b u,s.heap.get? b=some u→h'.get? b=some u): Inv X pins σ H { s with heap:=h',toks:=t' }:=I.un (Un.kept k) (I.hok.kept k)
theorem Inv.laid{a:Addr}{o:HO}{t':Nat}(I:Inv X pins σ H s)(k:∀b u,s.heap.get? b=some u→h'.get? b=some u)(hp:s.heap.objs.size≤a)(new:ObjOk X.prog X.w (upd H a o) h' a o):
 Inv X pins σ (upd H a o) { s with heap:=h',toks:=t' }:=I.un (Un.laid k hp (I.hok.fresh hp)) (I.hok.laid k hp new)
theorem Inv.write{x e:Addr}{o:HO}{t':Nat}(I:Inv X pins σ H s)(mu:Mut (H x))(he:e=x∨H e=some (.own x))(k:∀b u,b≠e→s.heap.get? b=some u→h'.get? b=some u)(heo:∃u,h'.get? e=some u)
 (new:ObjOk X.prog X.w (upd H x o) h' x o):Inv X pins σ (upd H x o) { s with heap:=h',toks:=t' }:=I.un (Un.write mu he k heo) (I.hok.write mu he k heo new)
theorem Inv.pins_of{pins':List (Addr×Obj)}(I:Inv X pins σ H s)(h:∀p∈pins',s.heap.get? p.1=some p.2∧H p.1=none∧p.1≠X.env.locals∧p.1∉X.fs∧∀v,p.2.data≠.cell v): Inv X pins' σ H s:=
 ⟨I.ok,I.os,I.bare,I.base,I.loc,I.cell,I.free,I.freeC,λp hp=>(List.mem_append.mp hp).elim (λz=>I.pin p (List.mem_append_left _ z)) (h p),I.hok,I.len⟩
theorem nodup_ix{N:List Str}(hN:N.Nodup){i j:Nat}{x:Str}(a:N[i]?=some x)(b:N[j]?=some x): i=j:=by
 obtain⟨h1,e1⟩:=List.getElem?_eq_some_iff.mp a
 obtain⟨h2,e2⟩:=List.getElem?_eq_some_iff.mp b
 exact(List.getElem_inj hN).mp (e1.trans e2.symm)
theorem store_ok2{M:Model}{A:Around}{E:Value→Shared→Prop}{i:Nat}{x:Str}{v:V}{u:Value}{Q:Unit→Shared→Prop}(I:Inv X pins σ H s)(hN:X.N.Nodup)(hi:X.N[i]?=some x)(hx:Loc X.env.scope x)(r:RelV v u)
  (h:∀s',Inv X pins (σ.set i (some v)) H s'→(∃a,Heap.SameBut a s.heap s'.heap∧(a=X.env.locals∨X.env.cells.lookup x=some a))→Q () s') (hf:X.fn x=true∨X.env.scope.names.lookup x=some .local:=by first|exact .inl rfl|exact .inr rfl|assumption):wpAny M A (storeName X.env x u) Q E s:=by
 obtain⟨m,hn,hl⟩:=id I.loc
 have hcls:(X.env.scope.kind == .class || (X.env.scope.kind == .module&&X.env.locals != X.env.globals))=false:=by rw[I.ok.kind];rfl
 have hiσ:i<σ.length:=by rw[I.len];exact(List.getElem?_eq_some_iff.mp hi).1
 have cne:=I.cne
 have tracked:∀ {a:Addr} {h':Heap},(∃o,s.heap.get? a=some o∧H a=none)→Heap.SameBut a s.heap h'→HOk X.prog X.w H h':=λ{a h'} ha hs b ob e=>by
  obtain⟨_,_,hfree⟩:=ha
  refine(I.hok b ob e).stay (λc w' hc q=>(hs.2 c ?_).trans q) (λ_ q=>q) λ_ _ q=>q
  rintro rfl
  rcases hc with rfl|hc
  ·rw[hfree]at e;cases e
  ·rw[hfree]at hc;cases hc
 rcases hx with hk|hk
 ·refine wpAny_storeName_local hk hn (λh' hn' hs=> ?_) hcls
  obtain⟨oL,_,_,hoL,_⟩:=id hn
  refine h _ ⟨I.ok,I.os,I.bare,⟨λb o e n hb hx=> ?_,λb o e n hb hx=> ?_,I.base.free,λb o e hx=> ?_,I.base.tups,I.base.frzs,I.base.tbls⟩,⟨_,hn',λj y v' e1 e2 e3=> ?_⟩,λy c e=> ?_,I.free,I.freeC,λp hp=> ?_,tracked ⟨oL,hoL,I.free⟩ hs,by simpa using I.len⟩ ⟨_,hs,.inl rfl⟩
  ·exact(hs.2 b (Nat.ne_of_lt (Nat.lt_of_lt_of_le (Heap.lt_size e) I.ok.above))).trans (I.base.keep b o e n hb hx)
  ·obtain⟨sl,e1⟩:=I.base.slot b o e n hb hx
   exact⟨sl,(hs.2 b (Nat.ne_of_lt (Nat.lt_of_lt_of_le (Heap.lt_size e) I.ok.above))).trans e1⟩
  ·obtain⟨o',e1⟩:=I.base.there b o e hx
   exact⟨o',(hs.2 b (Nat.ne_of_lt (Nat.lt_of_lt_of_le (Heap.lt_size e) I.ok.above))).trans e1⟩
  ·by_cases hj:j=i
   ·subst hj
    rw[hi]at e1;cases e1
    rw[List.getElem?_set_self hiσ]at e2
    cases e2
    exact⟨u,r,.inl ⟨hk,by simp⟩⟩
   ·rw[List.getElem?_set_ne (Ne.symm hj)]at e2
    obtain⟨u',r',q⟩:=hl j y v' e1 e2 e3
    refine⟨u',r',?_⟩
    rcases q with⟨k,e⟩|⟨k,c,e,z⟩
    ·refine .inl ⟨k,?_⟩
     have:y≠x:=λe=>hj (nodup_ix hN e1 (e▸hi))
     simp[this,e]
    ·exact .inr ⟨k,c,e,z.sameBut hs (cne y c e)⟩
  ·obtain⟨w',z⟩:=I.cell y c e
   exact⟨w',z.sameBut hs (cne y c e)⟩
  ·obtain⟨e,n,ne,nf,d⟩:=I.pin p hp
   exact⟨(hs.2 p.1 ne).trans e,n,ne,nf,d⟩
 ·have hfn:X.fn x=true:=by
   rcases hf with z|z
   ·exact z
   ·rw[z]at hk;cases hk
  obtain⟨c,hc⟩:=I.ok.has x (.inl hk)
  obtain⟨w',z⟩:=I.cell x c hc
  refine wpAny_storeName_cell I.ok.kind hk hc z (λh' hc' hs=> ?_)
  obtain⟨oc,hoc,hocd⟩:=id z
  refine h { s with heap:=h' } ⟨I.ok,I.os,I.bare,⟨λb o e n hb hx=> ?_,λb o e n hb hx=> ?_,I.base.free,λb o e hx=> ?_,I.base.tups,I.base.frzs,I.base.tbls⟩,⟨m,hn.sameBut hs (Ne.symm (cne x c hc)),λj y v' e1 e2 e3=> ?_⟩,λy c' e=> ?_,I.free,I.freeC,λp hp=> ?_,tracked ⟨oc,hoc,I.freeC x c hc⟩ hs,by simpa using I.len⟩ ⟨c,hs,.inr hc⟩
  ·exact(hs.2 b (Nat.ne_of_lt (Nat.lt_of_lt_of_le (Heap.lt_size e) (I.ok.cab x c hfn hc)))).trans (I.base.keep b o e n hb hx)
  ·obtain⟨sl,e1⟩:=I.base.slot b o e n hb hx
   exact⟨sl,(hs.2 b (Nat.ne_of_lt (Nat.lt_of_lt_of_le (Heap.lt_size e) (I.ok.cab x c hfn hc)))).trans e1⟩
  ·obtain⟨o',e1⟩:=I.base.there b o e hx
   exact⟨o',(hs.2 b (Nat.ne_of_lt (Nat.lt_of_lt_of_le (Heap.lt_size e) (I.ok.cab x c hfn hc)))).trans e1⟩
  ·by_cases hj:j=i
   ·subst hj
    rw[hi]at e1;cases e1
    rw[List.getElem?_set_self hiσ]at e2
    cases e2
    exact⟨u,r,.inr ⟨.inl hk,c,hc,hc'⟩⟩
   ·rw[List.getElem?_set_ne (Ne.symm hj)]at e2
    obtain⟨u',r',q⟩:=hl j y v' e1 e2 e3
    refine⟨u',r',?_⟩
    rcases q with q|⟨k,c',e,z'⟩
    ·exact .inl q
    ·refine .inr ⟨k,c',e,z'.sameBut hs ?_⟩
     rintro rfl
     exact hj (nodup_ix hN e1 (I.ok.inj _ _ _ e hc▸hi))
  ·by_cases hcc:c'=c
   ·subst hcc;exact⟨_,hc'⟩
   ·obtain⟨w2,z2⟩:=I.cell y c' e
    exact⟨w2,z2.sameBut hs hcc⟩
  ·obtain⟨e,n,ne,nf,d⟩:=I.pin p hp
   refine⟨(hs.2 p.1 ?_).trans e,n,ne,nf,d⟩
   intro q
   rw[q,hoc]at e
   have q':oc=p.2:=Option.some.inj e
   exact d w' (by rw[← q'];exact hocd)
theorem store_ok{M:Model}{A:Around}{E:Value→Shared→Prop}{i:Nat}{x:Str}{v:V}{u:Value}{Q:Unit→Shared→Prop}(I:Inv X pins σ H s)(hN:X.N.Nodup)(hi:X.N[i]?=some x)(hx:Loc X.env.scope x)(r:RelV v u)
  (h:∀s',Inv X pins (σ.set i (some v)) H s'→Q () s') (hf:X.fn x=true∨X.env.scope.names.lookup x=some .local:=by first|exact .inl rfl|exact .inr rfl|assumption):wpAny M A (storeName X.env x u) Q E s:=
 store_ok2 I hN hi hx r (λs' I' _=>h s' I') hf
theorem Inv.call'{s':Shared}{ch:List Addr}(I:Inv X pins σ H s)(ho:s'.os=s.os)(u:Un (frs X.stack) ch H H' s.heap s'.heap)(hok:HOk X.prog X.w H' s'.heap)(hg:AllBare s'.gens)
  (hch:∀b∈ch,(b∈X.ex∨X.s₀.heap.objs.size≤b)∧b≠X.env.locals∧(∀x c,X.env.cells.lookup x=some c→c≠b)∧∀p∈X.pn++pins,p.1≠b):Inv X pins σ H' s':=by
 obtain⟨h',g',d',t',o'⟩:=s'
 have e:o'=s.os:=ho
 subst e
 exact I.call (g':=g') (t':=t') (d':=d') u hok hg hch
end
abbrev XK:=Value→Option Addr→Hp→Prop
abbrev St:=List (Option V)
abbrev VK:=V→Hp→Prop
abbrev TE:=St→Hp→VK→Prop
abbrev TT:=St→Hp→(Bool→Hp→Prop)→Prop
abbrev TA:=St→Hp→(List V→Hp→Prop)→Prop
structure Ends where
 nx:St→Hp→Prop
 rt:VK
 bk:St→Hp→Prop:=λ_ _=>False
 ct:St→Hp→Prop:=λ_ _=>False
abbrev TS:=Ends→St→Hp→Prop
def EP(X:Cx)(pins:List (Addr×Obj))(σ:St)(Q:VK)(u:Value)(s':Shared): Prop:=∃v H',Inv X pins σ H' s'∧RelV v u∧Q v H'
def TP(X:Cx)(pins:List (Addr×Obj))(σ:St)(Q:Bool→Hp→Prop)(b:Bool)(s':Shared): Prop:=∃H',Inv X pins σ H' s'∧Q b H'
def AP(X:Cx)(pins:List (Addr×Obj))(σ:St)(Q:List V→Hp→Prop)(us:List Value)(s':Shared): Prop:=∃vs H',Inv X pins σ H' s'∧Vals vs us∧Q vs H'
def SP(X:Cx)(pins:List (Addr×Obj))(D:Ends)(f:Flow)(s':Shared): Prop:=
 match f with
 | .next=>∃σ' H',Inv X pins σ' H' s'∧D.nx σ' H'
 | .brk=>∃σ' H',Inv X pins σ' H' s'∧D.bk σ' H'
 | .cont=>∃σ' H',Inv X pins σ' H' s'∧D.ct σ' H'
 | .ret u=>∃v σ' H',Inv X pins σ' H' s'∧RelV v u∧D.rt v H'
def PE(X:Cx)(e:Expr)(t:TE): Prop:=
 ∀(pins:List (Addr×Obj)) (s:Shared) (σ:St) (H:Hp) (Q:VK),Inv X pins σ H s→t σ H Q→wpAny (model X.prog X.w) X.A (eval e X.env) (EP X pins σ Q) X.xe s
def PT(X:Cx)(e:Expr)(t:TT): Prop:=
 ∀(pins:List (Addr×Obj)) (s:Shared) (σ:St) (H:Hp) (Q:Bool→Hp→Prop),Inv X pins σ H s→t σ H Q→wpAny (model X.prog X.w) X.A (isTrue e X.env (eval e X.env)) (TP X pins σ Q) X.xe s
def PW(X:Cx)(e:Expr)(t:TT): Prop:=
 ∀(whole:Sem Value) (pins:List (Addr×Obj)) (s:Shared) (σ:St) (H:Hp) (Q:Bool→Hp→Prop),Inv X pins σ H s→t σ H Q→wpAny (model X.prog X.w) X.A (isTrue e X.env whole) (TP X pins σ Q) X.xe s
theorem PW.pt{X:Cx}{e:Expr}{t:TT}(h:PW X e t): PT X e t:=h _
def PA(X:Cx)(es:List Expr)(t:TA): Prop:=
 ∀(pos:Pos) (pins:List (Addr×Obj)) (s:Shared) (σ:St) (H:Hp) (Q:List V→Hp→Prop),Inv X pins σ H s→t σ H Q→wpAny (model X.prog X.w) X.A (spliced (backTo pos (starEach es X.env))) (AP X pins σ Q) X.xe s
def PS(X:Cx)(st:Stmt)(t:TS): Prop:=
 ∀(pins:List (Addr×Obj)) (s:Shared) (σ:St) (H:Hp) (D:Ends),Inv X pins σ H s→t D σ H→wpAny (model X.prog X.w) X.A (exec st X.env) (SP X pins D) X.xe s
def PSs(X:Cx)(st:List Stmt)(t:TS): Prop:=
 ∀(pins:List (Addr×Obj)) (s:Shared) (σ:St) (H:Hp) (D:Ends),Inv X pins σ H s→t D σ H→wpAny (model X.prog X.w) X.A (execs st X.env) (SP X pins D) X.xe s
theorem thn{α:Type}{t:Sem α}{Q Q':α→Shared→Prop}{M:Model}{A:Around}{E:Value→Shared→Prop}{s:Shared}(h:wpAny M A t Q E s)(hQ:∀a s,Q a s→Q' a s): wpAny M A t Q' E s:=wpAny_mono h hQ λ_ _ x=>x
end L2
namespace L2
open PySem PySem.Spec PyProof.Rows
section
variable {X : Cx}
theorem bin{a b:Expr}{ta tb:TE}(ha:PE X a ta)(hb:PE X b tb){pins:List (Addr×Obj)}{s:Shared}{σ:St}{H:Hp}{R:V→V→Hp→Prop}(I:Inv X pins σ H s)(h:ta σ H λx H1=>tb σ H1 λy H2=>R x y H2)
  {α:Type} {Q:α→Shared→Prop} {f:Value→Value→Sem α}
  (hf:∀v u s2 x y H2,Inv X pins σ H2 s2→RelV x v→RelV y u→R x y H2→wpAny (model X.prog X.w) X.A (f v u) Q X.xe s2) :
  wpAny (model X.prog X.w) X.A (eval a X.env) (λv s₁=>wpAny (model X.prog X.w) X.A (eval b X.env) (λu s₂=>wpAny (model X.prog X.w) X.A (f v u) Q X.xe s₂) X.xe s₁) X.xe s:=by
 refine thn (ha pins s σ H _ I h) λv s1 ⟨x,H1,I1,r1,q1⟩=> ?_
 refine thn (hb pins s1 σ H1 _ I1 q1) λu s2 ⟨y,H2,I2,r2,q2⟩=> ?_
 exact hf v u s2 x y H2 I2 r1 r2 q2
def tVar(i:Nat): TE:=λσ H Q=>∃v,σ[i]?=some (some v)∧Q v H
def tC(v:V): TE:=λ_ H Q=>Q v H
theorem pe_var{i:Nat}{x:Str}{pos:Pos}(hN:X.N[i]?=some x)(hv:Vis X.env.scope x)(hd:(x==("__debug__": Str))=false:=by decide)(hcd:(x==("__classdict__": Str))=false:=by decide): PE X (.Name x pos) (tVar i):=by
 intro pins s σ H Q I h
 obtain⟨v,e,h⟩:=h
 obtain⟨m,hn,hl⟩:=I.loc
 obtain⟨u,r,l⟩:=hl i x v hN e hv
 have fin:EP X pins σ Q u s:=⟨v,H,I,r,h⟩
 rcases l with⟨hk,hm⟩|⟨hk,c,hc,hcell⟩
 ·exact wpAny_Name (wpAny_loadName_local I.ok.kind hk hn hm fin) hd
 ·rcases hk with hk|hk
  ·exact wpAny_Name (wpAny_loadName_cell I.ok.kind hk hc hcell fin) hd
  ·exact wpAny_Name (wpAny_loadName_free I.ok.kind hk hc hcell fin hcd) hd
theorem pe_int{i j pos}: PE X (.Constant (.int i) j pos) (tC (.int i)):=λ_ _ _ H _ I h=>wpAny_Constant_int ⟨.int i,H,I.tok _,⟨_,rfl⟩,h⟩
theorem pe_bl{b j pos}: PE X (.Constant (.bool b) j pos) (tC (.bl b)):=λ_ _ _ H _ I h=>Constant_bool ⟨.bl b,H,I,rfl,h⟩
theorem pe_non{j pos}: PE X (.Constant .none j pos) (tC .non):=λ_ _ _ H _ I h=>Constant_none ⟨.non,H,I,rfl,h⟩
theorem pe_str{x j pos}: PE X (.Constant (.str x) j pos) (tC (.str x)):=λ_ _ _ H _ I h=>Calls.Constant_str ⟨.str x,H,I.tok _,⟨_,rfl⟩,h⟩
def Gl(X:Cx)(x:Str): Prop:=X.env.kindOf x=some .globalImplicit
theorem ld_glob{E:Value→Shared→Prop}{pins:List (Addr×Obj)}{s:Shared}{σ:St}{H:Hp}{x:Str}{u:Value}{pos:Pos}{Q:Value→Shared→Prop}(I:Inv X pins σ H s)(hg:Gl X x)(hm:X.mg x=some u)(h:Q u s)
  (hd:(x==("__debug__": Str))=false:=by decide):wpAny (model X.prog X.w) X.A (eval (.Name x pos) X.env) Q E s:=
 Calls.Name_function_global I.ok.kind hg (Calls.loadGlobal_global (by rw[I.ok.glob];exact I.mod.glob.keeps I.bk) hm h) hd
theorem ld_blt{E:Value→Shared→Prop}{pins:List (Addr×Obj)}{s:Shared}{σ:St}{H:Hp}{x:Str}{u:Value}{pos:Pos}{Q:Value→Shared→Prop}(I:Inv X pins σ H s)(hg:Gl X x)(hm:X.mg x=none)(hv:bootBuiltins x=some u)(h:Q u s)
  (hn:x≠ "__name__":= by decide) (hd:(x==("__debug__": Str))=false:=by decide):wpAny (model X.prog X.w) X.A (eval (.Name x pos) X.env) Q E s:=by
 obtain⟨mb,h1,h2⟩:=I.mod.blt
 exact Calls.Name_function_global I.ok.kind hg (Calls.loadGlobal_builtin (by rw[I.ok.glob];exact I.mod.glob.keeps I.bk) hm (by rw[I.ok.blt];exact h1.keeps I.bk) ((h2 x hn).trans hv) h) hd
theorem pe_glob{x:Str}{v:V}{u:Value}{pos:Pos}(hg:Gl X x)(hm:X.mg x=some u)(r:RelV v u)(hd:(x==("__debug__": Str))=false:=by decide): PE X (.Name x pos) (tC v):=
 λ_ _ _ H _ I h=>ld_glob I hg hm ⟨v,H,I,r,h⟩ hd
theorem pe_bltn{x:Str}{v:V}{u:Value}{pos:Pos}(hg:Gl X x)(hm:X.mg x=none)(hv:bootBuiltins x=some u)(r:RelV v u)(hn:x≠ "__name__":= by decide)(hd:(x==("__debug__": Str))=false:=by decide): PE X (.Name x pos) (tC v):=
 λ_ _ _ H _ I h=>ld_blt I hg hm hv ⟨v,H,I,r,h⟩ hn hd
variable {a b : Expr} {ta tb : TE} {pos : Pos}
def PC(X:Cx)(op:CmpOp)(a b:Expr)(t:TE): Prop:=
 ∀(pins:List (Addr×Obj)) (s:Shared) (σ:St) (H:Hp) (Q:VK),Inv X pins σ H s→t σ H Q→
  wpAny (model X.prog X.w) X.A (eval a X.env) (λv s₁=>wpAny (model X.prog X.w) X.A (eval b X.env) (λu s₂=>wpAny (model X.prog X.w) X.A (compareOp op v u) (EP X pins σ Q) X.xe s₂) X.xe s₁) X.xe s
def tB(t:TE): TT:=λσ H Q=>t σ H λx H1=>∃c,x = .bl c∧Q c H1
theorem pt_cmp{op:CmpOp}{t:TE}(h:PC X op a b t)(h1:behindInMarks op b=false:=by first|exact nobehind _ (by decide) (by decide)|rfl): PT X (.Compare a [op] [b] pos) (tB t):=by
 intro pins s σ H Q I hw
 refine wpAny_isTrue_Compare1 (thn (h pins s σ H _ I hw) λv s1 h1=>thn h1 λu s2 h2=>thn h2 λc s3 ⟨x,H1,I1,r1,q1⟩=> ?_) h1
 obtain⟨d,rfl,q⟩:=q1
 cases r1
 exact wpAny_truthy_bool ⟨H1,I1,q⟩
theorem pt_val{e:Expr}{t:TE}(h:PE X e t)(he:∀whole,isTrue e X.env whole=(do let v ← whole;standAt e.pos;holding [v] (truthy v)):=by intro _;rfl): PT X e (tB t):=by
 intro pins s σ H Q I hw
 refine isTrue_plain (thn (h pins s σ H _ I hw) λv s1 ⟨x,H1,I1,r1,q1⟩=> ?_) (he _)
 obtain⟨d,rfl,q⟩:=q1
 cases r1
 exact wpAny_truthy_bool ⟨H1,I1,q⟩
variable {tA tB' : TT} {rest : List Expr}
def tAnd(t u:TT): TT:=λσ H Q=>t σ H λc H1=>if c=true then u σ H1 Q else Q false H1
def tOr(t u:TT): TT:=λσ H Q=>t σ H λc H1=>if c=true then Q true H1 else u σ H1 Q
def tNot(t:TT): TT:=λσ H Q=>t σ H λc H1=>Q (!c) H1
theorem pw_and1(ha:PT X a tA): PW X (.BoolOp .And [a] pos) tA:=by
 intro wh pins s σ H Q I h
 refine isTrue_and (thn (ha pins s σ H Q I h) λc s1 e=> ?_)
 cases c with
 | true=>exact isTrue_and_nil e
 | false=>exact e
theorem pw_or1(ha:PT X a tA): PW X (.BoolOp .Or [a] pos) tA:=by
 intro wh pins s σ H Q I h
 refine isTrue_or (thn (ha pins s σ H Q I h) λc s1 e=> ?_)
 cases c with
 | false=>exact isTrue_or_nil e
 | true=>exact e
theorem pw_and(ha:PT X a tA)(hb:PW X (.BoolOp .And (b::rest) pos) tB'): PW X (.BoolOp .And (a::b::rest) pos) (tAnd tA tB'):=by
 intro wh pins s σ H Q I h
 refine isTrue_and (thn (ha pins s σ H _ I h) λc s1 ⟨H1,I1,q1⟩=> ?_)
 cases c with
 | true=>exact hb wh pins s1 σ H1 Q I1 q1
 | false=>exact⟨H1,I1,q1⟩
theorem pw_or(ha:PT X a tA)(hb:PW X (.BoolOp .Or (b::rest) pos) tB'): PW X (.BoolOp .Or (a::b::rest) pos) (tOr tA tB'):=by
 intro wh pins s σ H Q I h
 refine isTrue_or (thn (ha pins s σ H _ I h) λc s1 ⟨H1,I1,q1⟩=> ?_)
 cases c with
 | true=>exact⟨H1,I1,q1⟩
 | false=>exact hb wh pins s1 σ H1 Q I1 q1
theorem pt_not(ha:PT X a tA): PT X (.UnaryOp .Not a pos) (tNot tA):=by
 intro pins s σ H Q I h
 exact isTrue_not (ha pins s σ H (λc H1=>Q (!c) H1) I h)
def tAndV(ta tb:TE): TE:=λσ H Q=>ta σ H λx H1=>∃c,x = .bl c∧if c=true then tb σ H1 Q else Q (.bl false) H1
def tNotV(ta:TE): TE:=λσ H Q=>ta σ H λx H1=>∃c,x = .bl c∧Q (.bl (!c)) H1
theorem pe_one{op}{t:TE}(h:PE X a t): PE X (.BoolOp op [a] pos) t:=λpins s σ H Q I hw=>BoolOp_one (h pins s σ H Q I hw)
theorem pe_and(ha:PE X a ta)(hb:PE X (.BoolOp .And (b::rest) pos) tb): PE X (.BoolOp .And (a::b::rest) pos) (tAndV ta tb):=by
 intro pins s σ H Q I h
 refine BoolOp_and (thn (ha pins s σ H _ I h) λv s1 ⟨x,H1,I1,r1,q1⟩=> ?_)
 obtain⟨c,rfl,q1⟩:=q1
 cases r1
 refine wpAny_truthy_bool ?_
 cases c with
 | true=>exact hb pins s1 σ H1 Q I1 q1
 | false=>exact⟨.bl false,H1,I1,rfl,q1⟩
theorem pe_not(ha:PE X a ta): PE X (.UnaryOp .Not a pos) (tNotV ta):=by
 intro pins s σ H Q I h
 refine UnaryOp_ (thn (ha pins s σ H _ I h) λv s1 ⟨x,H1,I1,r1,q1⟩=> ?_)
 obtain⟨c,rfl,q1⟩:=q1
 cases r1
 exact not_of (wpAny_truthy_bool ⟨.bl (!c),H1,I1,rfl,q1⟩)
def tIf(t:TT)(ta tb:TE): TE:=λσ H Q=>t σ H λc H1=>if c=true then ta σ H1 Q else tb σ H1 Q
theorem pe_ifExp{c:Expr}(hc:PT X c tA)(ha:PE X a ta)(hb:PE X b tb): PE X (.IfExp c a b pos) (tIf tA ta tb):=by
 intro pins s σ H Q I h
 refine wpAny_IfExp (thn (hc pins s σ H _ I h) λd s1 ⟨H1,I1,q1⟩=> ?_)
 cases d with
 | true=>exact ha pins s1 σ H1 Q I1 q1
 | false=>exact hb pins s1 σ H1 Q I1 q1
end
end L2
namespace L2
open PySem PySem.Spec PyProof.Rows
def SqL(K:PySem.W.Frag)(H:Hp)(a:Addr)(xs:List V): Prop:=
 Rd H a (.lst xs)∨
  ∃(o:Obj) (its:Array Value) (n:Nat),K.lookup a=some o∧o.cls = .type "list"∧o.dict=none∧o.data = .seq its n∧its.size≤sizeLine∧Vals xs its.toList
def SqT(K:PySem.W.Frag)(H:Hp)(a:Addr)(xs:List V): Prop:=
 Rd H a (.tup xs)∨
  ∃(o:Obj) (its:Array Value) (n:Nat),K.lookup a=some o∧o.cls = .type "tuple"∧o.data = .seq its n∧its.size≤sizeLine∧Vals xs its.toList
def absV:Value→Option V
 | .none=>some .non
 | .bool b=>some (.bl b)
 | .int i _=>some (.int i)
 | .str x _=>some (.str x)
 | .bytes b _=>some (.byt b)
 | .float b _=>some (.flt b)
 | .ref a=>some (.ref a)
 | .type n=>some (.ty n)
 | _=>none
theorem RelV.abs{x:V}{u:Value}(r:RelV x u): absV u=some x:=by
 cases x with
 | non=>cases r;rfl
 | bl _=>cases r;rfl
 | int _=>obtain⟨t,rfl⟩:=r;rfl
 | str _=>obtain⟨t,rfl⟩:=r;rfl
 | byt _=>obtain⟨t,rfl⟩:=r;rfl
 | flt _=>obtain⟨t,rfl⟩:=r;rfl
 | ref _=>cases r;rfl
 | ty _=>cases r;rfl
theorem RelV.inj{x y:V}{u:Value}(r:RelV x u)(q:RelV y u): x=y:=Option.some.inj (r.abs.symm.trans q.abs)
theorem Vals.inj:∀ {xs ys:List V} {us:List Value},Vals xs us→Vals ys us→xs=ys
 | _,_,_,.nil,.nil=>rfl
 | _,_,_,.cons r t,.cons r' t'=>by rw[r.inj r',Vals.inj t t']
section
variable {X : Cx} {pins : List (Addr × Obj)} {σ : St} {H : Hp} {s : Shared} {a : Addr} {xs ys : List V}
theorem SqL.of{K:PySem.W.Frag}(h:H a=some (.lst xs)): SqL K H a xs:=.inl (.inl h)
theorem SqT.of{K:PySem.W.Frag}(h:H a=some (.tup xs)): SqT K H a xs:=.inl (.inl h)
theorem Inv.list(I:Inv X pins σ H s)(h:SqL X.K H a xs): ∃its:List Value,Vals xs its∧PlainL s.heap a its.toArray∧xs.length≤sizeLine:=by
 rcases h with h|⟨o,its,n,hk,hc,hd,hs,hz,r⟩
 ·obtain⟨z,its,n,r,e⟩:=h.ok I.hok
  exact⟨its,r,⟨_,n,e,rfl,rfl,rfl⟩,z⟩
 ·refine⟨its.toList,r,⟨o,n,I.kIn a o hk,hc,hd,by simpa using hs⟩,?_⟩
  have e:=r.length
  simp only[Array.length_toList]at e
  omega
theorem Inv.tuple(I:Inv X pins σ H s)(h:SqT X.K H a xs): ∃its:List Value,Vals xs its∧IsTup s.heap a its.toArray∧xs.length≤sizeLine:=by
 rcases h with h|⟨o,its,n,hk,hc,hs,hz,r⟩
 ·obtain⟨z,its,r,p⟩:=h.ok I.hok
  exact⟨its,r,p,z⟩
 ·refine⟨its.toList,r,⟨o,I.kIn a o hk,hc,n,by simpa using hs⟩,?_⟩
  have e:=r.length
  simp only[Array.length_toList]at e
  omega
theorem Inv.list_inj(I:Inv X pins σ H s)(h:SqL X.K H a xs)(h':SqL X.K H a ys): xs=ys:=by
 obtain⟨its,r,⟨o,n,e,_,_,d⟩,_⟩:=I.list h
 obtain⟨its',r',⟨o',n',e',_,_,d'⟩,_⟩:=I.list h'
 rw[e]at e';cases e'
 rw[d]at d'
 injection d' with d1 _
 have:its=its':=by simpa using congrArg Array.toList d1
 subst this
 exact r.inj r'
theorem Inv.tuple_inj(I:Inv X pins σ H s)(h:SqT X.K H a xs)(h':SqT X.K H a ys): xs=ys:=by
 obtain⟨its,r,⟨o,e,_,n,d⟩,_⟩:=I.tuple h
 obtain⟨its',r',⟨o',e',_,n',d'⟩,_⟩:=I.tuple h'
 rw[e]at e';cases e'
 rw[d]at d'
 injection d' with d1 _
 have:its=its':=by simpa using congrArg Array.toList d1
 subst this
 exact r.inj r'
end
abbrev Cx.wish(X:Cx)(E:Value→Shared→Prop): Cx:={ X with xe:=E }
abbrev Cx.nox(X:Cx): Cx:=X.wish λ_ _=>False
theorem Cx.Ok.wish{X:Cx}(ok:X.Ok)(E:Value→Shared→Prop): (X.wish E).Ok:=
 ⟨ok.mod,ok.kind,ok.glob,ok.blt,ok.above,ok.inj,ok.has,ok.cab,ok.hd,ok.frames,ok.stk,ok.exf,ok.bs,ok.bsz,ok.noex,ok.exfs,ok.funs,ok.frf⟩
theorem Cx.Ok.unwish{X:Cx}{E:Value→Shared→Prop}(ok:(X.wish E).Ok): X.Ok:=
 ⟨ok.mod,ok.kind,ok.glob,ok.blt,ok.above,ok.inj,ok.has,ok.cab,ok.hd,ok.frames,ok.stk,ok.exf,ok.bs,ok.bsz,ok.noex,ok.exfs,ok.funs,ok.frf⟩
section
variable {X : Cx} {pins : List (Addr × Obj)} {σ : St} {H : Hp} {s : Shared} {E : Value → Shared → Prop}
theorem Inv.wish(I:Inv X pins σ H s)(E:Value→Shared→Prop): Inv (X.wish E) pins σ H s:=⟨I.ok.wish E,I.os,I.bare,I.base,I.loc,I.cell,I.free,I.freeC,I.pin,I.hok,I.len⟩
theorem Inv.unwish(I:Inv (X.wish E) pins σ H s): Inv X pins σ H s:=⟨I.ok.unwish,I.os,I.bare,I.base,I.loc,I.cell,I.free,I.freeC,I.pin,I.hok,I.len⟩
theorem SP.unwish{D:Ends}{f:Flow}{s':Shared}(h:SP (X.wish E) pins D f s'): SP X pins D f s':=by
 cases f with
 | next=>obtain⟨σ',H',I,q⟩:=h;exact⟨σ',H',I.unwish,q⟩
 | brk=>obtain⟨σ',H',I,q⟩:=h;exact⟨σ',H',I.unwish,q⟩
 | cont=>obtain⟨σ',H',I,q⟩:=h;exact⟨σ',H',I.unwish,q⟩
 | ret u=>obtain⟨v,σ',H',I,r,q⟩:=h;exact⟨v,σ',H',I.unwish,r,q⟩
theorem PSs.nox{st:List Stmt}{t:TS}(h:PSs X.nox st t): PSs X st t:=λpins s σ H D I hw=>
 wpAny_mono (h pins s σ H D (I.wish _) hw) (λ_ _ q=>q.unwish) λ_ _ z=>False.elim z
end
section
variable {X : Cx} {st : Stmt} {rest : List Stmt} {t u : TS} {e : Expr} {te : TE} {pos : Pos}
def tNext:TS:=λD σ H=>D.nx σ H
def tSeq(t u:TS): TS:=λD σ H=>t { D with nx:=u D } σ H
theorem pss_nil:PSs X [] tNext:=λ_ _ σ H _ I h=>wpAny_execs_nil ⟨σ,H,I,h⟩
theorem pss_cons(h1:PS X st t)(h2:PSs X rest u): PSs X (st::rest) (tSeq t u):=by
 intro pins s σ H D I h
 refine wpAny_execs_cons (thn (h1 pins s σ H { D with nx:=u D } I h) λf s1 q=> ?_)
 cases f with
 | next=>
  obtain⟨σ',H',I',q⟩:=q
  exact h2 pins s1 σ' H' D I' q
 | ret v=>exact q
 | brk=>exact q
 | cont=>exact q
theorem Inv.quiet{pins:List (Addr×Obj)}{σ:St}{H:Hp}{s:Shared}(I:Inv X pins σ H s): interactive X.env=false:=by simp[interactive,I.ok.kind]
def tDrop(te:TE): TS:=λD σ H=>te σ H λ_ H1=>D.nx σ H1
theorem ps_expr(he:PE X e te)(hs:swapsWith e none pos.line X.env=pure false:=by rfl): PS X (.Expr e pos) (tDrop te):=by
 intro pins s σ H D I h
 exact wpAny_Expr_any (thn (he pins s σ H _ I h) λv s1 ⟨x,H1,I1,r1,q1⟩=>⟨σ,H1,I1,q1⟩) I.quiet hs
def tRet(te:TE): TS:=λD σ H=>te σ H D.rt
theorem ps_ret(he:PE X e te): PS X (.Return (some e) pos) (tRet te):=by
 intro pins s σ H D I h
 exact wpAny_Return_some (thn (he pins s σ H _ I h) λv s1 ⟨x,H1,I1,r1,q1⟩=>⟨x,σ,H1,I1,r1,q1⟩)
def tIfS(c:TT)(t u:TS): TS:=λD σ H=>c σ H λb H1=>if b=true then t D σ H1 else u D σ H1
theorem ps_if{c:Expr}{a b:List Stmt}{tc:TT}(hc:PT X c tc)(ha:PSs X a t)(hb:PSs X b u): PS X (.If c a b pos) (tIfS tc t u):=by
 intro pins s σ H D I h
 refine wpAny_If (thn (hc pins s σ H _ I h) λd s1 ⟨H1,I1,q1⟩=> ?_)
 cases d with
 | true=>exact ha pins s1 σ H1 D I1 q1
 | false=>exact hb pins s1 σ H1 D I1 q1
def tNever:TS:=λ_ _ _=>False
theorem pss_never{sts:List Stmt}: PSs X sts tNever:=λ_ _ _ _ _ _ h=>h.elim
end
abbrev TG:=V→St→Hp→(St→Hp→Prop)→Prop
def PG(X:Cx)(target:Expr)(t:TG): Prop:=
 ∀(pins:List (Addr×Obj)) (s:Shared) (σ:St) (H:Hp) (v:V) (u:Value) (Q:St→Hp→Prop),Inv X pins σ H s→RelV v u→t v σ H Q→
  wpAny (model X.prog X.w) X.A (assign target X.env u) (λ_ s'=>∃σ' H',Inv X pins σ' H' s'∧Q σ' H') X.xe s
abbrev TIp:=V→V→Hp→VK→Prop
def PIp(X:Cx)(op:Operator)(t:TIp): Prop:=
 ∀(pins:List (Addr×Obj)) (s:Shared) (σ:St) (H:Hp) (x y:V) (v u:Value) (Q:VK),Inv X pins σ H s→RelV x v→RelV y u→t x y H Q→
  wpAny (model X.prog X.w) X.A (inplaceOp op v u) (EP X pins σ Q) X.xe s
section
variable {X : Cx} {pos : Pos}
def gName(i:Nat): TG:=λv σ H Q=>Q (σ.set i (some v)) H
theorem pg_name{i:Nat}{x:Str}(hN:X.N.Nodup)(hi:X.N[i]?=some x)(hx:Loc X.env.scope x)(hf:X.fn x=true∨X.env.scope.names.lookup x=some .local:=by first|exact .inl rfl|exact .inr rfl|assumption): PG X (.Name x pos) (gName i):=by
 intro pins s σ H v u Q I r h
 exact wpAny_assign_Name (store_ok I hN hi hx r (λs' I'=>⟨_,H,I',h⟩) hf)
def tAsg(te:TE)(g:TG): TS:=λD σ H=>te σ H λx H1=>g x σ H1 D.nx
theorem ps_set{i:Nat}{x:Str}{e:Expr}{te:TE}{pos':Pos}(hN:X.N.Nodup)(hi:X.N[i]?=some x)(hx:Loc X.env.scope x)(he:PE X e te)(hs:swapsWith e (some (.Name x pos')) pos.line X.env=pure false:=by rfl)(hf:X.fn x=true∨X.env.scope.names.lookup x=some .local:=by first|exact .inl rfl|exact .inr rfl|assumption):
  PS X (.Assign [.Name x pos'] e pos) (tAsg te (gName i)):=by
 intro pins s σ H D I h
 refine wpAny_Assign_Name (thn (he pins s σ H _ I h) λv s1 ⟨y,H1,I1,r1,q1⟩=> ?_) hs
 exact store_ok I1 hN hi hx r1 (λs2 I2=>⟨_,H1,I2,q1⟩) hf
def tAug(i:Nat)(te:TE)(ti:TIp): TS:=λD σ H=>∃x,σ[i]?=some (some x)∧te σ H λy H1=>ti x y H1 λz H2=>D.nx (σ.set i (some z)) H2
theorem ps_aug{i:Nat}{x:Str}{e:Expr}{te:TE}{op:Operator}{ti:TIp}{pos':Pos}(hN:X.N.Nodup)(hi:X.N[i]?=some x)(hx:Loc X.env.scope x)(he:PE X e te)(ho:PIp X op ti)(hf:X.fn x=true∨X.env.scope.names.lookup x=some .local:=by first|exact .inl rfl|exact .inr rfl|assumption):
  PS X (.AugAssign (.Name x pos') op e pos) (tAug i te ti):=by
 intro pins s σ H D I h
 obtain⟨v,e1,h⟩:=h
 obtain⟨m,hn,hl⟩:=I.loc
 have vis:Vis X.env.scope x:=by rcases hx with k|k;exact .inl k;exact .inr (.inl k)
 obtain⟨u,r,l⟩:=hl i x v hi e1 vis
 refine wpAny_AugAssign_Name ?_
 have go:wpAny (model X.prog X.w) X.A (eval e X.env) (λw s₂=>wpAny (model X.prog X.w) X.A (inplaceOp op u w) (λr s₃=>wpAny (model X.prog X.w) X.A (storeName X.env x r) (λ_=>SP X pins D .next) X.xe s₃) X.xe s₂) X.xe s:=by
  refine thn (he pins s σ H _ I h) λw s1 ⟨y,H1,I1,r1,q1⟩=> ?_
  refine thn (ho pins s1 σ H1 v y u w _ I1 r r1 q1) λz s2 ⟨zv,H2,I2,r2,q2⟩=> ?_
  exact store_ok I2 hN hi hx r2 (λs3 I3=>⟨_,H2,I3,q2⟩) hf
 rcases l with⟨hk,hm⟩|⟨hk,c,hc,hcell⟩
 ·exact wpAny_loadName_local I.ok.kind hk hn hm go
 ·rcases hk with hk|hk
  ·exact wpAny_loadName_cell I.ok.kind hk hc hcell go
  ·rcases hx with k|k
   ·have:X.env.scope.names.lookup x=some .free:=hk
    rw[k]at this;cases this
   ·have:X.env.scope.names.lookup x=some .free:=hk
    rw[k]at this;cases this
def ipI(f:Int→Int→Int): TIp:=λx y H Q=>∃i j,x = .int i∧y = .int j∧Q (.int (f i j)) H
theorem ip_add:PIp X .Add (ipI λi j=>i+j):=by
 intro pins s σ H x y v u Q I r1 r2 h
 obtain⟨i,j,e1,e2,q⟩:=h
 subst e1;subst e2
 obtain⟨t,rfl⟩:=r1
 obtain⟨t',rfl⟩:=r2
 exact iadd_int ⟨.int _,H,I.tok _,⟨_,rfl⟩,q⟩
end
section
variable {X : Cx} {pos : Pos}
def tWhile(c:TT)(tb:TS): TS:=λD σ H=>∃W:Nat→St→Hp→Prop,(∃m,W m σ H)∧∀m σ H,W m σ H→
 c σ H λb H1=>if b=true then ∃N:St→Hp→Prop,(∀σ' H',N σ' H'→∃m',m'<m∧W m' σ' H')∧tb { D with nx:=N,ct:=N,bk:=D.nx } σ H1 else D.nx σ H1
theorem ps_while{c:Expr}{body:List Stmt}{tc:TT}{tb:TS}(hp:PassesOwn (model X.prog X.w) X.A X.env X.xe)(hc:PT X c tc)(hb:PSs X body tb): PS X (.While c body [] pos) (tWhile tc tb):=by
 intro pins s σ H D I h
 obtain⟨W,⟨m0,w0⟩,turn⟩:=h
 refine wpAny_While (codeAny_whileLoop (λn s'=>∃σ' H',Inv X pins σ' H' s'∧W n σ' H') ?_ m0 ⟨σ,H,I,w0⟩)
 rintro n s1 ⟨σ1,H1,I1,w1⟩
 refine wpAny_passesOwn hp (thn (hc pins s1 σ1 H1 _ I1 (turn n σ1 H1 w1)) λb s2 ⟨H2,I2,q2⟩=> ?_)
 cases b with
 | true=>
  obtain⟨N,hN,q2⟩:=q2
  rw[if_pos rfl]
  refine wpAny_passesOwn hp (thn (hb pins s2 σ1 H2 _ I2 q2) λf s3 q3=> ?_)
  cases f with
  | next=>
   obtain⟨σ3,H3,I3,n3⟩:=q3
   obtain⟨m',hm,w3⟩:=hN σ3 H3 n3
   exact⟨m',hm,σ3,H3,I3,w3⟩
  | cont=>
   obtain⟨σ3,H3,I3,n3⟩:=q3
   obtain⟨m',hm,w3⟩:=hN σ3 H3 n3
   exact⟨m',hm,σ3,H3,I3,w3⟩
  | brk=>exact q3
  | ret v=>exact q3
 | false=>
  rw[if_neg Bool.false_ne_true]
  exact wpAny_execs_nil ⟨σ1,H2,I2,q2⟩
end
structure It where
 go:Nat→Hp→Prop
 yld:Nat→Hp→V→Hp→Prop
 stop:Nat→Hp→Prop
def FpOk(X:Cx)(pins:List (Addr×Obj))(H:Hp)(b:Addr): Prop:=
 H b=none∧b≠X.env.locals∧b∉X.fs∧(b∈X.ex∨X.s₀.heap.objs.size≤b)∧(∀x c,X.env.cells.lookup x=some c→c≠b)∧∀p∈X.pn++pins,p.1≠b
theorem Inv.fpOk{X:Cx}{pins:List (Addr×Obj)}{σ:St}{H H':Hp}{s:Shared}{b:Addr}(I:Inv X pins σ H s)(hb:s.heap.objs.size≤b)(hn:H' b=none): FpOk X pins H' b:=by
 refine⟨hn,Nat.ne_of_gt (Nat.lt_of_lt_of_le I.lt hb),I.nofs hb,.inr (Nat.le_trans I.sz hb),λx c e z=> ?_,λp hp z=> ?_⟩
 ·obtain⟨v,q⟩:=I.cell x c e
  exact absurd (Nat.lt_of_lt_of_le q.lt (by rw[z];exact hb)) (Nat.lt_irrefl _)
 ·exact absurd (Nat.lt_of_lt_of_le (Heap.lt_size (I.pin p hp).1) (by rw[z];exact hb)) (Nat.lt_irrefl _)
structure Turn(P:Program)(w:World)(K:PySem.W.Frag)(tg:Expr)(J:It)(fp:List Addr)(it:Addr)(tn:Nat→Heap→Prop): Prop where
 mem:it∈fp
 obj:∀i h,tn i h→∀b∈fp,∃o,h.get? b=some o∧∀v,o.data≠.cell v
 keep:∀i h h',tn i h→(∀b∈fp,∀o,h.get? b=some o→h'.get? b=some o)→tn i h'
 item:∀(X:Cx),X.prog=P→X.w=w→X.K=K→X.calm=true→∀(i:Nat) (pins:List (Addr×Obj)) (s:Shared) (σ:St) (H:Hp) (E:Value→Shared→Prop),Inv X pins σ H s→(∀b∈fp,FpOk X pins H b)→tn i s.heap→J.go i H→
  wpAny (model P w) X.A (pyNext (.ref it)) (λr s1=>∃u,r=some u∧
   wpAny (model P w) X.A (letOwnedTupleGo tg (.ref it) u) (λ_ s2=>∃x H',Inv X pins σ H' s2∧RelV x u∧J.yld i H x H'∧tn (i+1) s2.heap∧∀b∈fp,H' b=none) E s1) E s
 done:∀(X:Cx),X.prog=P→X.w=w→X.K=K→X.calm=true→∀(i:Nat) (pins:List (Addr×Obj)) (s:Shared) (σ:St) (H:Hp) (E:Value→Shared→Prop),Inv X pins σ H s→(∀b∈fp,FpOk X pins H b)→tn i s.heap→J.stop i H→
  wpAny (model P w) X.A (pyNext (.ref it)) (λr s1=>r=none∧Inv X pins σ H s1) E s
 self:∀(A:Around) (i:Nat) (s:Shared) (Q:Value→Shared→Prop) (E:Value→Shared→Prop),tn i s.heap→Q (.ref it) s→wpAny (model P w) A (pyIter (.ref it)) Q E s
abbrev TI:=St→Hp→(It→Hp→Prop)→Prop
def PIE(X:Cx)(pins:List (Addr×Obj))(σ:St)(tg:Expr)(R:It→Hp→Prop)(itv:Value)(s2:Shared): Prop:=
 ∃(it:Addr) (fp:List Addr) (tn:Nat→Heap→Prop) (J:It) (H':Hp),itv = .ref it∧Inv X pins σ H' s2∧Turn X.prog X.w X.K tg J fp it tn∧tn 0 s2.heap∧(∀b∈fp,FpOk X pins H' b)∧R J H'
def PI(X:Cx)(tg iter:Expr)(wi:TI): Prop:=
 ∀(pins:List (Addr×Obj)) (s:Shared) (σ:St) (H:Hp) (R:It→Hp→Prop),Inv X pins σ H s→wi σ H R→
  wpAny (model X.prog X.w) X.A (eval iter X.env) (λv s1=>wpAny (model X.prog X.w) X.A (pyIter v) (PIE X pins σ tg R) X.xe s1) X.xe s
theorem go_of {M : Model} {A : Around} {E : Value → Shared → Prop} {s : Shared} {tg : Expr} {it : Addr} {u : Value} {o : Obj} {n : String} {vs : Array Value} {Q : Unit → Shared → Prop} (ho : s.heap.get? it = some o) (hc : o.cls = .type n) (hd : o.data = .fields vs)
    (hn : ["enumerate", "zip", "dict_itemiterator", "dict_reverseitemiterator", "odict_iterator", "itertools.zip_longest", "itertools.pairwise"].contains n = false) (hQ : Q () s) : wpAny M A (letOwnedTupleGo tg (.ref it) u) Q E s := by
  unfold letOwnedTupleGo
  cases tg <;> first
    | exact wpAny_pure hQ
    | (cases u <;> first
        | exact wpAny_pure hQ
        | (refine wpAny_bind (wpAny_load ho ?_)
           rw [hc, hd]
           show wpAny M A (if (["enumerate", "zip", "dict_itemiterator", "dict_reverseitemiterator", "odict_iterator", "itertools.zip_longest", "itertools.pairwise"].contains n && vs[0]? == some (rawInt _)) = true then _ else _) Q E s
           rw [if_neg (by intro h; rw [hn, Bool.false_and] at h; cases h)]
           exact wpAny_pure hQ))
def Itl(K:PySem.W.Frag)(a:Addr): It:=
 ⟨λi H=>∃xs x,SqL K H a xs∧xs[i]?=some x,λi H x H'=>H'=H∧∀xs,SqL K H a xs→xs[i]?=some x,λi H=>∃xs,SqL K H a xs∧xs.length≤i⟩
def Itt(K:PySem.W.Frag)(a:Addr): It:=
 ⟨λi H=>∃xs x,SqT K H a xs∧xs[i]?=some x,λi H x H'=>H'=H∧∀xs,SqT K H a xs→xs[i]?=some x,λi H=>∃xs,SqT K H a xs∧xs.length≤i⟩
theorem turn_list{P:Program}{w:World}{K:PySem.W.Frag}{tg:Expr}(a it:Addr): Turn P w K tg (Itl K a) [it] it (λi h=>h.IsListIter it a i) where
 mem:=by simp
 obj:=λi h st b hb=>by
  have e:b=it:=by simpa using hb
  subst e
  obtain⟨o,e,c,d⟩:=st
  exact⟨o,e,λv z=>by rw[d]at z;cases z⟩
 keep:=λi h h' st k=>st.at λo e=>k it (by simp) o e
 item:=by
  intro X hP hw hK hc i pins s σ H E I hf st hg
  subst hP hw hK
  obtain⟨xs,x,hq,hx⟩:=hg
  obtain⟨its,rv,p,hz⟩:=I.list hq
  obtain⟨u,hu,ru⟩:=rv.get hx
  obtain⟨f0,f1,f2,f3,f4,f5⟩:=hf it (by simp)
  refine wpAny_pyNext_list_item st p.isList (x:=u) (by simpa using hu) λh' st' sb=> ?_
  have I1:Inv X pins σ H { s with heap:=h' }:=I.turned (t':=s.toks) (λb o hb e=>(sb.2 b hb).trans e) f0 f1 f3 f4 f5
  obtain⟨o,e,c,d⟩:=id st'
  exact⟨u,rfl,go_of (s:={ s with heap:=h' }) e c d (by decide) ⟨x,H,I1,ru,⟨rfl,λys hy=>by rw[I.list_inj hy hq];exact hx⟩,st',λb hb=>(hf b hb).1⟩⟩
 done:=by
  intro X hP hw hK hc i pins s σ H E I hf st hg
  subst hP hw hK
  obtain⟨xs,hq,hx⟩:=hg
  obtain⟨its,rv,p,hz⟩:=I.list hq
  obtain⟨f0,f1,f2,f3,f4,f5⟩:=hf it (by simp)
  have hl:=rv.length
  exact wpAny_pyNext_list_end (I.ok.hd hc) st p.isList (by simp;omega) λh' eb=>⟨rfl,I.turned (t':=s.toks) (λb o hb e=>eb b o hb e) f0 f1 f3 f4 f5⟩
 self:=λ_ _ _ _ _ st h=>wpAny_pyIter_listiter st h
theorem turn_tuple{P:Program}{w:World}{K:PySem.W.Frag}{tg:Expr}(a it:Addr): Turn P w K tg (Itt K a) [it] it (λi h=>h.IsTupleIter it a i) where
 mem:=by simp
 obj:=λi h st b hb=>by
  have e:b=it:=by simpa using hb
  subst e
  obtain⟨o,e,c,d⟩:=st
  exact⟨o,e,λv z=>by rw[d]at z;cases z⟩
 keep:=λi h h' st k=>st.at λo e=>k it (by simp) o e
 item:=by
  intro X hP hw hK hc i pins s σ H E I hf st hg
  subst hP hw hK
  obtain⟨xs,x,hq,hx⟩:=hg
  obtain⟨its,rv,p,hz⟩:=I.tuple hq
  obtain⟨u,hu,ru⟩:=rv.get hx
  obtain⟨f0,f1,f2,f3,f4,f5⟩:=hf it (by simp)
  refine wpAny_pyNext_tuple_item st (show s.heap.IsTuple a its.toArray from p) (x:=u) (by simpa using hu) λh' st' sb=> ?_
  have I1:Inv X pins σ H { s with heap:=h' }:=I.turned (t':=s.toks) (λb o hb e=>(sb.2 b hb).trans e) f0 f1 f3 f4 f5
  obtain⟨o,e,c,d⟩:=id st'
  exact⟨u,rfl,go_of (s:={ s with heap:=h' }) e c d (by decide) ⟨x,H,I1,ru,⟨rfl,λys hy=>by rw[I.tuple_inj hy hq];exact hx⟩,st',λb hb=>(hf b hb).1⟩⟩
 done:=by
  intro X hP hw hK hc i pins s σ H E I hf st hg
  subst hP hw hK
  obtain⟨xs,hq,hx⟩:=hg
  obtain⟨its,rv,p,hz⟩:=I.tuple hq
  obtain⟨f0,f1,f2,f3,f4,f5⟩:=hf it (by simp)
  have hl:=rv.length
  exact wpAny_pyNext_tuple_end (I.ok.hd hc) st (show s.heap.IsTuple a its.toArray from p) (by simp;omega) λh' eb=>⟨rfl,I.turned (t':=s.toks) (λb o hb e=>eb b o hb e) f0 f1 f3 f4 f5⟩
 self:=λ_ _ _ _ _ st h=>wpAny_pyIter_tupleiter st h
end L2
namespace L2
open PySem PySem.Spec PyProof.Rows
section
variable {X : Cx} {tg : Expr}
def iList(K:PySem.W.Frag)(tl:TE): TI:=λσ H R=>tl σ H λx H1=>∃a,x = .ref a∧(∃xs,SqL K H1 a xs)∧R (Itl K a) H1
def iTup(K:PySem.W.Frag)(tl:TE): TI:=λσ H R=>tl σ H λx H1=>∃a,x = .ref a∧(∃xs,SqT K H1 a xs)∧R (Itt K a) H1
theorem pi_list{l:Expr}{tl:TE}(hl:PE X l tl): PI X tg l (iList X.K tl):=by
 intro pins s σ H R I h
 refine thn (hl pins s σ H _ I h) λv s1 ⟨x,H1,I1,r1,q1⟩=> ?_
 obtain⟨a,e,⟨xs,hq⟩,q⟩:=q1
 subst e
 cases r1
 obtain⟨its,rv,p,hz⟩:=I1.list hq
 refine wpAny_pyIter_list p.isList ?_
 refine⟨s1.heap.objs.size,[s1.heap.objs.size],_,_,H1,rfl,I1.kept (t':=s1.toks) λb o e=>Heap.get?_push_of_some _ e,turn_list a _,⟨_,Heap.get?_push_size _ rfl,rfl,rfl⟩,λb hb=> ?_,q⟩
 have e:b=s1.heap.objs.size:=by simpa using hb
 subst e
 exact I1.fpOk (Nat.le_refl _) (I1.hok.fresh (Nat.le_refl _))
theorem pi_tup{l:Expr}{tl:TE}(hl:PE X l tl): PI X tg l (iTup X.K tl):=by
 intro pins s σ H R I h
 refine thn (hl pins s σ H _ I h) λv s1 ⟨x,H1,I1,r1,q1⟩=> ?_
 obtain⟨a,e,⟨xs,hq⟩,q⟩:=q1
 subst e
 cases r1
 obtain⟨its,rv,p,hz⟩:=I1.tuple hq
 refine wpAny_pyIter_tuple (show s1.heap.IsTuple a its.toArray from p) ?_
 refine⟨s1.heap.objs.size,[s1.heap.objs.size],_,_,H1,rfl,I1.kept (t':=s1.toks) λb o e=>Heap.get?_push_of_some _ e,turn_tuple a _,⟨_,Heap.get?_push_size _ rfl,rfl,rfl⟩,λb hb=> ?_,q⟩
 have e:b=s1.heap.objs.size:=by simpa using hb
 subst e
 exact I1.fpOk (Nat.le_refl _) (I1.hok.fresh (Nat.le_refl _))
def tFor(wi:TI)(g:TG)(tb:TS): TS:=λD σ H=>wi σ H λJ H1=>∃W:Nat→Nat→St→Hp→Prop,(∃m,W 0 m σ H1)∧∀i m σ H,W i m σ H→
 (J.stop i H∧D.nx σ H)∨(J.go i H∧∃N:St→Hp→Prop,(∀σ' H',N σ' H'→∃m',m'<m∧W (i+1) m' σ' H')∧∀x H',J.yld i H x H'→g x σ H' λσ2 H2=>tb { D with nx:=N,ct:=N,bk:=D.nx } σ2 H2)
def pinsAt(fp:List Addr)(h:Heap): List (Addr×Obj):=fp.filterMap λb=>(h.get? b).map λo=>(b,o)
theorem mem_pinsAt{fp:List Addr}{h:Heap}{b:Addr}{o:Obj}(hb:b∈fp)(e:h.get? b=some o): (b,o)∈pinsAt fp h:=List.mem_filterMap.mpr ⟨b,hb,by rw[e];rfl⟩
theorem of_pinsAt{fp:List Addr}{h:Heap}{p:Addr×Obj}(hp:p∈pinsAt fp h): p.1∈fp∧h.get? p.1=some p.2:=by
 obtain⟨b,hb,e⟩:=List.mem_filterMap.mp hp
 cases q:h.get? b with
 | none=>rw[q]at e;cases e
 | some o=>
  rw[q]at e
  have e':(b,o)=p:=Option.some.inj e
  subst e'
  exact⟨hb,q⟩
theorem Inv.pinned{pins:List (Addr×Obj)}{σ:St}{H:Hp}{s:Shared}{fp:List Addr}(I:Inv X pins σ H s)(hf:∀b∈fp,FpOk X pins H b)(ho:∀b∈fp,∃o,s.heap.get? b=some o∧∀v,o.data≠.cell v): Inv X (pins++pinsAt fp s.heap) σ H s:=
 I.pins_of λp hp=>(List.mem_append.mp hp).elim (λz=>I.pin p (List.mem_append_right _ z)) λz=>by
  obtain⟨hb,e⟩:=of_pinsAt z
  obtain⟨f0,f1,f2,_⟩:=hf p.1 hb
  obtain⟨o,e',d⟩:=ho p.1 hb
  rw[e]at e';cases e'
  exact⟨e,f0,f1,f2,d⟩
theorem Inv.unpinned{pins pl:List (Addr×Obj)}{σ:St}{H:Hp}{s:Shared}(I:Inv X (pins++pl) σ H s): Inv X pins σ H s:=I.pins_of λp hp=>I.pin p (List.mem_append_right _ (List.mem_append_left _ hp))
theorem ps_for{iter:Expr}{body:List Stmt}{wi:TI}{g:TG}{tb:TS}{pos:Pos}(hp:PassesOwn (model X.prog X.w) X.A X.env X.xe)(hc:X.calm=true)(hi:PI X tg iter wi)(hg:PG X tg g)(hb:PSs X body tb)
  (hs:∀x,foldedSetIterable iter X.env x=pure x:=by intro _;rfl):PS X (.For tg iter body [] pos) (tFor wi g tb):=by
 intro pins s σ H D I h
 refine wpAny_For (thn (hi pins s σ H _ I h) λv s1 h1=>thn h1 λitv s2 h2=> ?_) hs
 obtain⟨it,fp,tn,J,H2,e,I2,T,st2,f2,W,⟨m0,w0⟩,turn⟩:=h2
 subst e
 have stat:∀ {H':Hp},(∀b∈fp,H' b=none)→∀b∈fp,FpOk X pins H' b:=λhn b hb=>⟨hn b hb,(f2 b hb).2⟩
 refine codeAny_forLoop_any (λn s'=>∃i σ' H',Inv X pins σ' H' s'∧tn i s'.heap∧(∀b∈fp,H' b=none)∧W i n σ' H') ?_ m0 ⟨0,σ,H2,I2,st2,λb hb=>(f2 b hb).1,w0⟩
 rintro n s3 ⟨i,σ3,H3,I3,st3,fr3,w3⟩
 rcases turn i n σ3 H3 w3 with⟨stop,qn⟩|⟨go,N,hN,step⟩
 ·refine wpAny_passesOwn hp (thn (T.done X rfl rfl rfl hc i pins s3 σ3 H3 X.xe I3 (stat fr3) st3 stop) λr s4 ⟨hr,I4⟩=> ?_)
  subst hr
  exact wpAny_execs_nil ⟨σ3,H3,I4,qn⟩
 ·refine wpAny_passesOwn hp (thn (T.item X rfl rfl rfl hc i pins s3 σ3 H3 X.xe I3 (stat fr3) st3 go) λr s4 ⟨u,hr,h4⟩=> ?_)
  subst hr
  refine wpAny_passesOwn hp (thn h4 λ_ s5 ⟨x,H5,I5,r5,y5,st5,fr5⟩=> ?_)
  have I5':=I5.pinned (stat fr5) (T.obj _ _ st5)
  refine wpAny_passesOwn hp (thn (hg _ s5 σ3 H5 x u _ I5' r5 (step x H5 y5)) λ_ s6 ⟨σ6,H6,I6,q6⟩=> ?_)
  refine wpAny_passesOwn hp (thn (hb _ s6 σ6 H6 _ I6 q6) λf s7 q7=> ?_)
  have again:∀ {σ7:St} {H7:Hp},Inv X (pins++pinsAt fp s5.heap) σ7 H7 s7→N σ7 H7→∃m,m<n∧∃i σ' H',Inv X pins σ' H' s7∧tn i s7.heap∧(∀b∈fp,H' b=none)∧W i m σ' H':=λ{σ7 H7} I7 n7=>by
   obtain⟨m',hm,w7⟩:=hN σ7 H7 n7
   refine⟨m',hm,i+1,σ7,H7,I7.unpinned,T.keep _ _ _ st5 λb hb o e=>(I7.pin (b,o) (List.mem_append_right _ (List.mem_append_right _ (mem_pinsAt hb e)))).1,λb hb=> ?_,w7⟩
   obtain⟨o,e,d⟩:=T.obj _ _ st5 b hb
   exact(I7.pin (b,o) (List.mem_append_right _ (List.mem_append_right _ (mem_pinsAt hb e)))).2.1
  cases f with
  | next=>obtain⟨σ7,H7,I7,n7⟩:=q7;exact again I7 n7
  | cont=>obtain⟨σ7,H7,I7,n7⟩:=q7;exact again I7 n7
  | brk=>obtain⟨σ7,H7,I7,q7⟩:=q7;exact⟨σ7,H7,I7.unpinned,q7⟩
  | ret v=>obtain⟨x7,σ7,H7,I7,r7,q7⟩:=q7;exact⟨x7,σ7,H7,I7.unpinned,r7,q7⟩
end
end L2
namespace L2
open PySem PySem.Spec PyProof.Rows
abbrev R2:=V→V→Hp→VK→Prop
def OpR(X:Cx)(f:Value→Value→Sem Value)(r:R2): Prop:=
 ∀(pins:List (Addr×Obj)) (s:Shared) (σ:St) (H:Hp) (x y:V) (v u:Value) (Q:VK),Inv X pins σ H s→RelV x v→RelV y u→r x y H Q→
  wpAny (model X.prog X.w) X.A (f v u) (EP X pins σ Q) X.xe s
def UnR(X:Cx)(f:Value→Sem Value)(r:V→Hp→VK→Prop): Prop:=
 ∀(pins:List (Addr×Obj)) (s:Shared) (σ:St) (H:Hp) (x:V) (v:Value) (Q:VK),Inv X pins σ H s→RelV x v→r x H Q→
  wpAny (model X.prog X.w) X.A (f v) (EP X pins σ Q) X.xe s
def CallR(X:Cx)(f:Value)(r:List V→Hp→VK→Prop): Prop:=
 ∀(pins:List (Addr×Obj)) (s:Shared) (σ:St) (H:Hp) (xs:List V) (us:List Value) (Q:VK),Inv X pins σ H s→Vals xs us→r xs H Q→
  wpAny (model X.prog X.w) X.A (call f us) (EP X pins σ Q) X.xe s
def TruR(X:Cx)(r:V→Hp→(Bool→Hp→Prop)→Prop): Prop:=
 ∀(pins:List (Addr×Obj)) (s:Shared) (σ:St) (H:Hp) (x:V) (v:Value) (Q:Bool→Hp→Prop),Inv X pins σ H s→RelV x v→r x H Q→
  wpAny (model X.prog X.w) X.A (truthy v) (TP X pins σ Q) X.xe s
def tOp(r:R2)(ta tb:TE): TE:=λσ H Q=>ta σ H λx H1=>tb σ H1 λy H2=>r x y H2 Q
def tUn(r:V→Hp→VK→Prop)(ta:TE): TE:=λσ H Q=>ta σ H λx H1=>r x H1 Q
def rI(C:Int→Int→Prop)(g:Int→Int→V): R2:=λx y H Q=>∃i j,x = .int i∧y = .int j∧C i j∧Q (g i j) H
def rI0(g:Int→Int→V): R2:=λx y H Q=>∃i j,x = .int i∧y = .int j∧Q (g i j) H
def rU(g:Int→V): V→Hp→VK→Prop:=λx H Q=>∃i,x = .int i∧Q (g i) H
section
variable {X : Cx} {a b c : Expr} {ta tb tc : TE} {pos : Pos}
theorem binT(ha:PE X a ta)(hb:PE X b tb){pins:List (Addr×Obj)}{s:Shared}{σ:St}{H:Hp}{R:V→V→Hp→Prop}(I:Inv X pins σ H s)
  (h:ta σ H λx H1=>tb σ H1 λy H2=>R x y H2) {Q:Value→Shared→Prop} {f:Value→Value→Sem Value}
  (hf:∀v u s2 x y H2,Inv X pins σ H2 s2→RelV x v→RelV y u→R x y H2→wpAny (model X.prog X.w) X.A (f v u) Q X.xe s2) :
  wpAny (model X.prog X.w) X.A (eval a X.env) (λv s₁=>wpAny (model X.prog X.w) X.A (eval b X.env) (λu s₂=>wpAny (model X.prog X.w) X.A (f v u) Q X.xe s₂) X.xe s₁) X.xe s:=by
 refine thn (ha pins s σ H _ I h) λv s1 ⟨x,H1,I1,r1,q1⟩=> ?_
 refine thn (hb pins s1 σ H1 _ I1 q1) λu s2 ⟨y,H2,I2,r2,q2⟩=> ?_
 exact hf v u s2 x y H2 I2 r1 r2 q2
theorem pe_op{op:Operator}{r:R2}(ho:OpR X (binaryOp op) r)(ha:PE X a ta)(hb:PE X b tb): PE X (.BinOp a op b pos) (tOp r ta tb):=by
 intro pins s σ H Q I h
 exact wpAny_BinOp (binT ha hb I h λv u s2 x y H2 I2 rx ry q=>ho pins s2 σ H2 x y v u Q I2 rx ry q)
theorem pe_un{op:UnaryOp}{r:V→Hp→VK→Prop}(ho:UnR X (unaryOp op) r)(ha:PE X a ta): PE X (.UnaryOp op a pos) (tUn r ta):=by
 intro pins s σ H Q I h
 exact UnaryOp_ (thn (ha pins s σ H _ I h) λv s1 ⟨x,H1,I1,r1,q1⟩=>ho pins s1 σ H1 x v Q I1 r1 q1)
theorem opI{f:Value→Value→Sem Value}{C:Int→Int→Prop}{g:Int→Int→Int}
  (rule:∀(i j:Int) (t u:Tok) (s:Shared) (Q:Value→Shared→Prop) (E:Value→Shared→Prop),C i j→Q (.int (g i j) s.toks) { s with toks:=s.toks+1 }→wpAny (model X.prog X.w) X.A (f (.int i t) (.int j u)) Q E s) :
  OpR X f (rI C λi j=>.int (g i j)):=by
 intro pins s σ H x y v u Q I rx ry h
 obtain⟨i,j,rfl,rfl,hc,q⟩:=h
 obtain⟨t,rfl⟩:=rx
 obtain⟨t',rfl⟩:=ry
 exact rule i j t t' s _ _ hc ⟨.int (g i j),H,I.tok _,⟨_,rfl⟩,q⟩
theorem opI0{f:Value→Value→Sem Value}{g:Int→Int→Int}
  (rule:∀(i j:Int) (t u:Tok) (s:Shared) (Q:Value→Shared→Prop) (E:Value→Shared→Prop),Q (.int (g i j) s.toks) { s with toks:=s.toks+1 }→wpAny (model X.prog X.w) X.A (f (.int i t) (.int j u)) Q E s) :
  OpR X f (rI0 λi j=>.int (g i j)):=by
 intro pins s σ H x y v u Q I rx ry h
 obtain⟨i,j,rfl,rfl,q⟩:=h
 obtain⟨t,rfl⟩:=rx
 obtain⟨t',rfl⟩:=ry
 exact rule i j t t' s _ _ ⟨.int (g i j),H,I.tok _,⟨_,rfl⟩,q⟩
theorem opB0{f:Value→Value→Sem Value}{g:Int→Int→Bool}
  (rule:∀(i j:Int) (t u:Tok) (s:Shared) (Q:Value→Shared→Prop) (E:Value→Shared→Prop),Q (.bool (g i j)) s→wpAny (model X.prog X.w) X.A (f (.int i t) (.int j u)) Q E s) :
  OpR X f (rI0 λi j=>.bl (g i j)):=by
 intro pins s σ H x y v u Q I rx ry h
 obtain⟨i,j,rfl,rfl,q⟩:=h
 obtain⟨t,rfl⟩:=rx
 obtain⟨t',rfl⟩:=ry
 exact rule i j t t' s _ _ ⟨.bl (g i j),H,I,rfl,q⟩
theorem op_add:OpR X (binaryOp .Add) (rI0 λi j=>.int (i+j)):=opI0 λ_ _ _ _ _ _ _ q=>add_int q
theorem op_sub:OpR X (binaryOp .Sub) (rI0 λi j=>.int (i-j)):=opI0 λ_ _ _ _ _ _ _ q=>sub_int q
theorem op_mod:OpR X (binaryOp .Mod) (rI (λ_ j=>0<j) λi j=>.int (i%j)):=opI λi j _ _ _ _ _ hc q=>by
 have h1:(0:Int)<j:=hc
 exact mod_int' (by omega) (by rw[Int.fmod_eq_emod_of_nonneg i (by omega)];exact q)
theorem unI{f:Value→Sem Value}{g:Int→Int}
  (rule:∀(i:Int) (t:Tok) (s:Shared) (Q:Value→Shared→Prop) (E:Value→Shared→Prop),Q (.int (g i) s.toks) { s with toks:=s.toks+1 }→wpAny (model X.prog X.w) X.A (f (.int i t)) Q E s) :
  UnR X f (rU λi=>.int (g i)):=by
 intro pins s σ H x v Q I rx h
 obtain⟨i,rfl,q⟩:=h
 obtain⟨t,rfl⟩:=rx
 exact rule i t s _ _ ⟨.int (g i),H,I.tok _,⟨_,rfl⟩,q⟩
theorem un_neg:UnR X (unaryOp .USub) (rU λi=>.int (-i)):=unI λ_ _ _ _ _ q=>neg_int q
end
def scal:V→V→Bool
 | .non,.non=>true | .non,.int _=>true | .int _,.non=>true | .non,.bl _=>true | .bl _,.non=>true | .non,.str _=>true | .str _,.non=>true
 | .int _,.int _=>true | .bl _,.bl _=>true | .str _,.str _=>true | .byt _,.byt _=>true
 | .int _,.str _=>true | .str _,.int _=>true | .bl _,.str _=>true | .str _,.bl _=>true
 | _,_=>false
def rEq:R2:=λx y H Q=>scal x y=true∧Q (.bl (decide (x=y))) H
def rNe:R2:=λx y H Q=>scal x y=true∧Q (.bl (!decide (x=y))) H
theorem dec_int{i j:Int}: decide (V.int i=V.int j)=(i==j):=by
 rw[Bool.eq_iff_iff]
 simp
theorem dec_bl{i j:Bool}: decide (V.bl i=V.bl j)=(i==j):=by
 rw[Bool.eq_iff_iff]
 simp
theorem dec_str{i j:Str}: decide (V.str i=V.str j)=(i==j):=by
 rw[Bool.eq_iff_iff]
 simp
theorem dec_byt{i j:Array UInt8}: decide (V.byt i=V.byt j)=(i.toList==j.toList):=by
 rw[Bool.eq_iff_iff]
 cases i
 cases j
 simp
section
variable {X : Cx} {a b c : Expr} {ta tb tc : TE} {pos : Pos}
theorem fin_bl{pins:List (Addr×Obj)}{σ:St}{H:Hp}{s:Shared}{Q:VK}{k k':Bool}(I:Inv X pins σ H s)(q:Q (.bl k) H)(e:k=k'): EP X pins σ Q (.bool k') s:=by
 subst e
 exact⟨.bl k,H,I,rfl,q⟩
theorem op_eq:OpR X (compareOp .Eq) rEq:=by
 intro pins s σ H x y v u Q I rx ry h
 obtain⟨hs,q⟩:=h
 cases x with
 | non=>
  cases rx
  cases y with
  | non=>cases ry;exact PySem.EqNone.eq_none_none (fin_bl I q (by simp))
  | bl j=>cases ry;exact PySem.EqNone.eq_none_bool (fin_bl I q (by simp))
  | int j=>obtain⟨t',rfl⟩:=ry;exact PySem.EqNone.eq_none_int (fin_bl I q (by simp))
  | str j=>obtain⟨t',rfl⟩:=ry;exact PySem.EqNone.eq_none_str (fin_bl I q (by simp))
  | _=>exact absurd (show false=true from hs) Bool.false_ne_true
 | bl i=>
  cases rx
  cases y with
  | non=>cases ry;exact PySem.EqNone.eq_bool_none (fin_bl I q (by simp))
  | bl j=>cases ry;exact eq_bool (fin_bl I q dec_bl)
  | str j=>obtain⟨t',rfl⟩:=ry;exact PySem.EqMixed.eq_bool_str (fin_bl I q (by simp))
  | _=>exact absurd (show false=true from hs) Bool.false_ne_true
 | int i=>
  obtain⟨t,rfl⟩:=rx
  cases y with
  | non=>cases ry;exact PySem.EqNone.eq_int_none (fin_bl I q (by simp))
  | int j=>obtain⟨t',rfl⟩:=ry;exact eq_int (fin_bl I q dec_int)
  | str j=>obtain⟨t',rfl⟩:=ry;exact PySem.EqMixed.eq_int_str (fin_bl I q (by simp))
  | _=>exact absurd (show false=true from hs) Bool.false_ne_true
 | str i=>
  obtain⟨t,rfl⟩:=rx
  cases y with
  | non=>cases ry;exact PySem.EqNone.eq_str_none (fin_bl I q (by simp))
  | bl j=>cases ry;exact PySem.EqMixed.eq_str_bool (fin_bl I q (by simp))
  | int j=>obtain⟨t',rfl⟩:=ry;exact PySem.EqMixed.eq_str_int (fin_bl I q (by simp))
  | str j=>obtain⟨t',rfl⟩:=ry;exact eq_str (fin_bl I q dec_str)
  | _=>exact absurd (show false=true from hs) Bool.false_ne_true
 | byt i=>
  obtain⟨t,rfl⟩:=rx
  cases y with
  | byt j=>obtain⟨t',rfl⟩:=ry;exact PySem.W.eq_bytes (fin_bl I q dec_byt)
  | _=>exact absurd (show false=true from hs) Bool.false_ne_true
 | _=>cases y<;>exact absurd (show false=true from hs) Bool.false_ne_true
theorem op_ne:OpR X (compareOp .NotEq) rNe:=by
 intro pins s σ H x y v u Q I rx ry h
 obtain⟨hs,q⟩:=h
 cases x with
 | non=>
  cases rx
  cases y with
  | non=>cases ry;exact PySem.EqNone.ne_none_none (fin_bl I q (by simp))
  | bl j=>cases ry;exact PySem.EqNone.ne_none_bool (fin_bl I q (by simp))
  | int j=>obtain⟨t',rfl⟩:=ry;exact PySem.EqNone.ne_none_int (fin_bl I q (by simp))
  | str j=>obtain⟨t',rfl⟩:=ry;exact PySem.EqNone.ne_none_str (fin_bl I q (by simp))
  | _=>exact absurd (show false=true from hs) Bool.false_ne_true
 | bl i=>
  cases rx
  cases y with
  | non=>cases ry;exact PySem.EqNone.ne_bool_none (fin_bl I q (by simp))
  | bl j=>cases ry;exact ne_bool (fin_bl I q (congrArg not dec_bl))
  | str j=>obtain⟨t',rfl⟩:=ry;exact PySem.EqMixed.ne_bool_str (fin_bl I q (by simp))
  | _=>exact absurd (show false=true from hs) Bool.false_ne_true
 | int i=>
  obtain⟨t,rfl⟩:=rx
  cases y with
  | non=>cases ry;exact PySem.EqNone.ne_int_none (fin_bl I q (by simp))
  | int j=>obtain⟨t',rfl⟩:=ry;exact ne_int (fin_bl I q (congrArg not dec_int))
  | str j=>obtain⟨t',rfl⟩:=ry;exact PySem.EqMixed.ne_int_str (fin_bl I q (by simp))
  | _=>exact absurd (show false=true from hs) Bool.false_ne_true
 | str i=>
  obtain⟨t,rfl⟩:=rx
  cases y with
  | non=>cases ry;exact PySem.EqNone.ne_str_none (fin_bl I q (by simp))
  | bl j=>cases ry;exact PySem.EqMixed.ne_str_bool (fin_bl I q (by simp))
  | int j=>obtain⟨t',rfl⟩:=ry;exact PySem.EqMixed.ne_str_int (fin_bl I q (by simp))
  | str j=>obtain⟨t',rfl⟩:=ry;exact ne_str (fin_bl I q (congrArg not dec_str))
  | _=>exact absurd (show false=true from hs) Bool.false_ne_true
 | byt i=>
  obtain⟨t,rfl⟩:=rx
  cases y with
  | byt j=>obtain⟨t',rfl⟩:=ry;exact PySem.W.ne_bytes (fin_bl I q (congrArg not dec_byt))
  | _=>exact absurd (show false=true from hs) Bool.false_ne_true
 | _=>cases y<;>exact absurd (show false=true from hs) Bool.false_ne_true
theorem op_lt:OpR X (compareOp .Lt) (rI0 λi j=>.bl (decide (i<j))):=opB0 λ_ _ _ _ _ _ _ q=>lt_int q
theorem op_le:OpR X (compareOp .LtE) (rI0 λi j=>.bl (decide (i≤j))):=opB0 λ_ _ _ _ _ _ _ q=>le_int q
theorem op_gt:OpR X (compareOp .Gt) (rI0 λi j=>.bl (decide (j<i))):=opB0 λ_ _ _ _ _ _ _ q=>gt_int q
theorem nomark(b:Expr){op:CmpOp}(h:op≠.In:=by decide)(h2:op≠.NotIn:=by decide): behindInMarks op b=false:=by
 have e1:(op==CmpOp.In)=false:=by cases op<;>first|rfl|exact absurd rfl h
 have e2:(op==CmpOp.NotIn)=false:=by cases op<;>first|rfl|exact absurd rfl h2
 cases b<;>simp[behindInMarks,e1,e2]
theorem pe_cmpR{op:CmpOp}{r:R2}(ho:OpR X (compareOp op) r)(ha:PE X a ta)(hb:PE X b tb)(hm:behindInMarks op b=false): PE X (.Compare a [op] [b] pos) (tOp r ta tb):=by
 intro pins s σ H Q I h
 exact wpAny_Compare1 (binT ha hb I h λv u s2 x y H2 I2 rx ry q=>ho pins s2 σ H2 x y v u Q I2 rx ry q) hm
def tTest(t:TE): TT:=λσ H Q=>t σ H λx H'=>∃k,x = .bl k∧Q k H'
theorem pt_cmpR{op:CmpOp}{r:R2}(ho:OpR X (compareOp op) r)(ha:PE X a ta)(hb:PE X b tb)(hm:behindInMarks op b=false): PT X (.Compare a [op] [b] pos) (tTest (tOp r ta tb)):=by
 intro pins s σ H Q I h
 refine wpAny_isTrue_Compare1 (thn (ha pins s σ H _ I h) λv s1 ⟨x,H1,I1,r1,q1⟩=>thn (hb pins s1 σ H1 _ I1 q1) λu s2 ⟨y,H2,I2,r2,q2⟩=>
  thn (ho pins s2 σ H2 x y v u _ I2 r1 r2 q2) λc s3 ⟨z,H3,I3,r3,k,e,q3⟩=> ?_) hm
 subst e
 cases r3
 exact wpAny_truthy_bool ⟨H3,I3,q3⟩
def tChain(r r':R2)(ta tb tc:TE): TE:=λσ H Q=>ta σ H λx H1=>tb σ H1 λy H2=>r x y H2 λz H3=>∃k,z = .bl k∧
 (if k=true then tc σ H3 λw' H4=>r' y w' H4 Q else Q (.bl false) H3)
theorem pt_chain{op op':CmpOp}{r r':R2}(ho:OpR X (compareOp op) r)(ho':OpR X (compareOp op') r')(ha:PE X a ta)(hb:PE X b tb)(hc:PE X c tc)
  (hm:lastMarks [op,op'] [b,c]=false:=by with_unfolding_all rfl):PT X (.Compare a [op,op'] [b,c] pos) (tTest (tChain r r' ta tb tc)):=by
 intro pins s σ H Q I h
 refine isTrue_chain (thn (ha pins s σ H _ I h) λv s1 ⟨x,H1,I1,r1,q1⟩=>test_link (thn (hb pins s1 σ H1 _ I1 q1) λu s2 ⟨y,H2,I2,r2,q2⟩=>
  thn (ho pins s2 σ H2 x y v u _ I2 r1 r2 q2) λd s3 ⟨z,H3,I3,r3,k,e,q3⟩=> ?_)) hm
 subst e
 cases r3
 refine wpAny_truthy_bool ?_
 cases k with
 | false=>
  obtain⟨k',e',q'⟩:=q3
  cases e'
  exact ite_ff ⟨H3,I3,q'⟩
 | true=>
  refine ite_tt (test_last (thn (hc pins s3 σ H3 _ I3 q3) λw' s4 ⟨z',H4,I4,r4,q4⟩=>thn (ho' pins s4 σ H4 y z' u w' _ I4 r2 r4 q4) λd' s5 ⟨z2,H5,I5,r5,k2,e2,q5⟩=> ?_))
  subst e2
  cases r5
  exact wpAny_truthy_bool ⟨H5,I5,q5⟩
def TruV(K:PySem.W.Frag)(x:V)(H:Hp)(k:Bool): Prop:=
 match x with
 | .non=>k=false
 | .bl b=>k=b
 | .int i=>k=(i != 0)
 | .str y=>y.length≤sizeLine∧k=((y.length:Int) != 0)
 | .byt y=>y.size≤sizeLine∧k=((y.size:Int) != 0)
 | .ref p=>(∃xs,SqL K H p xs∧k = !xs.isEmpty)∨(∃xs,SqT K H p xs∧k = !xs.isEmpty)∨∃kvs,H p=some (.dK kvs)∧k = !kvs.isEmpty
 | _=>False
theorem isEmpty_kv{κ:Type}{kvs:List (κ×V)}{vs:List (κ×Value)}(r:KV kvs vs): (!vs.isEmpty) = !kvs.isEmpty:=by
 cases r<;>rfl
theorem isEmpty_of{xs:List V}{its:List Value}(r:Vals xs its): (!its.toArray.isEmpty) = !xs.isEmpty:=by
 cases r<;>simp
theorem line63:(sizeLine:Nat)<2^63:=by rw[sizeLine_eq];decide
theorem tru_ok:TruR X (λx H Q=>∃k,TruV X.K x H k∧Q k H):=by
 intro pins s σ H x v Q I rx h
 obtain⟨k,e,q⟩:=h
 have hl:=line63
 have hs:sizeLine=16777216:=sizeLine_eq
 cases x with
 | non=>
  cases rx
  have e':k=false:=e
  subst e'
  exact truthy_none ⟨H,I,q⟩
 | bl b=>
  cases rx
  have e':k=b:=e
  subst e'
  exact wpAny_truthy_bool ⟨H,I,q⟩
 | int i=>
  obtain⟨t,rfl⟩:=rx
  have e':k=(i != 0):=e
  subst e'
  exact PySem.P.truthy_int ⟨H,I,q⟩
 | str y=>
  obtain⟨t,rfl⟩:=rx
  obtain⟨hy,e'⟩:y.length≤sizeLine∧k=((y.length:Int) != 0):=e
  subst e'
  exact PySem.P.truthy_str (by omega) ⟨H,I.tok _,q⟩
 | byt y=>
  obtain⟨t,rfl⟩:=rx
  obtain⟨hy,e'⟩:y.size≤sizeLine∧k=((y.size:Int) != 0):=e
  subst e'
  exact PySem.W.truthy_bytes (by omega) ⟨H,I.tok _,q⟩
 | ref p=>
  cases rx
  have e':(∃xs,SqL X.K H p xs∧k = !xs.isEmpty)∨(∃xs,SqT X.K H p xs∧k = !xs.isEmpty)∨∃kvs,H p=some (.dK kvs)∧k = !kvs.isEmpty:=e
  rcases e' with⟨xs,hx,e'⟩|⟨xs,hx,e'⟩|⟨kvs,hx,e'⟩
  ·subst e'
   obtain⟨its,r,pl,hz⟩:=I.list hx
   have hlen:=r.length
   exact wpAny_truthy_list pl.isList (by simp only[List.size_toArray];omega) ⟨H,I.tok _,by rw[isEmpty_of r];exact q⟩
  ·subst e'
   obtain⟨its,r,pl,hz⟩:=I.tuple hx
   have hlen:=r.length
   exact truthy_tuple pl (by simp only[List.size_toArray];omega) ⟨H,I.tok _,by rw[isEmpty_of r];exact q⟩
  ·subst e'
   obtain⟨hz,hS,vs,r,m⟩:kvs.length≤sizeLine∧(p==sysModules)=false∧∃vs,KV kvs vs∧s.heap.DictOf (mixKind X.prog X.w) p vs:=I.hok p _ hx
   have hlen:kvs.length=vs.length:=Paired.length r
   exact wpAny_truthy_dict hS m (by omega) ⟨H,I.tok _,by rw[isEmpty_kv r];exact q⟩
 | _=>exact(show False from e).elim
theorem vals1{x:V}{us:List Value}(r:Vals [x] us): ∃u,us=[u]∧RelV x u:=by
 cases r with
 | cons r1 r2=>cases r2;exact⟨_,rfl,r1⟩
theorem vals2{x y:V}{us:List Value}(r:Vals [x,y] us): ∃u w',us=[u,w']∧RelV x u∧RelV y w':=by
 cases r with
 | cons r1 r2=>
  cases r2 with
  | cons r3 r4=>cases r4;exact⟨_,_,rfl,r1,r3⟩
theorem call_abs:CallR X (.builtin "abs") (λxs H Q=>∃i,xs=[.int i]∧Q (.int (if i<0 then -i else i)) H):=by
 intro pins s σ H xs us Q I r h
 obtain⟨i,rfl,q⟩:=h
 obtain⟨u,rfl,t,rfl⟩:=vals1 r
 exact call_abs_int λu tk=>⟨.int (if i<0 then -i else i),H,I.tok _,⟨_,rfl⟩,q⟩
def LenV(K:PySem.W.Frag)(x:V)(H:Hp)(n:Nat): Prop:=
 match x with
 | .str y=>y.length≤sizeLine∧n=y.length
 | .byt y=>y.size≤sizeLine∧n=y.size
 | .ref p=>(∃xs,SqL K H p xs∧n=xs.length)∨∃xs,SqT K H p xs∧n=xs.length
 | _=>False
theorem call_len:CallR X (.builtin "len") (λxs H Q=>∃x n,xs=[x]∧LenV X.K x H n∧Q (.int n) H):=by
 intro pins s σ H xs us Q I r h
 obtain⟨x,n,rfl,e,q⟩:=h
 obtain⟨u,rfl,rx⟩:=vals1 r
 have hl:=line63
 have hs:sizeLine=16777216:=sizeLine_eq
 cases x with
 | str y=>
  obtain⟨t,rfl⟩:=rx
  obtain⟨hy,e'⟩:y.length≤sizeLine∧n=y.length:=e
  subst e'
  exact len_str (by omega) ⟨.int _,H,I.tok _,⟨_,rfl⟩,q⟩
 | byt y=>
  obtain⟨t,rfl⟩:=rx
  obtain⟨hy,e'⟩:y.size≤sizeLine∧n=y.size:=e
  subst e'
  exact PySem.W.len_bytes (by omega) ⟨.int _,H,I.tok _,⟨_,rfl⟩,q⟩
 | ref p=>
  cases rx
  have e':(∃xs,SqL X.K H p xs∧n=xs.length)∨∃xs,SqT X.K H p xs∧n=xs.length:=e
  rcases e' with⟨xs,hx,e'⟩|⟨xs,hx,e'⟩
  ·subst e'
   obtain⟨its,r',pl,hz⟩:=I.list hx
   have hlen:=r'.length
   exact Calls.call_len_list pl.isList (by simp only[List.size_toArray];omega) ⟨.int xs.length,H,I.tok _,⟨_,by simp only[List.size_toArray];rw[hlen]⟩,q⟩
  ·subst e'
   obtain⟨its,r',pl,hz⟩:=I.tuple hx
   have hlen:=r'.length
   exact len_tuple pl (by simp only[List.size_toArray];omega) ⟨.int xs.length,H,I.tok _,⟨_,by simp only[List.size_toArray];rw[hlen]⟩,q⟩
 | _=>exact(show False from e).elim
end
end L2
namespace L2
open PySem PySem.Spec PyProof.Rows
structure ObjM(h:Heap)(x dx C:Addr)(mA:Str→Option Value): Prop where
 obj:h.get? x=some (PySem.W.instObj C dx)
 ns:h.Ns1 dx mA
 ne:dx≠x
theorem lookIn_ns{h:Heap}{dx:Addr}{mA:Str→Option Value}(n:h.Ns1 dx mA): ∃od,h.get? dx=some od∧∀name,PySem.W.lookIn name od=some (mA name):=by
 obtain⟨o,es,ep,ho,hd,hk,_,hm⟩:=n
 refine⟨o,ho,λname=> ?_⟩
 have e:=hm name
 unfold nsFind findBy at e
 rw[← Array.find?_toList]at e
 unfold PySem.W.lookIn
 rw[hd]
 dsimp only
 split
 ·rename_i y q
  rw[q]at e
  exact congrArg some e
 ·rename_i q
  rw[q]at e
  have a:es.toList.any (·.refKey)=false:=by
   rw[List.any_eq_false]
   intro y hy
   obtain⟨z,t,hkey⟩:=hk y (Array.mem_toList_iff.mp hy)
   simp[DictEntry.refKey,hkey]
  have a':¬es.toList.any (·.refKey)=true:=by rw[a];exact Bool.false_ne_true
  rw[if_neg a']
  exact congrArg some e
theorem ObjM.look{h:Heap}{x dx C:Addr}{mA:Str→Option Value}(I:ObjM h x dx C mA): ∃od,PySem.W.InstAt h x (PySem.W.instObj C dx) C (some od)∧∀name,PySem.W.lookIn name od=some (mA name):=
 let ⟨od,ho,hl⟩:=lookIn_ns I.ns
 ⟨od,⟨I.obj,rfl,rfl,ho⟩,hl⟩
section
variable {prog : Program} {w : World} {A : Around} {E : Value → Shared → Prop} {s : Shared} {K : PySem.W.Frag} {x dx C f : Addr} {mA : Str → Option Value} {name : Str} {v : Value}
end
section
variable {P : Program} {w : World} {H H' : Hp} {h h' : Heap} {a C dx : Addr} {fs fs' : List (Str × V)}
theorem ins_get(hok:HOk P w H h)(e:H a=some (.ins C dx fs)): ∃mA,ObjM h a dx C mA∧(∀f,RelO (fs.lookup f) (mA f))∧PySem.Within mA (fs.map (·.1))∧fs.length≤1000∧H dx=some (.own a):=by
 obtain⟨d,z,ne,ob,mA,n,r,q⟩:=(show ObjOk P w H h a (.ins C dx fs)from hok a _ e)
 exact⟨mA,⟨ob,n,ne⟩,r,q,z,d⟩
end
structure Cls(K:PySem.W.Frag)(C:Addr): Prop where
 pg:PySem.W.plainGet K C Str.empty=true
 hd:PySem.W.hasDictIn K C=true
 po:PySem.W.plainOver K C=true
 sa:PySem.W.findIn K (.ref C) "__setattr__"=some (some (.builtin "object.__setattr__"))
theorem Cls.get{K:PySem.W.Frag}{C:Addr}(c:Cls K C)(f:Str): PySem.W.plainGet K C f=true:=c.pg
section
variable {X : Cx} {pins : List (Addr × Obj)} {σ : St} {H : Hp} {s : Shared} {a C dx : Addr} {fs : List (Str × V)} {f : Str} {v : V} {A : Around} {E : Value → Shared → Prop}
end
section
variable {X : Cx} {o e value : Expr} {f : Str} {pos pos' tpos : Pos} {ta tv : TE}
end
section
variable {X : Cx} {pins : List (Addr × Obj)} {σ : St} {H : Hp} {s : Shared} {A : Around} {E : Value → Shared → Prop} {Q : Value → Shared → Prop} {c : Value} {b : Bool}
inductive TyOf(K:PySem.W.Frag)(H:Hp): V→Value→Prop where
 | non:TyOf K H .non (.type "NoneType")
 | bl (x:Bool):TyOf K H (.bl x) (.type "bool")
 | int (i:Int):TyOf K H (.int i) (.type "int")
 | str (x:Str):TyOf K H (.str x) (.type "str")
 | flt (x:UInt64):TyOf K H (.flt x) (.type "float")
 | lst {a:Addr} {xs:List V} (e:H a=some (.lst xs)):TyOf K H (.ref a) (.type "list")
 | frz {a:Addr} {o:Obj} {xs:List V} (e:H a=some (.frz o (.lst xs))):TyOf K H (.ref a) (.type "list")
 | tup {a:Addr} {xs:List V} (e:H a=some (.tup xs)):TyOf K H (.ref a) (.type "tuple")
 | dK {a:Addr} {kvs:List (Key×V)} (e:H a=some (.dK kvs)):TyOf K H (.ref a) (.type "dict")
 | dT {a:Addr} {kvs:List (List Key×V)} (e:H a=some (.dT kvs)):TyOf K H (.ref a) (.type "dict")
 | ins {a C dx:Addr} {fs:List (Str×V)} (e:H a=some (.ins C dx fs)) (cl:Cls K C) (ha:PySem.W.findIn K (.ref C) "__class__"=some (some (.builtin "object.__class__")))
  (hn:PySem.W.specialIn K (.builtin "object.__class__") "__get__"=some (some (.builtin "getset_descriptor.__get__"))) (htk:PySem.W.takesIn K (.builtin "object.__class__")=some true)
  (hm:PySem.W.mroIn K C (.type "object")=some true):TyOf K H (.ref a) (.ref C)
theorem isinst_ok{x:V}{u t:Value}(I:Inv X pins σ H s)(rx:RelV x u)(ty:TyOf X.K H x t)(e:PySem.W.kitOne X.K t c=some b)(h:∀tk,Q (.bool b) { s with toks:=tk }):
  wpAny (model X.prog X.w) A (call (.builtin "isinstance") [u,c]) Q E s:=by
 cases ty with
 | non=>cases(show u=Value.none from rx);exact PySem.W.kia_one PySem.W.kitx_none I.kIn True.intro e (λz=>nomatch z) h
 | bl y=>cases(show u=Value.bool y from rx);exact PySem.W.kia_one PySem.W.kitx_bool I.kIn True.intro e (λz=>nomatch z) h
 | int i=>obtain⟨t,q⟩:=(show ∃t,u=Value.int i t from rx);cases q;exact PySem.W.kia_one PySem.W.kitx_int I.kIn True.intro e (λz=>nomatch z) h
 | str y=>obtain⟨t,q⟩:=(show ∃t,u=Value.str y t from rx);cases q;exact PySem.W.kia_one PySem.W.kitx_str I.kIn True.intro e (λz=>nomatch z) h
 | flt y=>obtain⟨t,q⟩:=(show ∃t,u=Value.float y t from rx);cases q;exact PySem.W.kia_one PySem.W.kitx_float I.kIn True.intro e (λz=>nomatch z) h
 | @lst a xs ea=>
  cases(show u=Value.ref a from rx)
  obtain⟨_,_,n,_,h1⟩:=(show ObjOk X.prog X.w H s.heap a (.lst xs)from I.hok a _ ea)
  exact PySem.W.kia_one PySem.W.kitx_list I.kIn ⟨_,h1,rfl⟩ e (λz=>nomatch z) h
 | @frz a ob xs ea=>
  cases(show u=Value.ref a from rx)
  obtain⟨_,_,_,n,_,h1⟩:=(show ObjOk X.prog X.w H s.heap a (.frz ob (.lst xs))from I.hok a _ ea)
  exact PySem.W.kia_one PySem.W.kitx_list I.kIn ⟨_,h1,rfl⟩ e (λz=>nomatch z) h
 | @tup a xs ea=>
  cases(show u=Value.ref a from rx)
  obtain⟨_,_,_,p⟩:=(show ObjOk X.prog X.w H s.heap a (.tup xs)from I.hok a _ ea)
  obtain⟨o,h1,h2,_⟩:=p
  exact PySem.W.kia_one PySem.W.kitx_tuple I.kIn ⟨o,h1,h2⟩ e (λz=>nomatch z) h
 | @dK a kvs ea=>
  cases(show u=Value.ref a from rx)
  obtain⟨_,_,vs,_,p⟩:=(show ObjOk X.prog X.w H s.heap a (.dK kvs)from I.hok a _ ea)
  obtain⟨o,es,ep,h1,h2,_⟩:=p
  exact PySem.W.kia_one PySem.W.kitx_dict I.kIn ⟨o,h1,h2.1⟩ e (λz=>nomatch z) h
 | @dT a kvs ea=>
  cases(show u=Value.ref a from rx)
  obtain⟨_,_,xs,_,o,es,ep,h1,h2,_⟩:=(show ObjOk X.prog X.w H s.heap a (.dT kvs)from I.hok a _ ea)
  exact PySem.W.kia_one PySem.W.kitx_dict I.kIn ⟨o,h1,h2.1⟩ e (λz=>nomatch z) h
 | @ins a C dx fs ea cl ha hn htk hm=>
  cases(show u=Value.ref a from rx)
  obtain⟨mA,O,_⟩:=ins_get I.hok ea
  obtain⟨od,J,_⟩:=O.look
  exact PySem.W.kia_one (PySem.W.kitx_own (cl.get _) cl.hd ha hn htk hm) I.kIn J e (λz=>nomatch z) h
end
end L2
namespace L2
open PySem PySem.Spec PyProof.Rows
structure Room(k:Nat)(A:Around): Prop where
 hd:A.handled=none
 dp:A.depth+3*k+5<recursionLimit
 un:A.units+16*k+200<cLine
theorem Room.mono{j k:Nat}{A:Around}(r:Room k A)(h:j≤k): Room j A:=⟨r.hd,by have:=r.dp;omega,by have:=r.un;omega⟩
theorem Room.m{j k:Nat}{A:Around}(r:Room k A)(h:j≤k:=by decide):Room j A:=r.mono h
theorem Room.deeper{k:Nat}{A:Around}(r:Room (k+1) A)(env:Env): Room k (A.deeper env):=
 ⟨r.hd,by have:=r.dp;show A.depth+1+3*k+5<_;omega,by have:=r.un;show A.units+3+16*k+200<_;omega⟩
theorem Room.depth{k:Nat}{A:Around}(r:Room k A): A.depth<recursionLimit:=by have:=r.dp;omega
theorem Room.units{k:Nat}{A:Around}(r:Room k A): A.units+64<cLine:=by have:=r.un;omega
def tNil:TA:=λ_ H Q=>Q [] H
def tCons(ta:TE)(tr:TA): TA:=λσ H Q=>ta σ H λx H1=>tr σ H1 λxs H2=>Q (x::xs) H2
section
variable {X : Cx} {e : Expr} {es : List Expr} {te : TE} {t : TA} {pos : Pos}
theorem pa_nil:PA X [] tNil:=λ_ _ _ _ H Q I h=>Calls.spliced_nil ⟨[],H,I,.nil,h⟩
theorem pa_cons(ha:PE X e te)(hr:PA X es t)(hs:starEach (e::es) X.env=(false,eval e X.env)::starEach es X.env:=by rfl): PA X (e::es) (tCons te t):=by
 intro pos pins s σ H Q I h
 rw[hs]
 show wpAny _ _ (spliced ((false,eval e X.env)::backTo pos (starEach es X.env))) _ _ s
 refine Calls.spliced_cons (thn (ha pins s σ H _ I h) λu s1 ⟨x,H1,I1,r1,q1⟩=> ?_)
 exact thn (hr pos pins s1 σ H1 _ I1 q1) λus s2 ⟨xs,H2,I2,r2,q2⟩=>⟨x::xs,H2,I2,.cons r1 r2,q2⟩
def tTup(t:TA): TE:=λσ H Q=>t σ H λxs H1=>xs.length≤sizeLine∧∀p,H1 p=none→Q (.ref p) (upd H1 p (.tup xs))
def tLst(t:TA): TE:=λσ H Q=>t σ H λxs H1=>xs.length≤sizeLine∧∀p,H1 p=none→Q (.ref p) (upd H1 p (.lst xs))
theorem pe_tup{x1}(h:PA X es t): PE X (.Tuple es x1 pos) (tTup t):=by
 intro pins s σ H Q I hq
 refine wpAny_Tuple_spliced (thn (h pos pins s σ H _ I hq) λus s1 ⟨xs,H1,I1,r,z,q⟩=>⟨by rw[← r.length];exact z,?_⟩)
 have hf:H1 s1.heap.objs.size=none:=I1.hok.fresh (Nat.le_refl _)
 refine⟨.ref s1.heap.objs.size,upd H1 s1.heap.objs.size (.tup xs),I1.laid (t':=s1.toks) (λb u e=>Heap.get?_push_of_some _ e) (Nat.le_refl _) ?_,rfl,q _ hf⟩
 exact⟨z,us,r,⟨_,Heap.get?_push_size _ rfl,rfl,_,rfl⟩⟩
theorem pe_lst(h:PA X es t): PE X (.List es pos) (tLst t):=by
 intro pins s σ H Q I hq
 refine wpAny_List_spliced (thn (h pos pins s σ H _ I hq) λus s1 ⟨xs,H1,I1,r,z,q⟩=>⟨by rw[← r.length];exact z,?_⟩)
 have hf:H1 s1.heap.objs.size=none:=I1.hok.fresh (Nat.le_refl _)
 refine⟨.ref s1.heap.objs.size,upd H1 s1.heap.objs.size (.lst xs),I1.laid (t':=s1.toks) (λb u e=>Heap.get?_push_of_some _ e) (Nat.le_refl _) ?_,rfl,q _ hf⟩
 exact⟨z,us,0,r,Heap.get?_push_size _ rfl⟩
end
abbrev Sp:=List V→Hp→VK→XK→Prop
abbrev CXT:=List Env→Hp→Shared→XK→Value→Shared→Prop
structure Env0(P:Program)(w:World)(K:PySem.W.Frag)(mg:Str→Option Value)(base:Heap)(A:Around)(outer:List Env)(s:Shared)(H:Hp): Prop where
 frames:A.frames=some outer
 mod:Mod K mg base
 bs:∀b o,base.get? b=some o→s.heap.get? b=some o∧H b=none
 bsz:base.objs.size≤s.heap.objs.size
 funs:s.heap.FunFrames base outer
 frf:∀b∈frs outer,H b=none
 hok:HOk P w H s.heap
 bare:AllBare s.gens
def CE(outer:List Env)(P:Program)(w:World)(H:Hp)(s:Shared)(Q:VK)(u:Value)(s':Shared): Prop:=
 ∃v H',s'.os=s.os∧AllBare s'.gens∧Un (frs outer) [] H H' s.heap s'.heap∧HOk P w H' s'.heap∧RelV v u∧Q v H'
def CR(CX:CXT)(outer:List Env)(P:Program)(w:World)(H:Hp)(s:Shared)(Q:VK)(E:XK)(r:Result)(s':Shared): Prop:=
 match r with
 | .ok (.ret u)=>CE outer P w H s Q u s'
 | .ok _=>False
 | .error e=>CX outer H s E e s'
structure FnOk(P:Program)(w:World)(K:PySem.W.Frag)(mg:Str→Option Value)(base:Heap)(CX:CXT)(k:Nat)(f:Addr)(fd:FuncData)(ps:List Str)(sp:Sp): Prop where
 len:∀vs H Q E,sp vs H Q E→vs.length=ps.length
 run:∀(A:Around) (outer:List Env) (s:Shared) (H:Hp) (args:Args) (us:List Value) (vs:List V) (Q:VK) (E:XK),Room k A→Env0 P w K mg base A outer s H→BindsTo s fd args (ps.zip us)→Vals vs us→sp vs H Q E→
  codeAny (model P w) A (.call (.ref f) args) (CR CX outer P w H s Q E) s
section
variable {X : Cx} {pins : List (Addr × Obj)} {σ : St} {H : Hp} {s s' : Shared}
theorem Inv.env0(I:Inv X pins σ H s): Env0 X.prog X.w X.K X.mg X.base X.A X.stack s H:=
 ⟨I.ok.frames,I.ok.mod,I.bs,Nat.le_trans I.ok.bsz I.sz,I.stack,I.stkFree,I.hok,I.bare⟩
theorem Inv.after{Q:VK}{u:Value}(I:Inv X pins σ H s)(h:CE X.stack X.prog X.w H s Q u s'): EP X pins σ Q u s':=by
 obtain⟨v,H',os,bare,un,hok,r,q⟩:=h
 obtain⟨hh,g,d,t,os'⟩:=s'
 obtain rfl:os'=s.os:=os
 exact⟨v,H',I.call (h':=hh) (g':=g) (d':=d) (t':=t) (ch:=[]) un hok bare (λb z=>absurd z (by simp)),r,q⟩
end
def tCall(sp:Sp)(dvs:List V)(E:XK)(t:TA): TE:=λσ H Q=>t σ H λvs H1=>sp (vs++dvs) H1 Q E
def Binds(K:PySem.W.Frag)(fd:FuncData)(ps:List Str)(ds:List Value): Prop:=
 ∀(s:Shared) (us:List Value),K.In s.heap→(us++ds).length=ps.length→BindsTo s fd ⟨us,[]⟩ (ps.zip (us++ds))
theorem Binds.all{K:PySem.W.Frag}{fd:FuncData}{ps:List Str}(h:∀us:List Value,us.length=ps.length→bindArgs fd ⟨us,[]⟩=pure (ps.zip us)): Binds K fd ps []:=λs us _ hl=>by
 rw[List.append_nil]at hl ⊢
 exact .of_eq (h us hl)
def Passes(CX:CXT)(X:Cx)(E:XK): Prop:=∀(pins:List (Addr×Obj)) (σ:St) (H:Hp) (s:Shared) (e:Value) (s':Shared),Inv X pins σ H s→CX X.stack H s E e s'→X.xe e s'
section
variable {X : Cx} {CX : CXT} {k : Nat} {f C : Addr} {fd : FuncData} {ps : List Str} {sp : Sp} {dvs : List V} {ds : List Value} {E : XK} {x m : Str} {p pos apos : Pos} {e o : Expr} {es : List Expr} {ta : TE} {t : TA}
theorem run_fn{pins:List (Addr×Obj)}{σ:St}{H:Hp}{s:Shared}{Q:VK}{us:List Value}{vs:List V}(F:FnOk X.prog X.w X.K X.mg X.base CX k f fd ps sp)(hr:Room k X.A)(hb:Binds X.K fd ps ds)(hd:Vals dvs ds)(hx:Passes CX X E)
  (I:Inv X pins σ H s) (r:Vals vs us) (h:sp (vs++dvs) H Q E):wpAny (model X.prog X.w) X.A (call (.ref f) us) (EP X pins σ Q) X.xe s:=by
 have r2:Vals (vs++dvs) (us++ds):=r.append hd
 have hl:(us++ds).length=ps.length:=by rw[← r2.length];exact F.len _ _ _ _ h
 refine wpAny_call (codeAny_mono (F.run X.A X.stack s H ⟨us,[]⟩ (us++ds) (vs++dvs) Q E hr I.env0 (hb s us I.kIn hl) r2 h) λr s' hq=> ?_)
 cases r with
 | error e=>exact hx pins σ H s e s' I hq
 | ok fl=>
  cases fl with
  | ret u=>exact I.after hq
  | next=>exact False.elim hq
  | brk=>exact False.elim hq
  | cont=>exact False.elim hq
theorem pe_call(F:FnOk X.prog X.w X.K X.mg X.base CX k f fd ps sp)(hr:Room k X.A)(hg:Gl X x)(hm:X.mg x=some (.ref f))(hk:PySem.W.keepIn X.K (.ref f)=true)(hb:Binds X.K fd ps ds)(hd:Vals dvs ds)(hx:Passes CX X E)
  (ha:PA X (e::es) t) (hdb:(x==("__debug__": Str))=false:=by decide) (he:starEach (e::es) X.env=(false,eval e X.env)::starEach es X.env:=by rfl) (hpl:(backTo pos (starEach es X.env)).any (·.1)=false:=by rfl) :
  PE X (.Call (.Name x p) (e::es) [] pos) (tCall sp dvs E t):=by
 intro pins s σ H Q I h
 refine wpAny_Call_Name_kw (ld_glob I hg hm ?_ hdb)
 refine PySem.W.callWith_K (h₀:=X.base) I.ok.mod.kin hk (thn (ha pos pins s σ H _ I h) λus s1 ⟨vs,H1,I1,r,q⟩=>⟨I1.kIn,?_⟩) he hpl
 exact run_fn F hr hb hd hx I1 r q
end
section
variable {X : Cx} {CX : CXT} {k : Nat} {f C : Addr} {fd : FuncData} {ps ks : List Str} {sp : Sp} {E : XK} {x m : Str} {p pos apos kpos : Pos} {e o : Expr} {es : List Expr} {kws : List Keyword} {te ta : TE} {t tk : TA} {nm : Option Str}
variable {g : List Value → List Value → List Value} {gV : List V → List V → List V}
end
structure FnScope(N P:List Str)(sc:Scope): Prop where
 kind:sc.kind = .function
 co:sc.isCoroutine=false
 gen:sc.isGenerator=false
 nd:N.Nodup
 pre:N.take P.length=P
 par:∀x∈P,sc.names.lookup x=some .local∨sc.names.lookup x=some .cell
 nofree:∀y∈sc.names,y.2≠.free
theorem bindL_out{kindOf:Str→Option NameKind}{x:Str}: ∀ {binds:List (Str×Value)} {m:Str→Option Value},(∀v,(x,v)∉binds)→bindL kindOf binds m x=m x
 | [],_,_=>rfl
 | (n,v)::r,m,h=>by
  unfold bindL
  rw[bindL_out λw hw=>h w (List.mem_cons_of_mem _ hw)]
  split
  ·have:x≠n:=by rintro rfl;exact h v List.mem_cons_self
   simp[this]
  ·rfl
theorem bindC_out{kindOf:Str→Option NameKind}{x:Str}: ∀ {binds:List (Str×Value)} {m:Str→Option Value},(∀v,(x,v)∉binds)→bindC kindOf binds m x=m x
 | [],_,_=>rfl
 | (n,v)::r,m,h=>by
  unfold bindC
  rw[bindC_out λw hw=>h w (List.mem_cons_of_mem _ hw)]
  split
  ·rfl
  ·have:x≠n:=by rintro rfl;exact h v List.mem_cons_self
   simp[this]
theorem bindL_get{kindOf:Str→Option NameKind}{x:Str}{v:Value}: ∀ {P:List Str} {vs:List Value} {i:Nat} {m:Str→Option Value},P.Nodup→P[i]?=some x→vs[i]?=some v→kindOf x=some .local→
  bindL kindOf (P.zip vs) m x=some v
 | [],_,_,_,_,h,_,_=>by simp at h
 | _::_,[],_,_,_,_,h,_=>by simp at h
 | p::P,w::vs,0,m,nd,h1,h2,hk=>by
  simp at h1 h2;subst h1;subst h2
  show bindL kindOf ((p,w)::P.zip vs) m p=_
  unfold bindL
  rw[bindL_out λv hv=>(List.nodup_cons.mp nd).1 (List.of_mem_zip hv).1,if_pos hk]
  simp
 | p::P,w::vs,i+1,m,nd,h1,h2,hk=>by
  show bindL kindOf ((p,w)::P.zip vs) m x=_
  unfold bindL
  exact bindL_get (i:=i) (List.nodup_cons.mp nd).2 (by simpa using h1) (by simpa using h2) hk
theorem bindC_get{kindOf:Str→Option NameKind}{x:Str}{v:Value}: ∀ {P:List Str} {vs:List Value} {i:Nat} {m:Str→Option Value},P.Nodup→P[i]?=some x→vs[i]?=some v→kindOf x≠some .local→
  bindC kindOf (P.zip vs) m x=some v
 | [],_,_,_,_,h,_,_=>by simp at h
 | _::_,[],_,_,_,_,h,_=>by simp at h
 | p::P,w::vs,0,m,nd,h1,h2,hk=>by
  simp at h1 h2;subst h1;subst h2
  show bindC kindOf ((p,w)::P.zip vs) m p=_
  unfold bindC
  rw[bindC_out λv hv=>(List.nodup_cons.mp nd).1 (List.of_mem_zip hv).1,if_neg hk]
  simp
 | p::P,w::vs,i+1,m,nd,h1,h2,hk=>by
  show bindC kindOf ((p,w)::P.zip vs) m x=_
  unfold bindC
  exact bindC_get (i:=i) (List.nodup_cons.mp nd).2 (by simpa using h1) (by simpa using h2) hk
def start(N:List Str)(vs:List V): St:=vs.map some++List.replicate (N.length-vs.length) none
def cxOf(CX:CXT)(P:Program)(w:World)(K:PySem.W.Frag)(mg:Str→Option Value)(base:Heap)(N:List Str)(qual:Str)(scope:Scope)(f:Addr)(cd:Value)(A:Around)(outer:List Env)(s:Shared)(H:Hp)(E:XK): Cx where
 prog:=P
 w:=w
 K:=K
 mg:=mg
 base:=base
 A:=A.deeper (envOfC qual scope s.heap.objs.size f cd)
 N:=N
 s₀:=s
 H₀:=H
 env:=envOfC qual scope s.heap.objs.size f cd
 outer:=outer
 stack:=envOfC qual scope s.heap.objs.size f cd::outer
 ex:=[]
 calm:=true
 fn:=λ_=>true
 pn:=[]
 xe:=λe s'=>wpAny (model P w) (A.deeper (envOfC qual scope s.heap.objs.size f cd)) (leaving (envOfC qual scope s.heap.objs.size f cd) e) (λ_ s''=>CX outer H s E e s'') (λe' s''=>CX outer H s E e' s'') s'
theorem cell_has{sc:Scope}{n:Nat}{x:Str}(h:sc.names.lookup x=some .cell): ∃c,(cellsFrom n sc.names []).lookup x=some c:=by
 have q:=PySem.W.cellsFrom_some sc.names n [] (.inl h)
 exact Option.isSome_iff_exists.mp q
theorem inv_start{CX:CXT}{P:Program}{w:World}{K:PySem.W.Frag}{mg:Str→Option Value}{base:Heap}{N ps:List Str}{qual:Str}{scope:Scope}{f:Addr}{cd:Value}{A:Around}{outer:List Env}{s s1:Shared}{H:Hp}{E:XK}{us:List Value}{vs:List V}
  (S:FnScope N ps scope) (hd:A.handled=none) (e0:Env0 P w K mg base A outer s H) (hl:vs.length=ps.length) (r:Vals vs us)
  (x:InCallC s s.heap.objs.size (bindL (envOfC qual scope s.heap.objs.size f cd).kindOf (ps.zip us) λ_=>none) (cellsFrom (s.heap.objs.size+1) scope.names []) (bindC (envOfC qual scope s.heap.objs.size f cd).kindOf (ps.zip us) λ_=>none) s1) :
  Inv (cxOf CX P w K mg base N qual scope f cd A outer s H E) [] (start N vs) H s1:=by
 have hpl:ps.length≤N.length:=by have:=congrArg List.length S.pre;rw[List.length_take]at this;omega
 obtain⟨h1,tk,rfl,hk⟩:=x.done
 have noA:∀b:Addr,b∉(cxOf CX P w K mg base N qual scope f cd A outer s H E).ex:=λb z=>absurd (show b∈([]:List Addr)from z) (by simp)
 refine⟨⟨e0.mod,S.kind,rfl,rfl,Nat.le_refl _,λy z c h1 h2=> ?_,λy hy=> ?_,λy c _ h=> ?_,λ_=>hd,Around.frames_deeper e0.frames,.inr ⟨rfl,rfl⟩,λb z=>absurd z (noA b),e0.bs,e0.bsz,λb _ _=>noA b,λb z=>absurd z (noA b),e0.funs,e0.frf⟩,
  rfl,e0.bare,Un.kept hk,⟨_,x.toInCall.ns,λi y v h1 h2 h3=> ?_⟩,λy c h=>⟨_,x.cell y c h⟩,e0.hok.fresh (Nat.le_refl _),λy c h=> ?_,λp hp=>absurd (show p∈([]:List (Addr×Obj))from hp) (by simp),e0.hok.kept hk,?_⟩
 ·exact name_of_addr x.apart (PySem.mem_of_lookup h1) (PySem.mem_of_lookup h2)
 ·have hy:scope.names.lookup y=some .cell∨scope.names.lookup y=some .free:=hy
  rcases hy with hy|hy
  ·exact cell_has hy
  ·exact absurd rfl (S.nofree _ (PySem.mem_of_lookup hy))
 ·exact Nat.le_of_lt (x.above y c (PySem.mem_of_lookup h))
 ·have hi:i<vs.length:=by
   unfold start at h2
   by_cases hi:i<vs.length
   ·exact hi
   ·rw[List.getElem?_append_right (by simpa using hi)]at h2
    rw[List.getElem?_replicate]at h2
    split at h2<;>cases h2
  have ha:vs[i]?=some v:=by
   unfold start at h2
   rw[List.getElem?_append_left (by simpa using hi),List.getElem?_map]at h2
   cases e:vs[i]? with
   | none=>rw[e]at h2;cases h2
   | some a=>rw[e]at h2;cases h2;rfl
  obtain⟨u,hu,rv⟩:=r.get ha
  have hp:ps[i]?=some y:=by
   rw[← S.pre,List.getElem?_take_of_lt (by omega)];exact h1
  have ndP:ps.Nodup:=by rw[← S.pre];exact S.nd.sublist (List.take_sublist _ _)
  refine⟨u,rv,?_⟩
  rcases S.par y (List.mem_of_getElem? hp)with k|k
  ·exact .inl ⟨k,bindL_get ndP hp hu k⟩
  ·obtain⟨c,e⟩:=cell_has (n:=s.heap.objs.size+1) k
   refine .inr ⟨.inl k,c,e,?_⟩
   have q:=x.cell y c e
   rw[bindC_get ndP hp hu (by show scope.names.lookup y≠_;rw[k];decide)]at q
   exact q
 ·exact e0.hok.fresh (Nat.le_of_lt (x.above y c (PySem.mem_of_lookup h)))
 ·unfold start
  show _=N.length
  rw[List.length_append,List.length_map,List.length_replicate]
  omega
theorem fn_of{CX:CXT}{P:Program}{w:World}{K:PySem.W.Frag}{mg:Str→Option Value}{base:Heap}{k:Nat}{f:Addr}{name qual:Str}{params:Arguments}{body:List Stmt}{scope:Scope}{dV kV doc pm cdv ct oc:Value}{an od:Option Addr}
  {osl:Array (Option Value)} {N ps:List Str} {sp:Sp} (lk:K.lookup f=some ⟨oc,od,.func (PySem.W.fnOf name qual params body scope dV kV doc pm an cdv ct),osl⟩) (hcd:PySem.W.codeIn K cdv qual=true) (S:FnScope N ps scope)
  (len:∀vs H Q E,sp vs H Q E→vs.length=ps.length)
  (hbody:∀(A:Around) (outer:List Env) (s:Shared) (H:Hp) (vs:List V) (Q:VK) (E:XK),Room k (A.deeper (envOfC qual scope s.heap.objs.size f cdv))→sp vs H Q E→
   ∃t,PSs (cxOf CX P w K mg base N qual scope f cdv A outer s H E) body t∧t { nx:=λ_ H'=>Q .non H',rt:=Q } (start N vs) H) :
  FnOk P w K mg base CX (k+1) f (PySem.W.fnOf name qual params body scope dV kV doc pm an cdv ct) ps sp:=by
 refine⟨len,λA outer s H args us vs Q E hr e0 hb r hsp=> ?_⟩
 have hl:=len _ _ _ _ hsp
 have KX:K.In s.heap:=e0.mod.kin.keeps λb o e=>(e0.bs b o e).1
 have lim:s.heap.NoLimit:=e0.mod.nolimit.keeps λb o e=>(e0.bs b o e).1
 have hkind:∀y∈ps.zip us,scope.names.lookup y.1=some .local∨(scope.names.lookup y.1=some .cell∧((cellsFrom (s.heap.objs.size+1) scope.names []).lookup y.1).isSome=true):=λ⟨n,v⟩ hy=>by
  rcases S.par n (List.of_mem_zip hy).1 with q|q
  ·exact .inl q
  ·exact .inr ⟨q,PySem.W.cellsFrom_some _ _ _ (.inl q)⟩
 refine codeAny_call_function hr.depth (KX _ _ lk) rfl S.co S.gen rfl (PySem.W.codeRec_of KX hcd) (hb _ _ _ _ ?_)
 refine wpAny_newFunctionEnv_cells S.kind hkind λenv he s1 x=> ?_
 subst he
 refine⟨lim.keeps x.toInCall.keep,codeAny_func ?_⟩
 obtain⟨t,ht,hq⟩:=hbody A outer s H vs Q E (hr.deeper _) hsp
 have I:Inv (cxOf CX P w K mg base N qual scope f cdv A outer s H E) [] (start N vs) H s1:=inv_start S hr.hd e0 hl r x
 refine wpAny_mono (ht [] s1 (start N vs) H _ I hq) (λfl s' hs=> ?_) λe s' hs=>hs
 have fin:∀ {σ':St} {H':Hp} {v:V} {u:Value},Inv (cxOf CX P w K mg base N qual scope f cdv A outer s H E) [] σ' H' s'→RelV v u→Q v H'→CE outer P w H s Q u s':=
  λ{σ' H' v u} J rv q=>⟨v,H',J.os,J.bare,J.base,J.hok,rv,q⟩
 cases fl with
 | ret u=>
  obtain⟨v,σ',H',J,rv,q⟩:=hs
  exact fin J rv q
 | next=>
  obtain⟨σ',H',J,q⟩:=hs
  exact fin (v:=V.non) (u:=Value.none) J rfl q
 | brk=>
  obtain⟨_,_,_,q⟩:=hs
  exact False.elim q
 | cont=>
  obtain⟨_,_,_,q⟩:=hs
  exact False.elim q
end L2
namespace L2
open PySem PySem.Spec PyProof.Rows
section
variable {X : Cx} {x : Str} {p pos : Pos} {e : Expr} {es : List Expr} {t : TA} {id T : String} {r : List V → Hp → VK → Prop}
def tCB(r:List V→Hp→VK→Prop)(t:TA): TE:=λσ H Q=>t σ H λvs H1=>r vs H1 Q
theorem pe_callB(hc:CallR X (.builtin id) r)(hg:Gl X x)(hm:X.mg x=none)(hv:bootBuiltins x=some (.builtin id))(ha:PA X (e::es) t)(hn:x≠ "__name__":= by decide)(hdb:(x==("__debug__": Str))=false:=by decide)
  (he:starEach (e::es) X.env=(false,eval e X.env)::starEach es X.env:=by rfl) (hpl:(backTo pos (starEach es X.env)).any (·.1)=false:=by rfl):PE X (.Call (.Name x p) (e::es) [] pos) (tCB r t):=by
 intro pins s σ H Q I h
 refine wpAny_Call_Name_kw (ld_blt I hg hm hv ?_ hn hdb)
 exact PyProof.Rows.callWith_builtin1 (thn (ha pos pins s σ H _ I h) λus s1 ⟨vs,H1,I1,r1,q1⟩=>hc pins s1 σ H1 vs us Q I1 r1 q1) he hpl
theorem pe_callTy(hc:CallR X (.type T) r)(hg:Gl X x)(hm:X.mg x=none)(hv:bootBuiltins x=some (.type T))(ha:PA X (e::es) t)(hn:x≠ "__name__":= by decide)(hdb:(x==("__debug__": Str))=false:=by decide)
  (he:starEach (e::es) X.env=(false,eval e X.env)::starEach es X.env:=by rfl) (hpl:(backTo pos (starEach es X.env)).any (·.1)=false:=by rfl):PE X (.Call (.Name x p) (e::es) [] pos) (tCB r t):=by
 intro pins s σ H Q I h
 refine wpAny_Call_Name_kw (ld_blt I hg hm hv ?_ hn hdb)
 exact PyProof.Rows.callWith_type1 (thn (ha pos pins s σ H _ I h) λus s1 ⟨vs,H1,I1,r1,q1⟩=>hc pins s1 σ H1 vs us Q I1 r1 q1) he hpl
end
end L2
namespace HT
open PySem PyProof.Rows
section
open PySem.SeqAt
open PySem.AutoSeq1 (wpAny_loadPart')
open PySem.MeetsSeq PySem.MeetsSeq2 PySem.MeetsSeq3
end
section
variable {prog : Program} {w : World} {A : Around} {E : Value → Shared → Prop} {s : Shared}
def sIx(n d:Nat): Option Int→Nat
 | none=>d
 | some v=>if v<0 then(v+(n:Int)).toNat else min v.toNat n
end
end HT
namespace L2
open PySem PySem.Spec PyProof.Rows
section
variable {X : Cx} {e : Expr} {te : TE} {lo hi : Option Expr} {tl th : TO} {pos p2 : Pos}
def SlR(X:Cx)(r:V→Option Int→Option Int→Hp→VK→Prop): Prop:=
 ∀(pins:List (Addr×Obj)) (s:Shared) (σ:St) (H:Hp) (x:V) (v vl vu:Value) (lo hi:Option Int) (sl:Addr) (Q:VK),Inv X pins σ H s→RelV x v→s.heap.IsSliceOf sl vl vu .none→IsPart vl lo→IsPart vu hi→r x lo hi H Q→
  ∃T id,typeLookup (.type T) "__getitem__"=pure (some (.builtin id))∧s.TypeIs v T∧wpAny (model X.prog X.w) X.A (getItem v (.ref sl)) (EP X pins σ Q) X.xe s
def cutV(xs:List V)(lo hi:Option Int): List V:=(xs.drop (HT.sIx xs.length 0 lo)).take (HT.sIx xs.length xs.length hi-HT.sIx xs.length 0 lo)
theorem cutV_length(xs:List V)(lo hi:Option Int): (cutV xs lo hi).length≤xs.length:=by
 unfold cutV
 rw[List.length_take,List.length_drop]
 omega
end
end L2
namespace L2
open PySem PySem.Spec PyProof.Rows
def ixN(n:Nat)(i:Int): Option Nat:=if 0≤i then(if i<n then some i.toNat else none)else if -(n:Int)≤i then some (i+n).toNat else none
def atI{α:Type}(xs:List α)(i:Int): Option α:=(ixN xs.length i).bind λj=>xs[j]?
theorem ixN_seq{n:Nat}{i:Int}{j:Nat}(h:ixN n i=some j): seqIndex? i n=some j∧j<n∧-(n:Int)≤i∧i<n:=by
 unfold ixN at h
 by_cases h0:0≤i
 ·rw[if_pos h0]at h
  by_cases h1:i<n
  ·rw[if_pos h1]at h
   have e:i.toNat=j:=Option.some.inj h
   exact⟨by rw[seqIndex_of h0 h1,e],by omega,by omega,h1⟩
  ·rw[if_neg h1]at h;cases h
 ·rw[if_neg h0]at h
  by_cases h1:-(n:Int)≤i
  ·rw[if_pos h1]at h
   have e:(i+n).toNat=j:=Option.some.inj h
   exact⟨by rw[seqIndex_neg (by omega) h1,e],by omega,h1,by omega⟩
  ·rw[if_neg h1]at h;cases h
theorem atI_get{α:Type}{xs:List α}{i:Int}{v:α}(h:atI xs i=some v): ∃j,seqIndex? i xs.length=some j∧xs[j]?=some v∧j<xs.length∧-(xs.length:Int)≤i∧i<xs.length:=by
 unfold atI at h
 cases e:ixN xs.length i with
 | none=>rw[e]at h;cases h
 | some j=>
  rw[e]at h
  obtain⟨h1,h2,h3,h4⟩:=ixN_seq e
  exact⟨j,h1,h,h2,h3,h4⟩
theorem atI_nat{α:Type}{xs:List α}{j:Nat}{v:α}(h:xs[j]?=some v): atI xs (j:Int)=some v:=by
 have hj:j<xs.length:=(List.getElem?_eq_some_iff.mp h).1
 have e:ixN xs.length (j:Int)=some j:=by
  unfold ixN
  rw[if_pos (by omega),if_pos (by omega)];simp
 unfold atI;rw[e];exact h
def PlainIx(b:Expr): Prop:=∀o i,subscripted b false o i=operate [o,i] (getItem o i)
def IxR(X:Cx)(r:R2): Prop:=
 ∀(value slice:Expr) (pins:List (Addr×Obj)) (s:Shared) (σ:St) (H:Hp) (x y:V) (v u:Value) (Q:VK),Inv X pins σ H s→RelV x v→RelV y u→r x y H Q→
  subscripted slice false v u=operate [v,u] (getItem v u)→wpAny (model X.prog X.w) X.A (subscriptTail value slice v u) (EP X pins σ Q) X.xe s
def MtR(X:Cx)(id:String)(r:V→List V→Hp→VK→Prop): Prop:=
 ∀(pins:List (Addr×Obj)) (s:Shared) (σ:St) (H:Hp) (x:V) (xs:List V) (v:Value) (us:List Value) (Q:VK),Inv X pins σ H s→RelV x v→Vals xs us→r x xs H Q→
  wpAny (model X.prog X.w) X.A (call (.builtin id) (v::us)) (EP X pins σ Q) X.xe s
section
variable {X : Cx} {a b : Expr} {ta tb : TE} {pos : Pos}
theorem pe_ix{r:R2}(hr:IxR X r)(ha:PE X a ta)(hb:PE X b tb)(hs:PlainIx b): PE X (.Subscript a b pos) (tOp r ta tb):=by
 intro pins s σ H Q I h
 exact Subscript_ (binT ha hb I h λv u s2 x y H2 I2 rx ry q=>hr a b pins s2 σ H2 x y v u Q I2 rx ry q (hs _ _))
def rIxL(K:PySem.W.Frag): R2:=λx y H Q=>∃p xs i v,x = .ref p∧y = .int i∧SqL K H p xs∧atI xs i=some v∧Q v H
def rIxT(K:PySem.W.Frag): R2:=λx y H Q=>∃p xs i v,x = .ref p∧y = .int i∧SqT K H p xs∧atI xs i=some v∧Q v H
theorem ix_list:IxR X (rIxL X.K):=by
 intro value slice pins s σ H x y v u Q I rx ry h hs
 obtain⟨p,xs,i,z,rfl,rfl,hq,he,q⟩:=h
 cases rx
 obtain⟨t,rfl⟩:=ry
 obtain⟨its,r,pl,hz⟩:=I.list hq
 obtain⟨j,h1,h2,h3,h4,h5⟩:=atI_get he
 obtain⟨w,ew,rw'⟩:=r.get h2
 have hl:=r.length
 have hn:=line63
 have fin:EP X pins σ Q w s:=⟨z,H,I,rw',q⟩
 by_cases h0:0≤i
 ·have hj:i.toNat=j:=by
   rw[seqIndex_of h0 h5]at h1
   exact Option.some.inj h1
  exact item_listR pl.isList h0 (by omega) (by rw[hj];simpa using ew) fin hs
 ·have hj:(i+(its.toArray.size:Int)).toNat=j:=by
   rw[seqIndex_neg (by omega) h4]at h1
   rw[List.size_toArray,← hl]
   exact Option.some.inj h1
  exact subscriptTail_builtinR (x:=w) pl.isList.typeIs slot_list_getitem.lookup
   (wpAny_getItem_list_neg (Q:=λr s'=>r=w∧EP X pins σ Q r s') pl.isList (by omega) (by rw[List.size_toArray]<;>omega) (by omega) (by rw[hj];simpa using ew) ⟨rfl,fin⟩) hs
theorem ix_tup:IxR X (rIxT X.K):=by
 intro value slice pins s σ H x y v u Q I rx ry h hs
 obtain⟨p,xs,i,z,rfl,rfl,hq,he,q⟩:=h
 cases rx
 obtain⟨t,rfl⟩:=ry
 obtain⟨its,r,pl,hz⟩:=I.tuple hq
 obtain⟨j,h1,h2,h3,h4,h5⟩:=atI_get he
 obtain⟨w,ew,rw'⟩:=r.get h2
 have hl:=r.length
 have hn:=line63
 have fin:EP X pins σ Q w s:=⟨z,H,I,rw',q⟩
 exact subscriptTail_builtinR (x:=w) pl.typeIs slot_tuple_getitem.lookup
  (getItem_tuple (j:=j) (Q:=λr s'=>r=w∧EP X pins σ Q r s') pl (by omega) (by omega) (by rw[List.size_toArray,← hl];exact h1) (by simpa using ew) ⟨rfl,fin⟩) hs
theorem slice_bounds(lo hi:Option Int)(n:Nat): (sliceBounds lo hi none n).1=((HT.sIx n 0 lo:Nat):Int)∧(sliceBounds lo hi none n).2.1=((HT.sIx n n hi:Nat):Int)∧(sliceBounds lo hi none n).2.2=1:=by
 refine⟨?_,?_,rfl⟩
 ·cases lo with
  | none=>simp[sliceBounds,HT.sIx]
  | some i=>
   simp only[sliceBounds,HT.sIx,Option.getD_none,show(1:Int)>0 by decide,if_true]
   by_cases h:i<0
   ·simp only[h,if_true]<;>omega
   ·simp only[h,if_false]<;>omega
 ·cases hi with
  | none=>simp[sliceBounds,HT.sIx]
  | some i=>
   simp only[sliceBounds,HT.sIx,Option.getD_none,show(1:Int)>0 by decide,if_true]
   by_cases h:i<0
   ·simp only[h,if_true]<;>omega
   ·simp only[h,if_false]<;>omega
theorem slicePick_cut(its:List Value)(lo hi:Option Int): slicePick its.toArray lo hi none=((its.drop (HT.sIx its.length 0 lo)).take (HT.sIx its.length its.length hi-HT.sIx its.length 0 lo)).toArray:=by
 obtain⟨h1,h2,h3⟩:=slice_bounds lo hi its.toArray.size
 unfold slicePick
 rw[h1,h2,h3]
 simp only[sliceRange_one,pick_run,List.size_toArray]<;>rfl
def rSlL(K:PySem.W.Frag): V→Option Int→Option Int→Hp→VK→Prop:=λx lo hi H Q=>∃a xs,x = .ref a∧SqL K H a xs∧∀p,H p=none→Q (.ref p) (upd H p (.lst (cutV xs lo hi)))
theorem sl_list:SlR X (rSlL X.K):=by
 intro pins s σ H x v vl vu lo hi sl Q I rx hs pl pu h
 obtain⟨a,xs,rfl,hx,q⟩:=h
 cases rx
 obtain⟨its,r,ht,hz⟩:=I.list hx
 have hlen:=r.length
 refine⟨"list",_,slot_list_getitem.lookup,ht.isList.typeIs,?_⟩
 refine wpAny_getItem_list_slice ht.isList hs pl pu .none (by simp) ?_ (by rw[List.size_toArray]<;>omega)
 rw[slicePick_cut,← hlen]
 refine⟨.ref s.heap.objs.size,_,I.laid (t':=s.toks) (o:=.lst (cutV xs lo hi)) (λb ob q=>Heap.get?_push_of_some _ q) (Nat.le_refl _) ?_,rfl,q _ (I.hok.fresh (Nat.le_refl _))⟩
 exact⟨Nat.le_trans (cutV_length xs lo hi) hz,_,0,(r.drop (HT.sIx xs.length 0 lo)).take (HT.sIx xs.length xs.length hi-HT.sIx xs.length 0 lo),Heap.get?_push_size _ rfl⟩
def flatV:V→Bool
 | .non=>true
 | .bl _=>true
 | .int _=>true
 | .str _=>true
 | _=>false
def eqV:V→V→Bool
 | .non,.non=>true
 | .bl a,.bl b=>a==b
 | .bl a,.int b=>(if a then 1 else 0)==b
 | .int a,.bl b=>a==(if b then 1 else 0)
 | .int a,.int b=>a==b
 | .str a,.str b=>a==b
 | _,_=>false
theorem eqAt_V{A:Around}{s:Shared}{y x:V}{u v:Value}(ry:RelV y u)(rx:RelV x v)(fy:flatV y=true)(fx:flatV x=true): SeqAt.EqAt A s u v (eqV y x):=by
 cases y with
 | non=>
  cases ry
  cases x with
  | non=>cases rx;exact SeqAt.EqAt.same _
  | bl b=>cases rx;exact SeqAt.EqAt.none_bool b
  | int b=>obtain⟨t,rfl⟩:=rx;exact SeqAt.EqAt.none_int b t
  | str b=>obtain⟨t,rfl⟩:=rx;exact SeqAt.EqAt.none_str b t
  | _=>exact absurd (show false=true from fx) Bool.false_ne_true
 | bl a=>
  cases ry
  cases x with
  | non=>cases rx;exact SeqAt.EqAt.bool_none a
  | bl b=>cases rx;exact SeqAt.EqAt.bool_bool a b
  | int b=>obtain⟨t,rfl⟩:=rx;exact SeqAt.EqAt.bool_int a b t
  | str b=>obtain⟨t,rfl⟩:=rx;exact SeqAt.EqAt.bool_str a b t
  | _=>exact absurd (show false=true from fx) Bool.false_ne_true
 | int a=>
  obtain⟨t',rfl⟩:=ry
  cases x with
  | non=>cases rx;exact SeqAt.EqAt.int_none a t'
  | bl b=>cases rx;exact SeqAt.EqAt.int_bool a t' b
  | int b=>obtain⟨t,rfl⟩:=rx;exact SeqAt.EqAt.int_int a t' b t
  | str b=>obtain⟨t,rfl⟩:=rx;exact SeqAt.EqAt.int_str a t' b t
  | _=>exact absurd (show false=true from fx) Bool.false_ne_true
 | str a=>
  obtain⟨t',rfl⟩:=ry
  cases x with
  | non=>cases rx;exact SeqAt.EqAt.str_none a t'
  | bl b=>cases rx;exact SeqAt.EqAt.str_bool a t' b
  | int b=>obtain⟨t,rfl⟩:=rx;exact SeqAt.EqAt.str_int a t' b t
  | str b=>obtain⟨t,rfl⟩:=rx;exact SeqAt.EqAt.str_str a t' b t
  | _=>exact absurd (show false=true from fx) Bool.false_ne_true
 | _=>exact absurd (show false=true from fy) Bool.false_ne_true
theorem call_tuple_of:CallR X (.type "tuple") (λxs H Q=>∃p ys,xs=[.ref p]∧((SqL X.K H p ys∧∀l,H l=none→Q (.ref l) (upd H l (.tup ys)))∨(SqT X.K H p ys∧Q (.ref p) H))):=by
 intro pins s σ H xs us Q I r h
 obtain⟨p,ys,rfl,h⟩:=h
 obtain⟨u,rfl,rx⟩:=vals1 r
 cases rx
 rcases h with⟨hq,q⟩|⟨hq,q⟩
 ·obtain⟨its,r',pl,hz⟩:=I.list hq
  have hlen:=r'.length
  refine call_tuple_list pl.isList (λh' kp=> ?_) (by simp only[List.size_toArray]<;>omega)
  have I1:Inv X pins σ H { s with heap:=h' }:=I.kept (t':=s.toks) kp
  have I2:Inv X pins σ (upd H h'.objs.size (.tup ys)) { s with heap:=h'.push { cls:=.type "tuple",data:=.seq its.toArray } }:=
   I1.laid (t':=s.toks) (λb o e=>Heap.get?_push_of_some _ e) (Nat.le_refl _) (show ObjOk X.prog X.w _ _ _ (.tup ys)from⟨hz,its,r',IsTup.new _ _⟩)
  exact⟨.ref h'.objs.size,_,I2,rfl,q _ (I1.hok.fresh (Nat.le_refl _))⟩
 ·obtain⟨its,r',pl,hz⟩:=I.tuple hq
  exact call_tuple_same pl ⟨.ref p,H,I,rfl,q⟩
def tyV(K:PySem.W.Frag)(T:String)(x:V)(H:Hp): Prop:=match x with
 | .str _=>T ="str"
 | .int _=>T ="int"
 | .ref p=>(T ="list"∧∃xs,SqL K H p xs)∨(T ="tuple"∧∃o,K.lookup p=some o∧o.cls = .type "tuple"∧o.dict=none)∨
  (T ="dict"∧((∃kvs,H p=some (.dK kvs))∨∃kvs,H p=some (.dT kvs)))∨(T ="set"∧∃S n,H p=some (.set S n))
 | _=>False
theorem tyV_is{pins:List (Addr×Obj)}{σ:St}{H:Hp}{s:Shared}{T:String}{x:V}{v:Value}(I:Inv X pins σ H s)(r:RelV x v)(ty:tyV X.K T x H):
  s.TypeIs v T∧∀a,v = .ref a→∃ob,s.heap.get? a=some ob∧ob.dict=none:=by
 cases x with
 | str z=>
  obtain⟨t,rfl⟩:=r
  cases(show T ="str" from ty)
  exact⟨typeIs_str s z t,λ_ e=>nomatch e⟩
 | int i=>
  obtain⟨t,rfl⟩:=r
  cases(show T ="int" from ty)
  exact⟨typeIs_int s i t,λ_ e=>nomatch e⟩
 | ref p=>
  cases r
  rcases ty with⟨rfl,xs,hq⟩|⟨rfl,o,hk,hc,hd⟩|⟨rfl,hk⟩|⟨rfl,S,n,hk⟩
  ·obtain⟨its,_,pl,_⟩:=I.list hq
   refine⟨pl.isList.typeIs,λa e=> ?_⟩
   cases e
   obtain⟨o,n,e,c,hd,_⟩:=pl
   exact⟨o,e,hd⟩
  ·refine⟨⟨o,I.kIn p o hk,hc⟩,λa e=> ?_⟩
   cases e
   exact⟨o,I.kIn _ o hk,hd⟩
  ·have z:∃o,s.heap.get? p=some o∧o.ExactDict:=by
    rcases hk with⟨kvs,hk⟩|⟨kvs,hk⟩
    ·obtain⟨_,_,_,_,o,_,_,e,ex,_⟩:=I.hok p _ hk
     exact⟨o,e,ex⟩
    ·obtain⟨_,_,_,_,o,_,_,e,ex,_⟩:=I.hok p _ hk
     exact⟨o,e,ex⟩
   obtain⟨o,e,ex⟩:=z
   refine⟨⟨o,e,ex.1⟩,λa e2=> ?_⟩
   cases e2
   exact⟨o,e,ex.2.1⟩
  ·obtain⟨o,_,_,_,e,ex,_⟩:=I.hok p _ hk
   refine⟨⟨o,e,ex.1⟩,λa e2=> ?_⟩
   cases e2
   exact⟨o,e,ex.2.1⟩
 | _=>exact False.elim ty
def tBM(K:PySem.W.Frag)(T:String)(r:V→List V→Hp→VK→Prop)(to:TE)(t:TA): TE:=λσ H Q=>to σ H λx H1=>tyV K T x H1∧t σ H1 λxs H2=>r x xs H2 Q
variable {o e : Expr} {es : List Expr} {to : TE} {t : TA} {name : Str} {apos cpos : Pos} {T id : String} {r : V → List V → Hp → VK → Prop}
theorem pe_bm(pa:PlainAttrs T)(slot:Slot T name id)(hty:typeOf (.builtin id)=pure (.type "method_descriptor"))(hm:MtR X id r)(ho:PE X o to)(ha:PA X (e::es) t)
  (hbase:attributeBase o name X.env (eval o X.env)=eval o X.env:=by rfl)
  (hfew:((backTo cpos (starEach (e::es) X.env)).all (λx=> !x.1)&&(backToKw cpos (keywordEach [] X.env)).all (λx=>x.1.isSome)
   && decide ((e::es).length+([]:List Keyword).length+(if ([]:List Keyword).isEmpty then 0 else 1)<30))=true:=by rfl)
  (hline:(apos.endLine==cpos.line)=true:=by rfl) (hs:starEach (e::es) X.env=(false,eval e X.env)::starEach es X.env:=by rfl) (hplain:(backTo cpos (starEach es X.env)).any (·.1)=false:=by rfl) :
  PE X (.Call (.Attribute o name apos) (e::es) [] cpos) (tBM X.K T r to t):=by
 intro pins s σ H Q I h
 refine wpAny_Call_method_late hbase hfew hline rfl (thn (ho pins s σ H _ I h) λv s1 ⟨x,H1,I1,r1,ty,q1⟩=> ?_)
 obtain⟨h1,h2⟩:=tyV_is I1 r1 ty
 refine⟨T,id,pa,slot,hty,h1,h2,?_⟩
 have hA:=ha cpos pins s1 σ H1 _ I1 q1
 rw[hs]at hA ⊢
 refine Calls.callWith_builtin (by show(false || (backTo cpos (starEach es X.env)).any (·.1))=false;rw[hplain]<;>rfl) (Calls.evalArgs_plain ?_)
 exact thn hA λus s2 ⟨vs,H2,I2,r2,q2⟩=>hm pins s2 σ H2 x vs v us Q I2 r1 r2 q2
end
end L2
namespace L2
open PySem PySem.Spec PyProof.Rows
def MtM(X:Cx)(id:String)(r:V→List V→Hp→VK→Prop): Prop:=
 ∀(pins:List (Addr×Obj)) (s:Shared) (σ:St) (H:Hp) (x:V) (xs:List V) (v:Value) (us:List Value) (Q:VK),Inv X pins σ H s→RelV x v→Vals xs us→r x xs H Q→
  wpAny (model X.prog X.w) X.A (call (.builtin id) (v::us)) (EP X pins σ Q) X.xe s
theorem Vals.one:∀ {x:V} {us:List Value},Vals [x] us→∃u,us=[u]∧RelV x u
 | _,_,.cons r .nil=>⟨_,rfl,r⟩
section
variable {X : Cx} {pins : List (Addr × Obj)} {σ : St} {H : Hp} {s : Shared} {l b : Addr} {xs ys zs : List V}
theorem Inv.lset{its its':List Value}{n:Nat}{f:Array Value→Array Value}{t':Nat}(I:Inv X pins σ H s)(hH:H l=some (.lst xs))
  (e:s.heap.get? l=some { cls:=.type "list",data:=.seq its.toArray n }) (hf:f its.toArray=its'.toArray) (hv:Vals ys its') (hz:ys.length≤sizeLine) :
  Inv X pins σ (upd H l (.lst ys)) { s with heap:=s.heap.update l (Obj.mapSeq f),toks:=t' }:=by
 have q:=PySem.IsL.update e f
 rw[hf]at q
 refine I.write (x:=l) (e:=l) (by rw[hH];exact trivial) (.inl rfl) (λb' u hb hu=>(Heap.get?_update_other s.heap (Obj.mapSeq f) (Ne.symm hb)).trans hu) ⟨_,q⟩ ?_
 exact⟨hz,its',_,hv,q⟩
theorem Inv.lnew{its:List Value}{t':Nat}(I:Inv X pins σ H s)(hv:Vals ys its)(hz:ys.length≤sizeLine):
  Inv X pins σ (upd H s.heap.objs.size (.lst ys)) { s with heap:=s.heap.push { cls:=.type "list",data:=.seq its.toArray },toks:=t' }:=
 I.laid (λ_ _ q=>Heap.get?_push_of_some _ q) (Nat.le_refl _) ⟨hz,its,0,hv,Heap.get?_push_size _ rfl⟩
theorem Inv.fresh(I:Inv X pins σ H s): H s.heap.objs.size=none:=I.hok.fresh (Nat.le_refl _)
theorem Inv.lstM(I:Inv X pins σ H s)(hH:H l=some (.lst xs)): xs.length≤sizeLine∧∃(its:List Value) (n:Nat),Vals xs its∧xs.length=its.length∧s.heap.get? l=some { cls:=.type "list",data:=.seq its.toArray n }:=by
 obtain⟨z,its,n,r,e⟩:=I.hok l _ hH
 exact⟨z,its,n,r,r.length,e⟩
theorem notLongL{n:Nat}(h:n≤sizeLine): Builtin.List.listTooLong n=false:=by
 unfold Builtin.List.listTooLong
 exact decide_eq_false (by omega)
end
section
variable {X : Cx}
def rAppend:V→List V→Hp→VK→Prop:=λx vs H Q=>∃l xs y,x = .ref l∧vs=[y]∧H l=some (.lst xs)∧xs.length<sizeLine∧Q .non (upd H l (.lst (xs++[y])))
theorem mt_append:MtM X "list.append" rAppend:=by
 intro pins s σ H x vs v us Q I rx rv h
 obtain⟨l,xs,y,rfl,rfl,hH,hz,q⟩:=h
 cases rx
 obtain⟨u,rfl,ru⟩:=rv.one
 obtain⟨z,its,n,r,hl,e⟩:=I.lstM hH
 refine call_meets F.slot_list_append ⟨_,e,rfl⟩ F.entry_list_append (F.args_list_append_2 _ _) (PySem.list_append l its.toArray n u (by rw[List.size_toArray];omega)) ⟨e,?_⟩
 refine⟨.non,_,I.lset (its':=its++[u]) hH e (by simp) (r.append (.cons ru .nil)) ?_,rfl,q⟩
 rw[List.length_append,List.length_singleton]
 omega
def rExtend:V→List V→Hp→VK→Prop:=λx vs H Q=>∃l b xs zs,x = .ref l∧vs=[.ref b]∧H l=some (.lst xs)∧H b=some (.lst zs)∧xs.length+zs.length≤sizeLine∧Q .non (upd H l (.lst (xs++zs)))
theorem mt_extend:MtM X "list.extend" rExtend:=by
 intro pins s σ H x vs v us Q I rx rv h
 obtain⟨l,b,xs,zs,rfl,rfl,hH,hB,hz,q⟩:=h
 cases rx
 obtain⟨u,rfl,ru⟩:=rv.one
 cases ru
 obtain⟨z,its,n,r,hl,e⟩:=I.lstM hH
 obtain⟨z2,its2,n2,r2,hl2,e2⟩:=I.lstM hB
 have hsz:its.toArray.size+its2.toArray.size≤sizeLine:=by rw[List.size_toArray,List.size_toArray];omega
 have hlong:¬(!its.toArray.isEmpty&&Builtin.List.listTooLong (its.toArray.size+its2.toArray.size))=true:=by
  rw[notLongL hsz,Bool.and_false]
  exact Bool.false_ne_true
 refine call_meets F.slot_list_extend ⟨_,e,rfl⟩ F.entry_list_extend (F.args_list_extend_2 _ _)
  (AutoSeq1.list_extend_list_list_0 l its.toArray n b its2.toArray n2 hlong (by rw[List.size_toArray];omega) (by omega)) ⟨e,e2,?_⟩
 refine⟨.non,_,I.lset (its':=its++its2) hH e (by simp) (r.append r2) ?_,rfl,q⟩
 rw[List.length_append]
 omega
def rCat:R2:=λx y H Q=>∃l b xs zs,x = .ref l∧y = .ref b∧H l=some (.lst xs)∧H b=some (.lst zs)∧xs.length+zs.length≤sizeLine∧∀p,H p=none→Q (.ref p) (upd H p (.lst (xs++zs)))
theorem op_cat:OpR X (binaryOp .Add) rCat:=by
 intro pins s σ H x y v u Q I rx ry h
 obtain⟨l,b,xs,zs,rfl,rfl,hH,hB,hz,q⟩:=h
 cases rx
 cases ry
 obtain⟨z,its,n,r,hl,e⟩:=I.lstM hH
 obtain⟨z2,its2,n2,r2,hl2,e2⟩:=I.lstM hB
 refine PySem.P.add_list e e2 ?_ (by rw[List.size_toArray,List.size_toArray];omega)
 have ea:its.toArray++its2.toArray=(its++its2).toArray:=by simp
 rw[ea]
 exact⟨.ref _,_,I.lnew (t':=s.toks) (r.append r2) (by rw[List.length_append];omega),rfl,q _ I.fresh⟩
end
section
variable {prog : Program} {w : World} {A : Around} {E : Value → Shared → Prop} {s : Shared}
end
section
variable {X : Cx}
end
end L2
namespace Att
open PySem PySem.W PySem.Calls PyProof.Rows
theorem ints_of_wellAll{P:Params}{h:Heap}: ∀(ns:List Int) (vs:List Value),WellAll P h vs (ns.map WData.int)→IntsAre vs ns:=by
 intro ns
 induction ns with
 | nil=>
  intro vs w
  rw[List.map_nil]at w
  cases w
  exact .nil
 | cons n ns ih=>
  intro vs w
  rw[List.map_cons]at w
  cases w with
  | cons a b=>
   cases a
   exact .cons _ _ (ih _ b)
theorem script_of{l:OpenLaw}{n:Nat}(hn:l.most=some n){P:Params}{h:Heap}{args:List WData}{vals:List Value}
  (hpre:l.row.toRowW.claim.pre args=true) (hwl:WellAll P h vals args) :
  ∃a vs ns,vals=[Value.ref a]∧args=[WData.list (ns.map WData.int)]∧h.get? a=some { cls:=.type "list",data:=.seq vs.toArray }∧IntsAre vs ns∧ns.length≤n:=by
 have hsh:WShape.hasAll [] args [.list .int]=true:=(pre_splitW hpre).1
 have hc:l.pre.holds [] { args:=args }=true:=(pre_splitW hpre).2
 obtain⟨d,r,rfl,h1,h2⟩:=hasAllW_cons hsh
 obtain rfl:=hasAllW_nil h2
 obtain⟨xs,rfl,h3⟩:=hasW_list h1
 obtain⟨ns,rfl⟩:=items_int h3
 have hlen:ns.length≤n:=by
  unfold OpenLaw.pre at hc
  have h4:(WTm.not (.lt (.lit (.int (n:Int))) (.len (.arg 0)))).holds [] { args:=[.list (ns.map .int)] }=true:=by
   have h4:=(holds_andW hc).1
   rw[hn]at h4
   exact h4
  have h5:=condW_of h4 (w_not (w_lt w_lit (w_len_list (w_arg rfl))))
  rw[List.length_map]at h5
  refine Nat.le_of_not_lt λq=> ?_
  have q':(n:Int)<((ns.length:Nat):Int):=by omega
  first
   | (rw[decide_eq_true q']at h5;exact absurd h5 (by decide))
   | (simp at h5;omega)
 cases hwl with
 | cons w1 w2=>
  cases w2
  cases w1 with
  | list ho hall=>exact⟨_,_,ns,rfl,rfl,ho,ints_of_wellAll ns _ hall,hlen⟩
theorem post_true(l:OpenLaw)(args:List WData): l.row.toRowW.claim.post args (.bool true) args=true:=
 postW_of (r:=l.row.toRowW) (X:=(true==true))
  (show WShape.has [] (.bool true) .bool=true by first|rfl|decide|simp[WShape.has,WShape.arms,WShape.armsAll])
  (show(WTm.eq .res (.lit (.bool true))).value [] { args:=args,res:=some (.bool true),after:=args }=some (.bool (true==true))from w_eq_bool (w_res rfl) w_lit) rfl
section
variable {prog : Program} {w : World} {A : Around} {E : Value → Shared → Prop} {s : Shared} {K : Frag}
end
end Att
namespace L2
open PySem PySem.Spec PyProof.Rows
theorem vals_ints:∀ {vs:List Value} {ns:List Int},IntsAre vs ns→Vals (ns.map V.int) vs
 | _,_,.nil=>.nil
 | _,_,.cons n t h=>.cons ⟨t,rfl⟩ (vals_ints h)
def Only(H:Hp): Prop:=∀b,H b=none∨∃o xs,H b=some (.frz o (.lst xs))
end L2
namespace L2
open PySem PySem.Spec PyProof.Rows
end L2
namespace L2
open PySem PySem.Spec PyProof.Rows
def defArgs(s:Stmt): Arguments:=match s with
 | .FunctionDef _ a _ _ _ _ _ _ _ _=>a
 | _=>{ posonlyargs:=[],args:=[],vararg:=none,kwonlyargs:=[],kw_defaults:=[],kwarg:=none,defaults:=[] }
def defBody(s:Stmt): List Stmt:=match s with
 | .FunctionDef _ _ b _ _ _ _ _ _ _=>b
 | _=>[]
def defScope(s:Stmt): Scope:=match s with
 | .FunctionDef _ _ _ _ _ _ sc _ _ _=>sc
 | _=>{ kind:=.function,names:=[],isGenerator:=false,isCoroutine:=false }
abbrev CX0:CXT:=λ_ _ _ _ _ _=>False
abbrev E0:XK:=λ_ _ _=>False
theorem pass0{X:Cx}: Passes CX0 X E0:=λ_ _ _ _ _ _ _ h=>h.elim
structure Fun(K:PySem.W.Frag)(x qual:Str)(st:Stmt)(f:Addr)(fd:FuncData): Prop where
 ex:∃(oc:Value) (od:Option Addr) (kV doc pm:Value) (an:Option Addr) (cdv ct:Value) (osl:Array (Option Value)),
  fd=PySem.W.fnOf x qual (defArgs st) (defBody st) (defScope st) .none kV doc pm an cdv ct∧K.lookup f=some ⟨oc,od,.func fd,osl⟩∧PySem.W.codeIn K cdv qual=true
 kp:PySem.W.keepIn K (.ref f)=true
section
variable {P : Program} {w : World} {K : PySem.W.Frag} {mg : Str → Option Value} {base : Heap}
theorem Fun.ok{x qual:Str}{st:Stmt}{f:Addr}{fd:FuncData}{N ps:List Str}{k:Nat}{sp:Sp}(F:Fun K x qual st f fd)(S:FnScope N ps (defScope st))(len:∀vs H Q E,sp vs H Q E→vs.length=ps.length)
  (hbody:∀(cdv:Value) (A:Around) (outer:List Env) (s:Shared) (H:Hp) (vs:List V) (Q:VK) (E:XK),Room k (A.deeper (envOfC qual (defScope st) s.heap.objs.size f cdv))→sp vs H Q E→
   ∃t,PSs (cxOf CX0 P w K mg base N qual (defScope st) f cdv A outer s H E).nox (defBody st) t∧t { nx:=λ_ H'=>Q .non H',rt:=Q } (start N vs) H):FnOk P w K mg base CX0 (k+1) f fd ps sp:=by
 obtain⟨oc,od,kV,doc,pm,an,cdv,ct,osl,rfl,lk,hcd⟩:=F.ex
 refine fn_of lk hcd S len λA outer s H vs Q E hr hsp=> ?_
 obtain⟨t,h,q⟩:=hbody cdv A outer s H vs Q E hr hsp
 exact⟨t,h.nox,q⟩
theorem Fun.binds{x qual:Str}{st:Stmt}{f:Addr}{fd:FuncData}{ps:List Str}(F:Fun K x qual st f fd)
  (h:∀(kV doc pm:Value) (an:Option Addr) (cdv ct:Value) (us:List Value),us.length=ps.length→bindArgs (PySem.W.fnOf x qual (defArgs st) (defBody st) (defScope st) .none kV doc pm an cdv ct) ⟨us,[]⟩=pure (ps.zip us)):Binds K fd ps []:=by
 obtain⟨oc,od,kV,doc,pm,an,cdv,ct,osl,rfl,lk,hcd⟩:=F.ex
 exact .all (h kV doc pm an cdv ct)
theorem fun_mk{x qual:Str}{st:Stmt}{f:Addr}{oc:Value}{od an:Option Addr}{osl:Array (Option Value)}{kV doc pm cdv ct:Value}(l:K.lookup f=some ⟨oc,od,.func (PySem.W.fnOf x qual (defArgs st) (defBody st) (defScope st) .none kV doc pm an cdv ct),osl⟩)
 (c:PySem.W.codeIn K cdv qual=true) (k:PySem.W.keepIn K (.ref f)=true):Fun K x qual st f (PySem.W.fnOf x qual (defArgs st) (defBody st) (defScope st) .none kV doc pm an cdv ct):=⟨⟨oc,od,kV,doc,pm,an,cdv,ct,osl,rfl,l,c⟩,k⟩
end
theorem small1000{n:Nat}(h:n≤1000): n<sizeLine:=Nat.lt_of_le_of_lt h (by decide)
section
variable {X : Cx}
end
theorem iteF{A B:Prop}(h:B): if false=true then A else B:=by
 rw[if_neg Bool.false_ne_true]
 exact h
theorem iteT{A B:Prop}(h:A): if true=true then A else B:=by
 rw[if_pos rfl]
 exact h
def Same(H H':Hp): Prop:=∀b o,H b=some o→H' b=some o
theorem Same.refl(H:Hp): Same H H:=λ_ _ h=>h
theorem Same.trans{H H1 H2:Hp}(a:Same H H1)(b:Same H1 H2): Same H H2:=λc o h=>b c o (a c o h)
theorem Same.free{H H':Hp}(e:Same H H'){l:Addr}(h:H' l=Option.none): H l=Option.none:=by
 cases q:H l with
 | none=>rfl
 | some o=>
  rw[e l o q]at h
  cases h
theorem Same.seq{K:PySem.W.Frag}{H H':Hp}{a:Addr}{xs:List V}(e:Same H H')(h:SqL K H a xs): SqL K H' a xs:=by
 rcases h with(h|⟨o,h⟩)|h
 ·exact .inl (.inl (e _ _ h))
 ·exact .inl (.inr ⟨o,e _ _ h⟩)
 ·exact .inr h
end L2
set_option maxHeartbeats 400000
namespace FL
open PySem PySem.Spec PyProof.Rows L2
inductive D where
 | non|bl (b:Bool)|int (i:Int)|str (x:Str)|ty (n:String)
 | tup (ds:List D)
 | ls (ds:List D)
 | lst (a:Addr) (ds:List D)
 | ob (a:Addr)
 | kt (ds:List D)
 | fl (ds:List D)
 | fd (t:Bool) (ks vs:List D)
 | dc (a:Addr) (t:Bool) (ks vs:List D)
 | qi (C:Addr) (ds:List D)
 | exn (C:Addr)
def zb:Key→D
 | .inl i=>.int i
 | .inr x=>.str x
def xu:HO→Option (Bool×List D×List V)
 | .dK kvs=>if (kvs.map (·.1)).Nodup then some (false,kvs.map (λp=>zb p.1),kvs.map (·.2))else none
 | .dT kvs=>if (kvs.map (·.1)).Nodup then some (true,kvs.map (λp=>.tup (p.1.map zb)),kvs.map (·.2))else none
 | _=>none
mutual
inductive Is(K:PySem.W.Frag)(H:Hp): V→D→Prop
 | non:Is K H .non .non
 | bl (b:Bool):Is K H (.bl b) (.bl b)
 | int (i:Int):Is K H (.int i) (.int i)
 | str (x:Str):Is K H (.str x) (.str x)
 | ty (n:String):Is K H (.ty n) (.ty n)
 | tup {a:Addr} {xs:List V} {ds:List D} (h:H a=some (.tup xs)) (r:IsAll K H xs ds):Is K H (.ref a) (.tup ds)
 | ls {a:Addr} {xs:List V} {ds:List D} (h:SqL K H a xs) (r:IsAll K H xs ds):Is K H (.ref a) (.ls ds)
 | lst {a:Addr} {xs:List V} {ds:List D} (h:H a=some (.lst xs)) (r:IsAll K H xs ds):Is K H (.ref a) (.lst a ds)
 | ob (a:Addr):Is K H (.ref a) (.ob a)
 | kt {a:Addr} {xs:List V} {ds:List D} (h:SqT K H a xs) (r:IsAll K H xs ds):Is K H (.ref a) (.kt ds)
 | fl {a:Addr} {o:Obj} {xs:List V} {ds:List D} (h:H a=some (.frz o (.lst xs))) (r:IsAll K H xs ds):Is K H (.ref a) (.fl ds)
 | fd {a:Addr} {o:Obj} {u:HO} {us:List V} {t:Bool} {ks vs:List D} (h:H a=some (.frz o u)) (e:xu u=some (t,ks,us)) (r:IsAll K H us vs):Is K H (.ref a) (.fd t ks vs)
 | dc {a:Addr} {u:HO} {us:List V} {t:Bool} {ks vs:List D} (h:H a=some u) (e:xu u=some (t,ks,us)) (r:IsAll K H us vs):Is K H (.ref a) (.dc a t ks vs)
 | qi {a l C dx:Addr} {o o':Obj} {xs:List V} {ds:List D} (h:H a=some (.frz o (.ins C dx [("forms",.ref l)]))) (e:H l=some (.frz o' (.lst xs))) (r:IsAll K H xs ds):Is K H (.ref a) (.qi C ds)
 | exn {a C:Addr} {o:Obj} (h:H a=some (.frz o (.own a))) (e:o.cls = .ref C):Is K H (.ref a) (.exn C)
inductive IsAll(K:PySem.W.Frag)(H:Hp): List V→List D→Prop
 | nil:IsAll K H [] []
 | cons {v:V} {vs:List V} {d:D} {ds:List D} (h:Is K H v d) (r:IsAll K H vs ds):IsAll K H (v::vs) (d::ds)
end
theorem sI{K:PySem.W.Frag}{H H':Hp}{a:Addr}{xs:List V}(e:Same H H')(h:SqT K H a xs): SqT K H' a xs:=by
 rcases h with(h|⟨o,h⟩)|h
 ·exact .inl (.inl (e _ _ h))
 ·exact .inl (.inr ⟨o,e _ _ h⟩)
 ·exact .inr h
mutual
theorem Is.mono{K:PySem.W.Frag}{H H':Hp}(e:Same H H'): ∀ {v:V} {d:D},Is K H v d→Is K H' v d
 | _,_,.non=>.non
 | _,_,.bl b=>.bl b
 | _,_,.int i=>.int i
 | _,_,.str x=>.str x
 | _,_,.ty n=>.ty n
 | _,_,.tup h r=>.tup (e _ _ h) (IsAll.mono e r)
 | _,_,.ls h r=>.ls (e.seq h) (IsAll.mono e r)
 | _,_,.lst h r=>.lst (e _ _ h) (IsAll.mono e r)
 | _,_,.ob a=>.ob a
 | _,_,.kt h r=>.kt (sI e h) (IsAll.mono e r)
 | _,_,.fl h r=>.fl (e _ _ h) (IsAll.mono e r)
 | _,_,.fd h z r=>.fd (e _ _ h) z (IsAll.mono e r)
 | _,_,.dc h z r=>.dc (e _ _ h) z (IsAll.mono e r)
 | _,_,.qi h z r=>.qi (e _ _ h) (e _ _ z) (IsAll.mono e r)
 | _,_,.exn h z=>.exn (e _ _ h) z
theorem IsAll.mono{K:PySem.W.Frag}{H H':Hp}(e:Same H H'): ∀ {vs:List V} {ds:List D},IsAll K H vs ds→IsAll K H' vs ds
 | _,_,.nil=>.nil
 | _,_,.cons h r=>.cons (Is.mono e h) (IsAll.mono e r)
end
theorem IsAll.length{K:PySem.W.Frag}{H:Hp}: ∀ {vs:List V} {ds:List D},IsAll K H vs ds→vs.length=ds.length
 | _,_,.nil=>rfl
 | _,_,.cons _ r=>by simp[IsAll.length r]
theorem IsAll.get{K:PySem.W.Frag}{H:Hp}: ∀ {vs:List V} {ds:List D},IsAll K H vs ds→∀ {i:Nat} {d:D},ds[i]?=some d→∃v,vs[i]?=some v∧Is K H v d
 | _,_,.nil,i,d,e=>by simp at e
 | _,_,.cons h r,0,d,e=>by simp at e;subst e;exact⟨_,rfl,h⟩
 | _,_,.cons h r,i+1,d,e=>by
  obtain⟨v,e1,h1⟩:=IsAll.get r (i:=i) (d:=d) (by simpa using e)
  exact⟨v,by simpa using e1,h1⟩
theorem IsAll.append{K:PySem.W.Frag}{H:Hp}: ∀ {vs us:List V} {ds es:List D},IsAll K H vs ds→IsAll K H us es→IsAll K H (vs++us) (ds++es)
 | _,_,_,_,.nil,s=>s
 | _,_,_,_,.cons h r,s=>.cons h (IsAll.append r s)
theorem IsAll.ints{K:PySem.W.Frag}{H:Hp}: ∀(ns:List Int),IsAll K H (ns.map V.int) (ns.map D.int)
 | []=>.nil
 | n::ns=>.cons (.int n) (IsAll.ints ns)
theorem Is.int_inv{K:PySem.W.Frag}{H:Hp}{v:V}{i:Int}(h:Is K H v (.int i)): v = .int i:=by cases h;rfl
theorem Is.bl_inv{K:PySem.W.Frag}{H:Hp}{v:V}{b:Bool}(h:Is K H v (.bl b)): v = .bl b:=by cases h;rfl
theorem Is.str_inv{K:PySem.W.Frag}{H:Hp}{v:V}{x:Str}(h:Is K H v (.str x)): v = .str x:=by cases h;rfl
theorem Is.ty_inv{K:PySem.W.Frag}{H:Hp}{v:V}{x:String}(h:Is K H v (.ty x)): v = .ty x:=by cases h;rfl
theorem Is.non_inv{K:PySem.W.Frag}{H:Hp}{v:V}(h:Is K H v .non): v = .non:=by cases h;rfl
theorem Is.ob_inv{K:PySem.W.Frag}{H:Hp}{v:V}{a:Addr}(h:Is K H v (.ob a)): v = .ref a:=by cases h;rfl
theorem Is.tup_inv{K:PySem.W.Frag}{H:Hp}{v:V}{ds:List D}(h:Is K H v (.tup ds)): ∃a xs,v = .ref a∧SqT K H a xs∧IsAll K H xs ds:=by
 cases h with
 | tup h r=>exact⟨_,_,rfl,.of h,r⟩
theorem Is.kt_inv{K:PySem.W.Frag}{H:Hp}{v:V}{ds:List D}(h:Is K H v (.kt ds)): ∃a xs,v = .ref a∧SqT K H a xs∧IsAll K H xs ds:=by
 cases h with
 | kt h r=>exact⟨_,_,rfl,h,r⟩
theorem Is.fl_inv{K:PySem.W.Frag}{H:Hp}{v:V}{ds:List D}(h:Is K H v (.fl ds)): ∃a o xs,v = .ref a∧H a=some (.frz o (.lst xs))∧IsAll K H xs ds:=by
 cases h with
 | fl h r=>exact⟨_,_,_,rfl,h,r⟩
theorem Is.exn_inv{K:PySem.W.Frag}{H:Hp}{v:V}{C:Addr}(h:Is K H v (.exn C)): ∃a o,v = .ref a∧H a=some (.frz o (.own a))∧o.cls = .ref C:=by
 cases h with
 | exn h e=>exact⟨_,_,rfl,h,e⟩
theorem Is.dc_inv{K:PySem.W.Frag}{H:Hp}{v:V}{t:Bool}{ks vs:List D}{a:Addr}(h:Is K H v (.dc a t ks vs)): v = .ref a∧∃u us,H a=some u∧xu u=some (t,ks,us)∧IsAll K H us vs:=by
 cases h with
 | dc h e r=>exact⟨rfl,_,_,h,e,r⟩
theorem Is.lst_inv{K:PySem.W.Frag}{H:Hp}{v:V}{ds:List D}{a:Addr}(h:Is K H v (.lst a ds)): v = .ref a∧∃xs,H a=some (.lst xs)∧IsAll K H xs ds:=by
 cases h with
 | lst h r=>exact⟨rfl,_,h,r⟩
theorem Is.ls_inv{K:PySem.W.Frag}{H:Hp}{v:V}{ds:List D}(h:Is K H v (.ls ds)): ∃a xs,v = .ref a∧SqL K H a xs∧IsAll K H xs ds:=by
 cases h with
 | ls h r=>exact⟨_,_,rfl,h,r⟩
def qW:D→Option (List D)
 | .ls ds=>some ds
 | .lst _ ds=>some ds
 | .fl ds=>some ds
 | _=>none
theorem Is.lsD_inv{K:PySem.W.Frag}{H:Hp}{v:V}{d:D}{ds:List D}(h:Is K H v d)(e:qW d=some ds): ∃a xs,v = .ref a∧SqL K H a xs∧IsAll K H xs ds:=by
 cases d with
 | ls es=>cases e;exact h.ls_inv
 | lst a es=>cases e;obtain⟨h1,xs,h2,h3⟩:=h.lst_inv;exact⟨a,xs,h1,.of h2,h3⟩
 | fl es=>cases e;obtain⟨a,o,xs,h1,h2,h3⟩:=h.fl_inv;exact⟨a,xs,h1,.inl (.inr ⟨o,h2⟩),h3⟩
 | _=>cases e
inductive Fz:D→Prop
 | non:Fz .non
 | bl (b:Bool):Fz (.bl b)
 | int (i:Int):Fz (.int i)
 | str (x:Str):Fz (.str x)
 | ty (n:String):Fz (.ty n)
 | ob (a:Addr):Fz (.ob a)
 | tup {ds:List D} (h:∀d∈ds,Fz d):Fz (.tup ds)
 | kt {ds:List D} (h:∀d∈ds,Fz d):Fz (.kt ds)
 | fl {ds:List D} (h:∀d∈ds,Fz d):Fz (.fl ds)
 | fd {t:Bool} {ks vs:List D} (h:∀d∈vs,Fz d):Fz (.fd t ks vs)
 | qi {C:Addr} {ds:List D} (h:∀d∈ds,Fz d):Fz (.qi C ds)
 | exn (C:Addr):Fz (.exn C)
theorem Fz.qi_inv{C:Addr}{ds:List D}(h:Fz (.qi C ds)): ∀d∈ds,Fz d:=by cases h with|qi h=>exact h
theorem Fz.tup_inv{ds:List D}(h:Fz (.tup ds)): ∀d∈ds,Fz d:=by cases h with|tup h=>exact h
theorem Fz.kt_inv{ds:List D}(h:Fz (.kt ds)): ∀d∈ds,Fz d:=by cases h with|kt h=>exact h
theorem Fz.fl_inv{ds:List D}(h:Fz (.fl ds)): ∀d∈ds,Fz d:=by cases h with|fl h=>exact h
theorem Fz.fd_inv{t:Bool}{ks vs:List D}(h:Fz (.fd t ks vs)): ∀d∈vs,Fz d:=by cases h with|fd h=>exact h
theorem Fz.no_dc{a:Addr}{t:Bool}{ks vs:List D}(h:Fz (.dc a t ks vs)): False:=by cases h
theorem Fz.no_ls{ds:List D}(h:Fz (.ls ds)): False:=by cases h
theorem Fz.no_lst{a:Addr}{ds:List D}(h:Fz (.lst a ds)): False:=by cases h
def KT(H H':Hp): Prop:=(∀b xs,H b=some (.tup xs)→H' b=some (.tup xs))∧∀b o u,H b=some (.frz o u)→H' b=some (.frz o u)
theorem KT.seqT{K:PySem.W.Frag}{H H':Hp}{a:Addr}{xs:List V}(e:KT H H')(h:SqT K H a xs): SqT K H' a xs:=by
 rcases h with(h|⟨o,h⟩)|h
 ·exact .inl (.inl (e.1 _ _ h))
 ·exact .inl (.inr ⟨o,e.2 _ _ _ h⟩)
 ·exact .inr h
mutual
theorem Is.keep{K:PySem.W.Frag}{H H':Hp}(e:KT H H'): ∀ {v:V} {d:D},Is K H v d→Fz d→Is K H' v d
 | _,_,.non,_=>.non
 | _,_,.bl b,_=>.bl b
 | _,_,.int i,_=>.int i
 | _,_,.str x,_=>.str x
 | _,_,.ty n,_=>.ty n
 | _,_,.tup h r,f=>.tup (e.1 _ _ h) (IsAll.keep e r f.tup_inv)
 | _,_,.ls _ _,f=>f.no_ls.elim
 | _,_,.lst _ _,f=>f.no_lst.elim
 | _,_,.ob a,_=>.ob a
 | _,_,.kt h r,f=>.kt (e.seqT h) (IsAll.keep e r f.kt_inv)
 | _,_,.fl h r,f=>.fl (e.2 _ _ _ h) (IsAll.keep e r f.fl_inv)
 | _,_,.fd h z r,f=>.fd (e.2 _ _ _ h) z (IsAll.keep e r f.fd_inv)
 | _,_,.dc _ _ _,f=>f.no_dc.elim
 | _,_,.qi h z r,f=>.qi (e.2 _ _ _ h) (e.2 _ _ _ z) (IsAll.keep e r f.qi_inv)
 | _,_,.exn h z,_=>.exn (e.2 _ _ _ h) z
theorem IsAll.keep{K:PySem.W.Frag}{H H':Hp}(e:KT H H'): ∀ {vs:List V} {ds:List D},IsAll K H vs ds→(∀d∈ds,Fz d)→IsAll K H' vs ds
 | _,_,.nil,_=>.nil
 | _,_,.cons h r,f=>.cons (Is.keep e h (f _ List.mem_cons_self)) (IsAll.keep e r λd hd=>f d (List.mem_cons_of_mem _ hd))
end
abbrev Ro:=List (Option D)
def aR:D→Option Addr
 | .lst a _=>some a
 | .dc a _ _ _=>some a
 | _=>none
def Mu(ρ:Ro)(a:Addr): Prop:=∃(i:Nat) (d:D),ρ[i]?=some (some d)∧aR d=some a
@[simp] theorem zn:aR .non=none:=rfl
@[simp] theorem zL(b:Bool): aR (.bl b)=none:=rfl
@[simp] theorem zm(i:Int): aR (.int i)=none:=rfl
@[simp] theorem zo(x:Str): aR (.str x)=none:=rfl
@[simp] theorem zp(ds:List D): aR (.tup ds)=none:=rfl
@[simp] theorem zP(ds:List D): aR (.ls ds)=none:=rfl
@[simp] theorem zQ(a:Addr): aR (.ob a)=none:=rfl
@[simp] theorem zO(ds:List D): aR (.kt ds)=none:=rfl
@[simp] theorem zN(ds:List D): aR (.fl ds)=none:=rfl
@[simp] theorem zM(t:Bool)(ks vs:List D): aR (.fd t ks vs)=none:=rfl
@[simp] theorem zR(C:Addr)(ds:List D): aR (.qi C ds)=none:=rfl
@[simp] theorem zl(C:Addr): aR (.exn C)=none:=rfl
theorem Fz.own{d:D}(h:Fz d): aR d=none:=by cases h<;>rfl
theorem Fz.no_own{d:D}{a:Addr}(h:Fz d)(z:aR d=some a): False:=by rw[h.own]at z;cases z
inductive Mine:D→Prop
 | lst {a:Addr} {ds:List D} (h:∀e∈ds,Fz e):Mine (.lst a ds)
 | dc {a:Addr} {t:Bool} {ks vs:List D} (h:∀e∈vs,Fz e):Mine (.dc a t ks vs)
structure RelS(X:Cx)(Hb H:Hp)(σ:L2.St)(ρ:Ro): Prop where
 same:Same Hb H
 len:σ.length=ρ.length
 val:∀(i:Nat) (d:D),ρ[i]?=some (some d)→∃v,σ[i]?=some (some v)∧Is X.K H v d∧(Fz d∨Is X.K Hb v d∨Mine d)
 own:∀a,Mu ρ a→Hb a=none
theorem Mine.keep{K:PySem.W.Frag}{H H':Hp}{v:V}{d:D}(m:Mine d)(h:Is K H v d)(kt:KT H H')(hk:∀a,aR d=some a→H' a=H a): Is K H' v d:=by
 cases m with
 | lst f=>
  obtain⟨rfl,ys,g1,g2⟩:=h.lst_inv
  exact .lst (by rw[hk _ rfl];exact g1) (g2.keep kt f)
 | dc f=>
  obtain⟨rfl,u,us,g1,g2,g3⟩:=h.dc_inv
  exact .dc (by rw[hk _ rfl];exact g1) g2 (g3.keep kt f)
theorem r8{K:PySem.W.Frag}{H:Hp}{v:V}{d:D}{a l:Addr}{xs:List V}(h:Is K H v d)(z:aR d=some a)(hl:H l=some (.lst xs))(hn:∀es,d≠.lst l es): a≠l:=λe=>by
 subst e
 cases d with
 | lst b es=>cases z;exact hn es rfl
 | dc b t ks vs=>
  cases z
  obtain⟨_,u,us,g1,g2,_⟩:=h.dc_inv
  rw[hl]at g1
  cases g1
  cases g2
 | _=>cases z
theorem RelS.mono{X:Cx}{Hb H H':Hp}{σ:L2.St}{ρ:Ro}(r:RelS X Hb H σ ρ)(e:Same H H'): RelS X Hb H' σ ρ:=
 ⟨r.same.trans e,r.len,λi d h=>let ⟨v,a,b,c⟩:=r.val i d h;⟨v,a,b.mono e,c⟩,r.own⟩
theorem RelS.mu{X:Cx}{Hb H:Hp}{σ:L2.St}{ρ:Ro}(r:RelS X Hb H σ ρ){a:Addr}(h:Mu ρ a): ∃u,H a=some u∧Mut (some u):=by
 obtain⟨i,d,e,z⟩:=h
 obtain⟨v,_,h,_⟩:=r.val i _ e
 cases d with
 | lst b ds=>
  cases z
  obtain⟨_,xs,h,_⟩:=h.lst_inv
  exact⟨_,h,trivial⟩
 | dc b t ks vs=>
  cases z
  obtain⟨_,u,us,h,e,_⟩:=h.dc_inv
  refine⟨u,h,?_⟩
  cases u with
  | dK _=>exact trivial
  | dT _=>exact trivial
  | _=>cases e
 | _=>cases z
theorem dQ{ρ:Ro}{n j:Nat}{d e:D}(h:(ρ.set n (some d))[j]?=some (some e)): (j=n∧e=d∧n<ρ.length)∨(j≠n∧ρ[j]?=some (some e)):=by
 by_cases hji:n=j
 ·subst hji
  rw[List.getElem?_set,if_pos rfl]at h
  by_cases hl:n<ρ.length
  ·rw[if_pos hl]at h
   cases h
   exact .inl ⟨rfl,rfl,hl⟩
  ·rw[if_neg hl]at h;cases h
 ·rw[List.getElem?_set_ne hji]at h
  exact .inr ⟨λz=>hji z.symm,h⟩
theorem RelS.set{X:Cx}{Hb H:Hp}{σ:L2.St}{ρ:Ro}(r:RelS X Hb H σ ρ){v:V}{d:D}(h:Is X.K H v d)(n:Nat)(hf:Fz d∨Is X.K Hb v d∨Mine d)(ho:∀a,aR d=some a→Hb a=none):
  RelS X Hb H (σ.set n (some v)) (ρ.set n (some d)):=by
 refine⟨r.same,by simp[r.len],λj e hj=> ?_,λa ⟨j,ds,hj,hz⟩=> ?_⟩
 ·rcases dQ hj with⟨rfl,rfl,hl⟩|⟨hne,hj⟩
  ·refine⟨v,?_,h,hf⟩
   rw[List.getElem?_set,if_pos rfl,if_pos (by rw[r.len];exact hl)]
  ·obtain⟨u,h1,h2⟩:=r.val j e hj
   exact⟨u,by rw[List.getElem?_set_ne (λz=>hne z.symm)];exact h1,h2⟩
 ·rcases dQ hj with⟨rfl,rfl,hl⟩|⟨hne,hj⟩
  ·exact ho a hz
  ·exact r.own a ⟨j,ds,hj,hz⟩
structure Go(ρ:Ro)(H:Hp)(ρ':Ro)(H':Hp): Prop where
 kept:∀b o,H b=some o→¬Mu ρ b→H' b=some o
 mu:∀a,Mu ρ' a→Mu ρ a∨H a=none
theorem Go.refl(ρ:Ro)(H:Hp): Go ρ H ρ H:=⟨λ_ _ h _=>h,λ_ h=>.inl h⟩
theorem Go.trans {ρ ρ1 ρ2 : Ro} {H H1 H2 : Hp} (a : Go ρ H ρ1 H1) (b : Go ρ1 H1 ρ2 H2) : Go ρ H ρ2 H2 where
  kept := fun c o h n => b.kept c o (a.kept c o h n) fun m => by
    rcases a.mu c m with z | z
    · exact n z
    · rw [h] at z; cases z
  mu := fun c m => by
    rcases b.mu c m with z | z
    · exact a.mu c z
    · by_cases hc : Mu ρ c
      · exact .inl hc
      · refine .inr ?_
        cases q : H c with
        | none => rfl
        | some o => rw [a.kept c o q hc] at z; cases z
theorem Go.same{ρ:Ro}{H H':Hp}(e:Same H H'): Go ρ H ρ H':=⟨λb o h _=>e b o h,λ_ h=>.inl h⟩
theorem Go.kt{X:Cx}{ρ ρ':Ro}{Hb H H':Hp}{σ:L2.St}(g:Go ρ H ρ' H')(r:RelS X Hb H σ ρ): KT H H':=
 ⟨λb _ h=>g.kept b _ h (λm=>by obtain⟨ys,e,z⟩:=r.mu m;rw[h]at e;cases e;exact z),λb _ _ h=>g.kept b _ h (λm=>by obtain⟨ys,e,z⟩:=r.mu m;rw[h]at e;cases e;exact z)⟩
theorem Go.set{ρ:Ro}{H H':Hp}(e:Same H H'){d:D}{n:Nat}(hd:∀a,aR d=some a→Mu ρ a∨H a=none): Go ρ H (ρ.set n (some d)) H':=
 ⟨λb o h _=>e b o h,λa ⟨j,ds,hj,hz⟩=>by
  rcases dQ hj with⟨rfl,rfl,_⟩|⟨_,hj⟩
  ·exact hd a hz
  ·exact .inl ⟨j,ds,hj,hz⟩⟩
structure RelE(X:Cx)(H:Hp)(σ:L2.St)(ρ:Ro): Prop where
 len:σ.length=ρ.length
 val:∀(i:Nat) (d:D),ρ[i]?=some (some d)→∃v,σ[i]?=some (some v)∧Is X.K H v d
theorem RelE.mono{X:Cx}{H H':Hp}{σ:L2.St}{ρ:Ro}(r:RelE X H σ ρ)(e:Same H H'): RelE X H' σ ρ:=⟨r.len,λi d h=>let ⟨v,a,b⟩:=r.val i d h;⟨v,a,b.mono e⟩⟩
theorem RelS.e{X:Cx}{Hb H:Hp}{σ:L2.St}{ρ:Ro}(r:RelS X Hb H σ ρ): RelE X H σ ρ:=⟨r.len,λi d h=>let ⟨v,a,b,_⟩:=r.val i d h;⟨v,a,b⟩⟩
def o0(ρ:Ro)(i:Nat): Int:=match ρ[i]? with
 | some (some (D.int l))=>l
 | _=>0
def tD(X:Cx)(ρ:Ro)(d:D): TE:=λσ H Q=>RelE X H σ ρ∧∀v H',Same H H'→Is X.K H' v d→Q v H'
def tB(X:Cx)(ρ:Ro)(b:Bool): TT:=λσ H Q=>RelE X H σ ρ∧∀H',Same H H'→Q b H'
def tDs(X:Cx)(ρ:Ro)(ds:List D): TA:=λσ H Q=>RelE X H σ ρ∧∀vs H',Same H H'→IsAll X.K H' vs ds→Q vs H'
def Ev(X:Cx)(e:Expr)(ρ:Ro)(d:D): Prop:=PE X e (tD X ρ d)
def Et(X:Cx)(e:Expr)(ρ:Ro)(b:Bool): Prop:=PT X e (tB X ρ b)
def Ew(X:Cx)(e:Expr)(ρ:Ro)(b:Bool): Prop:=PW X e (tB X ρ b)
def gx(X:Cx)(es:List Expr)(ρ:Ro)(ds:List D): Prop:=PA X es (tDs X ρ ds)
section
variable {X : Cx} {e a b c : Expr} {es : List Expr} {ρ : Ro} {d : D} {ds : List D} {pos : Pos} {i j : Int} {k k' : Bool}
theorem Ev.tt{p:Prop}[Decidable p](h:Ev X e ρ (.bl (decide p)))(hp:p): Ev X e ρ (.bl true):=by rw[decide_eq_true hp]at h;exact h
theorem Ev.ff{p:Prop}[Decidable p](h:Ev X e ρ (.bl (decide p)))(hp:¬p): Ev X e ρ (.bl false):=by rw[decide_eq_false hp]at h;exact h
theorem Et.tt{p:Prop}[Decidable p](h:Et X e ρ (decide p))(hp:p): Et X e ρ true:=by rw[decide_eq_true hp]at h;exact h
theorem Et.ff'{p:Prop}[Decidable p](h:Et X e ρ (decide p))(hp:¬p): Et X e ρ false:=by rw[decide_eq_false hp]at h;exact h
theorem Et.ff{p:Prop}[Decidable p](h:Et X e ρ (!decide p))(hp:p): Et X e ρ false:=by rw[decide_eq_true hp]at h;exact h
theorem PE.imp{t t':TE}(h:PE X e t)(f:∀σ H Q,t' σ H Q→t σ H Q): PE X e t':=λpins s σ H Q I q=>h pins s σ H Q I (f σ H Q q)
theorem PT.imp{t t':TT}(h:PT X e t)(f:∀σ H Q,t' σ H Q→t σ H Q): PT X e t':=λpins s σ H Q I q=>h pins s σ H Q I (f σ H Q q)
theorem PW.imp{t t':TT}(h:PW X e t)(f:∀σ H Q,t' σ H Q→t σ H Q): PW X e t':=λwhole pins s σ H Q I q=>h whole pins s σ H Q I (f σ H Q q)
theorem PA.imp{t t':TA}(h:PA X es t)(f:∀σ H Q,t' σ H Q→t σ H Q): PA X es t':=λpos pins s σ H Q I q=>h pos pins s σ H Q I (f σ H Q q)
theorem PS.imp{st:Stmt}{t t':TS}(h:PS X st t)(f:∀D σ H,t' D σ H→t D σ H): PS X st t':=λpins s σ H D I q=>h pins s σ H D I (f D σ H q)
theorem PSs.imp{st:List Stmt}{t t':TS}(h:PSs X st t)(f:∀D σ H,t' D σ H→t D σ H): PSs X st t':=λpins s σ H D I q=>h pins s σ H D I (f D σ H q)
theorem af(n:Nat){x:Str}(hρ:ρ[n]?=some (some d):=by rfl)(hN:X.N[n]?=some x:=by rfl)(hv:Vis X.env.scope x:=by first|exact Or.inl rfl|exact Or.inr (Or.inl rfl)|exact Or.inr (Or.inr rfl))
  (hd:(x==("__debug__": Str))=false:=by decide) (hcd:(x==("__classdict__": Str))=false:=by decide):Ev X (.Name x pos) ρ d:=
 PE.imp (pe_var hN hv hd hcd) λσ H Q ⟨r,q⟩=>let ⟨v,h1,h2⟩:=r.val n d hρ;⟨v,h1,q v H (Same.refl H) h2⟩
theorem aa{z:Int}{m}: Ev X (.Constant (.int z) m pos) ρ (.int z):=PE.imp pe_int λ_ H _ ⟨_,q⟩=>q _ H (Same.refl H) (.int z)
theorem bO{z:Bool}{m}: Ev X (.Constant (.bool z) m pos) ρ (.bl z):=PE.imp pe_bl λ_ H _ ⟨_,q⟩=>q _ H (Same.refl H) (.bl z)
theorem jC{m}: Ev X (.Constant .none m pos) ρ .non:=PE.imp pe_non λ_ H _ ⟨_,q⟩=>q _ H (Same.refl H) .non
theorem cj{z:Str}{m}: Ev X (.Constant (.str z) m pos) ρ (.str z):=PE.imp pe_str λ_ H _ ⟨_,q⟩=>q _ H (Same.refl H) (.str z)
theorem xA{x:Str}{n:String}(hm:X.mg x=none)(hv:bootBuiltins x=some (.type n))(hg:Gl X x:=by rfl)(hn:x≠ "__name__":= by decide)(hd:(x==("__debug__": Str))=false:=by decide): Ev X (.Name x pos) ρ (.ty n):=
 PE.imp (pe_bltn hg hm hv (v:=.ty n) rfl hn hd) λ_ H _ ⟨_,q⟩=>q _ H (Same.refl H) (.ty n)
theorem kU{op:Operator}{r:R2}{d1 d2:D}(ho:OpR X (binaryOp op) r)(ha:Ev X a ρ d1)(hb:Ev X b ρ d2)
  (hr:∀v1 v2 H Q,Is X.K H v1 d1→Is X.K H v2 d2→(∀v H',Same H H'→Is X.K H' v d→Q v H')→r v1 v2 H Q):Ev X (.BinOp a op b pos) ρ d:=
 PE.imp (pe_op ho ha hb) λσ H Q ⟨r,q⟩=>⟨r,λv1 H1 s1 h1=>⟨r.mono s1,λv2 H2 s2 h2=>hr v1 v2 H2 Q (h1.mono s2) h2 λv H' s3 h3=>q v H' (s1.trans (s2.trans s3)) h3⟩⟩
theorem nN{op:CmpOp}{r:R2}{d1 d2:D}(ho:OpR X (compareOp op) r)(ha:Ev X a ρ d1)(hb:Ev X b ρ d2)(hm:behindInMarks op b=false)
  (hr:∀v1 v2 H Q,Is X.K H v1 d1→Is X.K H v2 d2→(∀v H',Same H H'→Is X.K H' v d→Q v H')→r v1 v2 H Q):Ev X (.Compare a [op] [b] pos) ρ d:=
 PE.imp (pe_cmpR ho ha hb hm) λσ H Q ⟨r,q⟩=>⟨r,λv1 H1 s1 h1=>⟨r.mono s1,λv2 H2 s2 h2=>hr v1 v2 H2 Q (h1.mono s2) h2 λv H' s3 h3=>q v H' (s1.trans (s2.trans s3)) h3⟩⟩
theorem gG{op:CmpOp}{r:R2}{d1 d2:D}(ho:OpR X (compareOp op) r)(ha:Ev X a ρ d1)(hb:Ev X b ρ d2)(hm:behindInMarks op b=false)
  (hr:∀v1 v2 H Q,Is X.K H v1 d1→Is X.K H v2 d2→(∀v H',Same H H'→Is X.K H' v (.bl k)→Q v H')→r v1 v2 H Q):Et X (.Compare a [op] [b] pos) ρ k:=
 PT.imp (pt_cmpR ho ha hb hm) λσ H Q ⟨r,q⟩=>⟨r,λv1 H1 s1 h1=>⟨r.mono s1,λv2 H2 s2 h2=>hr v1 v2 H2 _ (h1.mono s2) h2 λv H' s3 h3=>⟨k,h3.bl_inv,q H' (s1.trans (s2.trans s3))⟩⟩⟩
theorem pO{C:Int→Int→Prop}{g:Int→Int→V}(hC:C i j)(hg:∀H,Is X.K H (g i j) d):
  ∀v1 v2 H Q,Is X.K H v1 (.int i)→Is X.K H v2 (.int j)→(∀v H',Same H H'→Is X.K H' v d→Q v H')→rI C g v1 v2 H Q:=
 λ_ _ H _ h1 h2 q=>⟨i,j,h1.int_inv,h2.int_inv,hC,q _ H (Same.refl H) (hg H)⟩
theorem iN{g:Int→Int→V}(hg:∀H,Is X.K H (g i j) d):
  ∀v1 v2 H Q,Is X.K H v1 (.int i)→Is X.K H v2 (.int j)→(∀v H',Same H H'→Is X.K H' v d→Q v H')→rI0 g v1 v2 H Q:=
 λ_ _ H _ h1 h2 q=>⟨i,j,h1.int_inv,h2.int_inv,q _ H (Same.refl H) (hg H)⟩
theorem aI(ha:Ev X a ρ (.int i))(hb:Ev X b ρ (.int j)): Ev X (.BinOp a .Add b pos) ρ (.int (i+j)):=kU op_add ha hb (iN λ_=>.int _)
theorem aU(ha:Ev X a ρ (.int i))(hb:Ev X b ρ (.int j)): Ev X (.BinOp a .Sub b pos) ρ (.int (i-j)):=kU op_sub ha hb (iN λ_=>.int _)
theorem wR:OpR X (binaryOp .Mult) (rI IntMulOk λi j=>.int (i*j)):=opI λ_ _ _ _ _ _ _ hc q=>mul_int q hc
class Bd(i:Int)(m:outParam Nat): Prop where
 lt:Builtin.Int.intBits i≤m
theorem zi{i j:Int}{m n:Nat}(hi:Bd i m)(hj:Bd j n)(h:m+n≤134217728): IntMulOk i j:=IntMulOk.of_le hi.lt hj.lt h
theorem aw{m n:Nat}(ha:Ev X a ρ (.int i))(hb:Ev X b ρ (.int j))(hi:Bd i m)(hj:Bd j n)(h:m+n≤134217728:=by decide): Ev X (.BinOp a .Mult b pos) ρ (.int (i*j)):=
 kU wR ha hb (pO (zi hi hj h) λ_=>.int _)
theorem aA(ha:Ev X a ρ (.int i))(hb:Ev X b ρ (.int j))(h:0<j): Ev X (.BinOp a .Mod b pos) ρ (.int (i%j)):=kU op_mod ha hb (pO h λ_=>.int _)
def yK(_ j:Int): Prop:=0<j∧Builtin.Int.intBits j≤9000
theorem vm:OpR X (binaryOp .FloorDiv) (rI yK λi j=>.int (i/j)):=opI λi j _ _ _ _ _ hc q=>by
 have h1:(0:Int)<j:=hc.1
 refine floordiv_int (by omega) (by rw[Int.fdiv_eq_ediv_of_nonneg i (by omega)];exact q) (.inl (PyProof.noPylong_of_log2 ?_))
 have h2:=intBits_le_iff.mp hc.2
 exact(Nat.log2_lt (by omega)).mpr h2
theorem aM{m:Nat}(ha:Ev X a ρ (.int i))(hb:Ev X b ρ (.int j))(h:0<j)(hj:Bd j m)(hm:m≤9000:=by decide): Ev X (.BinOp a .FloorDiv b pos) ρ (.int (i/j)):=
 kU vm ha hb (pO ⟨h,Nat.le_trans hj.lt hm⟩ λ_=>.int _)
def yM(i j:Int): Prop:=0≤j∧(Builtin.Int.intBits i:Int)*j≤2^27
theorem wS:OpR X (binaryOp .Pow) (rI yM λi j=>.int (i^j.toNat)):=opI λ_ _ _ _ _ _ _ hc q=>pow_int hc.1 hc.2 q
theorem xR{m n:Nat}(ha:Ev X a ρ (.int i))(hb:Ev X b ρ (.int ((n:Nat):Int)))(hi:Bd i m)(h:m*n≤134217728:=by decide): Ev X (.BinOp a .Pow b pos) ρ (.int (i^n)):=by
 refine kU wS ha hb (pO ⟨Int.natCast_nonneg n,?_⟩ λ_=>.int _)
 have h1:Builtin.Int.intBits i*n≤m*n:=Nat.mul_le_mul_right n hi.lt
 have h2:(Builtin.Int.intBits i*n:Nat)≤134217728:=Nat.le_trans h1 h
 have h3:((Builtin.Int.intBits i*n:Nat):Int)≤134217728:=by omega
 rw[Int.natCast_mul]at h3
 exact h3
theorem aE(ha:Ev X a ρ (.int i)): Ev X (.UnaryOp .USub a pos) ρ (.int (-i)):=
 PE.imp (pe_un un_neg ha) λσ H Q ⟨r,q⟩=>⟨r,λv1 H1 s1 h1=>⟨i,h1.int_inv,q _ H1 s1 (.int _)⟩⟩
theorem oS(ha:Ev X a ρ (.int i))(hb:Ev X b ρ (.int j)): Ev X (.Compare a [.Lt] [b] pos) ρ (.bl (decide (i<j))):=nN op_lt ha hb (nomark _) (iN λ_=>.bl _)
theorem uP(ha:Ev X a ρ (.int i))(hb:Ev X b ρ (.int j)): Ev X (.Compare a [.Gt] [b] pos) ρ (.bl (decide (j<i))):=nN op_gt ha hb (nomark _) (iN λ_=>.bl _)
theorem im(ha:Ev X a ρ (.int i))(hb:Ev X b ρ (.int j)): Et X (.Compare a [.Lt] [b] pos) ρ (decide (i<j)):=gG op_lt ha hb (nomark _) (iN λ_=>.bl _)
theorem yZ(ha:Ev X a ρ (.int i))(hb:Ev X b ρ (.int j)): Et X (.Compare a [.LtE] [b] pos) ρ (decide (i≤j)):=gG op_le ha hb (nomark _) (iN λ_=>.bl _)
theorem oR(ha:Ev X a ρ (.int i))(hb:Ev X b ρ (.int j)): Et X (.Compare a [.Gt] [b] pos) ρ (decide (j<i)):=gG op_gt ha hb (nomark _) (iN λ_=>.bl _)
theorem xv{i j:Int}: decide (V.int i=V.int j)=decide (i=j):=by
 by_cases h:i=j
 ·subst h;simp
 ·rw[decide_eq_false h,decide_eq_false (λz=>h (V.int.inj z))]
theorem vD:∀v1 v2 H Q,Is X.K H v1 (.int i)→Is X.K H v2 (.int j)→(∀v H',Same H H'→Is X.K H' v (.bl (decide (i=j)))→Q v H')→rEq v1 v2 H Q:=λv1 v2 H Q h1 h2 q=>by
 cases h1.int_inv;cases h2.int_inv
 exact⟨rfl,by rw[xv];exact q _ H (Same.refl H) (.bl _)⟩
theorem yn:∀v1 v2 H Q,Is X.K H v1 (.int i)→Is X.K H v2 (.int j)→(∀v H',Same H H'→Is X.K H' v (.bl (!decide (i=j)))→Q v H')→rNe v1 v2 H Q:=λv1 v2 H Q h1 h2 q=>by
 cases h1.int_inv;cases h2.int_inv
 exact⟨rfl,by rw[xv];exact q _ H (Same.refl H) (.bl _)⟩
theorem gH(ha:Ev X a ρ (.int i))(hb:Ev X b ρ (.int j)): Ev X (.Compare a [.Eq] [b] pos) ρ (.bl (decide (i=j))):=nN op_eq ha hb (nomark _) vD
theorem aj(ha:Ev X a ρ (.int i))(hb:Ev X b ρ (.int j)): Et X (.Compare a [.Eq] [b] pos) ρ (decide (i=j)):=gG op_eq ha hb (nomark _) vD
theorem eM(ha:Ev X a ρ (.int i))(hb:Ev X b ρ (.int j)): Et X (.Compare a [.NotEq] [b] pos) ρ (!decide (i=j)):=gG op_ne ha hb (nomark _) yn
theorem aJ(h:Ev X e ρ (.bl k))(he:∀whole,isTrue e X.env whole=(do let v ← whole;standAt e.pos;holding [v] (truthy v)):=by intro _;rfl): Et X e ρ k:=
 PT.imp (pt_val h he) λσ H Q ⟨r,q⟩=>⟨r,λv H' s h=>⟨k,h.bl_inv,q H' s⟩⟩
theorem uL(h:Et X a ρ k): Et X (.UnaryOp .Not a pos) ρ (!k):=PT.imp (pt_not h) λσ H Q ⟨r,q⟩=>⟨r,λH' s=>q H' s⟩
theorem cz(h:Et X a ρ true): Et X (.UnaryOp .Not a pos) ρ false:=uL h
theorem bJ(h:Et X a ρ false): Et X (.UnaryOp .Not a pos) ρ true:=uL h
theorem cC(h:Et X a ρ k): Ew X (.BoolOp .And [a] pos) ρ k:=PW.imp (pw_and1 h) λ_ _ _ q=>q
theorem gI(h:Et X a ρ k): Ew X (.BoolOp .Or [a] pos) ρ k:=PW.imp (pw_or1 h) λ_ _ _ q=>q
theorem bC{rest:List Expr}(h:Et X a ρ false): Ew X (.BoolOp .And (a::b::rest) pos) ρ false:=
 PW.imp (pw_and (tB':=λ_ _ _=>False) h (λ_ _ _ _ _ _ _ z=>z.elim)) λσ H Q ⟨r,q⟩=>⟨r,λH' s=>iteF (q H' s)⟩
theorem cD{rest:List Expr}(h:Et X a ρ true)(h2:Ew X (.BoolOp .And (b::rest) pos) ρ k): Ew X (.BoolOp .And (a::b::rest) pos) ρ k:=
 PW.imp (pw_and h h2) λσ H Q ⟨r,q⟩=>⟨r,λH' s=>iteT ⟨r.mono s,λH'' s'=>q H'' (s.trans s')⟩⟩
theorem xT{rest:List Expr}(h:Et X a ρ k)(h2:k=true→Ew X (.BoolOp .And (b::rest) pos) ρ k'): Ew X (.BoolOp .And (a::b::rest) pos) ρ (k&&k'):=by
 cases k with
 | false=>exact bC h
 | true=>exact cD h (h2 rfl)
theorem jD{rest:List Expr}(h:Et X a ρ true): Ew X (.BoolOp .Or (a::b::rest) pos) ρ true:=
 PW.imp (pw_or (tB':=λ_ _ _=>False) h (λ_ _ _ _ _ _ _ z=>z.elim)) λσ H Q ⟨r,q⟩=>⟨r,λH' s=>iteT (q H' s)⟩
theorem fG{rest:List Expr}(h:Et X a ρ false)(h2:Ew X (.BoolOp .Or (b::rest) pos) ρ k): Ew X (.BoolOp .Or (a::b::rest) pos) ρ k:=
 PW.imp (pw_or h h2) λσ H Q ⟨r,q⟩=>⟨r,λH' s=>iteF ⟨r.mono s,λH'' s'=>q H'' (s.trans s')⟩⟩
theorem y4{rest:List Expr}(h:Et X a ρ k)(h2:k=false→Ew X (.BoolOp .Or (b::rest) pos) ρ k'): Ew X (.BoolOp .Or (a::b::rest) pos) ρ (k || k'):=by
 cases k with
 | true=>exact jD h
 | false=>exact fG h (h2 rfl)
theorem Et.to(h:Et X e ρ k)(z:k=k'): Et X e ρ k':=z▸h
theorem Ev.to{d':D}(h:Ev X e ρ d)(z:d=d'): Ev X e ρ d':=z▸h
theorem bH(h:Ew X e ρ k): Et X e ρ k:=PW.pt h
theorem iJ{op}(h:Ev X a ρ d): Ev X (.BoolOp op [a] pos) ρ d:=pe_one h
theorem fF{rest:List Expr}(h:Ev X a ρ (.bl false)): Ev X (.BoolOp .And (a::b::rest) pos) ρ (.bl false):=
 PE.imp (pe_and (tb:=λ_ _ _=>False) h (λ_ _ _ _ _ _ z=>z.elim)) λσ H Q ⟨r,q⟩=>⟨r,λv H' s h=>⟨false,h.bl_inv,iteF (q _ H' s (.bl false))⟩⟩
theorem dw{rest:List Expr}(h:Ev X a ρ (.bl true))(h2:Ev X (.BoolOp .And (b::rest) pos) ρ d): Ev X (.BoolOp .And (a::b::rest) pos) ρ d:=
 PE.imp (pe_and h h2) λσ H Q ⟨r,q⟩=>⟨r,λv H' s h=>⟨true,h.bl_inv,iteT ⟨r.mono s,λv' H'' s' h'=>q v' H'' (s.trans s') h'⟩⟩⟩
theorem uR(h:Ev X a ρ (.bl k)): Ev X (.UnaryOp .Not a pos) ρ (.bl (!k)):=
 PE.imp (pe_not h) λσ H Q ⟨r,q⟩=>⟨r,λv H' s h=>⟨k,h.bl_inv,q _ H' s (.bl _)⟩⟩
theorem wz(h:Ev X a ρ (.bl true)): Ev X (.UnaryOp .Not a pos) ρ (.bl false):=uR h
theorem rP(h:Ev X a ρ (.bl false)): Ev X (.UnaryOp .Not a pos) ρ (.bl true):=uR h
theorem qI(hc:Et X c ρ true)(ha:Ev X a ρ d): Ev X (.IfExp c a b pos) ρ d:=
 PE.imp (pe_ifExp (tb:=λ_ _ _=>False) hc ha (λ_ _ _ _ _ _ z=>z.elim)) λσ H Q ⟨r,q⟩=>⟨r,λH' s=>iteT ⟨r.mono s,λv H'' s' h=>q v H'' (s.trans s') h⟩⟩
theorem qH(hc:Et X c ρ false)(hb:Ev X b ρ d): Ev X (.IfExp c a b pos) ρ d:=
 PE.imp (pe_ifExp (ta:=λ_ _ _=>False) hc (λ_ _ _ _ _ _ z=>z.elim) hb) λσ H Q ⟨r,q⟩=>⟨r,λH' s=>iteF ⟨r.mono s,λv H'' s' h=>q v H'' (s.trans s') h⟩⟩
theorem ae:gx X [] ρ []:=PA.imp pa_nil λ_ H _ ⟨_,q⟩=>q [] H (Same.refl H) .nil
theorem ad(ha:Ev X e ρ d)(hr:gx X es ρ ds)(hs:starEach (e::es) X.env=(false,eval e X.env)::starEach es X.env:=by rfl): gx X (e::es) ρ (d::ds):=
 PA.imp (pa_cons ha hr hs) λσ H Q ⟨r,q⟩=>⟨r,λv H1 s1 h1=>⟨r.mono s1,λvs H2 s2 h2=>q _ H2 (s1.trans s2) (.cons (h1.mono s2) h2)⟩⟩
theorem bA{H:Hp}{p:Addr}{o:HO}(h:H p=none): Same H (upd H p o):=λb u e=>by
 rw[upd_ne (ne_of_none e h)];exact e
theorem ap{m}(h:gx X es ρ ds)(hl:ds.length≤1000:=by exact Nat.le_of_ble_eq_true rfl): Ev X (.Tuple es m pos) ρ (.tup ds):=
 PE.imp (pe_tup h) λσ H Q ⟨r,q⟩=>⟨r,λvs H1 s1 h1=>⟨by rw[h1.length];exact Nat.le_of_lt (small1000 hl),λp hp=>q _ _ (s1.trans (bA hp)) (.tup upd_same (h1.mono (bA hp)))⟩⟩
theorem kA{K:PySem.W.Frag}{H:Hp}{vs:List V}{ds:List D}(h:IsAll K H vs ds){d:D}(e:atI ds i=some d): ∃v,atI vs i=some v∧Is K H v d:=by
 unfold atI at e ⊢
 rw[h.length]
 cases q:ixN ds.length i with
 | none=>rw[q]at e;cases e
 | some n=>
  rw[q]at e
  exact h.get (i:=n) e
theorem av(ha:Ev X a ρ (.tup ds))(hb:Ev X b ρ (.int i))(hi:atI ds i=some d)(hs:PlainIx b:=by exact λ_ _=>rfl): Ev X (.Subscript a b pos) ρ d:=
 PE.imp (pe_ix ix_tup ha hb hs) λσ H Q ⟨r,q⟩=>⟨r,λv1 H1 s1 h1=>⟨r.mono s1,λv2 H2 s2 h2=>by
  obtain⟨p,xs,rfl,h3,h4⟩:=(h1.mono s2).tup_inv
  obtain⟨v,e,h5⟩:=kA h4 hi
  exact⟨p,xs,i,v,rfl,h2.int_inv,h3,e,q v H2 (s1.trans s2) h5⟩⟩⟩
theorem qJ{d':D}(ha:Ev X a ρ d')(hl:qW d'=some ds)(hb:Ev X b ρ (.int i))(hi:atI ds i=some d)(hs:PlainIx b:=by exact λ_ _=>rfl): Ev X (.Subscript a b pos) ρ d:=
 PE.imp (pe_ix ix_list ha hb hs) λσ H Q ⟨r,q⟩=>⟨r,λv1 H1 s1 h1=>⟨r.mono s1,λv2 H2 s2 h2=>by
  obtain⟨l,xs,rfl,h3,h4⟩:=(h1.mono s2).lsD_inv hl
  obtain⟨v,e,h5⟩:=kA h4 hi
  exact⟨l,xs,i,v,rfl,h2.int_inv,h3,e,q v H2 (s1.trans s2) h5⟩⟩⟩
theorem fb{x:Str}{id:String}{r:List V→Hp→VK→Prop}(hc:CallR X (.builtin id) r)(hm:X.mg x=none)(hv:bootBuiltins x=some (.builtin id))(ha:gx X (e::es) ρ ds)
  (hr:∀vs H Q,IsAll X.K H vs ds→(∀v H',Same H H'→Is X.K H' v d→Q v H')→r vs H Q)
  (hg:Gl X x:=by rfl) (hn:x≠ "__name__":= by decide) (hdb:(x==("__debug__": Str))=false:=by decide)
  (he:starEach (e::es) X.env=(false,eval e X.env)::starEach es X.env:=by rfl) (hpl:(backTo pos (starEach es X.env)).any (·.1)=false:=by rfl) {p:Pos}:Ev X (.Call (.Name x p) (e::es) [] pos) ρ d:=
 PE.imp (pe_callB hc hg hm hv ha hn hdb he hpl) λσ H Q ⟨r,q⟩=>⟨r,λvs H1 s1 h1=>hr vs H1 Q h1 λv H' s' h=>q v H' (s1.trans s') h⟩
theorem eO{K:PySem.W.Frag}{H:Hp}{vs:List V}{d:D}(h:IsAll K H vs [d]): ∃v,vs=[v]∧Is K H v d:=by
 cases h with
 | cons h r=>cases r;exact⟨_,rfl,h⟩
theorem ol{K:PySem.W.Frag}{H:Hp}{vs:List V}{d d':D}(h:IsAll K H vs [d,d']): ∃v v',vs=[v,v']∧Is K H v d∧Is K H v' d':=by
 cases h with
 | cons h r=>
  obtain⟨v',rfl,h'⟩:=eO r
  exact⟨_,_,rfl,h,h'⟩
theorem uM{p:Pos}(hm:X.mg "abs"=none)(ha:Ev X a ρ (.int i))(hg:Gl X "abs":= by rfl)(he:starEach [a] X.env=[(false,eval a X.env)]:=by rfl): Ev X (.Call (.Name "abs" p) [a] [] pos) ρ (.int (i.natAbs:Int)):=
 fb call_abs hm (by decide +kernel) (ad ha ae he) (λvs H Q h0 q=>by
  obtain⟨v,rfl,h⟩:=eO h0
  cases h.int_inv
  refine⟨i,rfl,?_⟩
  have e:(if i<0 then -i else i)=(i.natAbs:Int):=by split<;>omega
  rw[e]
  exact q _ H (Same.refl H) (.int _)) hg (by decide) (by decide) he rfl
def qU:D→Option Nat
 | .tup ds=>some ds.length
 | .ls ds=>some ds.length
 | .lst _ ds=>some ds.length
 | .kt ds=>some ds.length
 | .fl ds=>some ds.length
 | .str x=>if x.length≤16777216 then some x.length else none
 | _=>none
theorem nP{p:Pos}{n:Nat}(hm:X.mg "len"=none)(ha:Ev X a ρ d)(hl:qU d=some n)(hg:Gl X "len":= by rfl)(he:starEach [a] X.env=[(false,eval a X.env)]:=by rfl): Ev X (.Call (.Name "len" p) [a] [] pos) ρ (.int (n:Int)):=
 fb call_len hm (by decide +kernel) (ad ha ae he) (λvs H Q h0 q=>by
  obtain⟨v,rfl,h⟩:=eO h0
  refine⟨v,n,rfl,?_,q _ H (Same.refl H) (.int _)⟩
  cases d with
  | tup ds=>
   obtain⟨a,xs,rfl,h1,h2⟩:=h.tup_inv
   cases hl
   exact .inr ⟨xs,h1,h2.length.symm⟩
  | ls ds=>
   obtain⟨a,xs,rfl,h1,h2⟩:=h.ls_inv
   cases hl
   exact .inl ⟨xs,h1,h2.length.symm⟩
  | lst a ds=>
   obtain⟨rfl,xs,h1,h2⟩:=h.lst_inv
   cases hl
   exact .inl ⟨xs,.of h1,h2.length.symm⟩
  | kt ds=>
   obtain⟨a,xs,rfl,h1,h2⟩:=h.kt_inv
   cases hl
   exact .inr ⟨xs,h1,h2.length.symm⟩
  | fl ds=>
   obtain⟨a,o,xs,rfl,h1,h2⟩:=h.fl_inv
   cases hl
   exact .inl ⟨xs,.inl (.inr ⟨o,h1⟩),h2.length.symm⟩
  | str x=>
   cases h.str_inv
   have hl':(if x.length≤16777216 then some x.length else none)=some n:=hl
   by_cases hx:x.length≤16777216
   ·rw[if_pos hx]at hl'
    cases hl'
    exact⟨by rw[sizeLine_eq];exact hx,rfl⟩
   ·rw[if_neg hx]at hl'
    cases hl'
  | _=>cases hl) hg (by decide) (by decide) he rfl
end
def tyD:D→Option String
 | .non=>some "NoneType"
 | .bl _=>some "bool"
 | .int _=>some "int"
 | .str _=>some "str"
 | .tup _=>some "tuple"
 | .ls _=>some "list"
 | .lst _ _=>some "list"
 | .ty _=>none
 | .ob _=>none
 | .kt _=>some "tuple"
 | .fl _=>some "list"
 | .fd _ _ _=>none
 | .dc _ _ _ _=>none
 | .qi _ _=>none
 | .exn _=>none
theorem uw{X:Cx}{d:D}{T U:String}{k:Bool}(ht:tyD d=some T)(hk:PySem.W.kitOne X.K (.type T) (.type U)=some k):
  CallR X (.builtin "isinstance") (λvs H Q=>∃v,vs=[v,.ty U]∧Is X.K H v d∧Q (.bl k) H):=by
 intro pins s σ H xs us Q I r h
 obtain⟨v,rfl,h,q⟩:=h
 obtain⟨u,w',rfl,rx,ry⟩:=vals2 r
 cases ry
 have fin:∀tk,EP X pins σ Q (.bool k) { s with toks:=tk }:=λtk=>⟨.bl k,H,I.tok tk,rfl,q⟩
 cases d with
 | non=>cases h.non_inv;cases ht;exact isinst_ok I rx .non hk fin
 | bl b=>cases h.bl_inv;cases ht;exact isinst_ok I rx (.bl b) hk fin
 | int i=>cases h.int_inv;cases ht;exact isinst_ok I rx (.int i) hk fin
 | str x=>cases h.str_inv;cases ht;exact isinst_ok I rx (.str x) hk fin
 | tup ds=>
  obtain⟨a,xs,rfl,h1,_⟩:=h.tup_inv
  cases ht
  cases rx
  obtain⟨its,_,⟨o,e1,e2,_⟩,_⟩:=I.tuple h1
  exact PySem.W.kia_one PySem.W.kitx_tuple I.kIn ⟨o,e1,e2⟩ hk (λz=>nomatch z) fin
 | ls ds=>
  obtain⟨a,xs,rfl,h1,_⟩:=h.ls_inv
  cases ht
  cases rx
  obtain⟨its,_,p,_⟩:=I.list h1
  obtain⟨o,e1,e2,_⟩:=p.isList
  exact PySem.W.kia_one PySem.W.kitx_list I.kIn ⟨o,e1,e2⟩ hk (λz=>nomatch z) fin
 | lst a ds=>
  obtain⟨rfl,xs,h1,_⟩:=h.lst_inv
  cases ht
  cases rx
  obtain⟨its,_,p,_⟩:=I.list (.of h1)
  obtain⟨o,e1,e2,_⟩:=p.isList
  exact PySem.W.kia_one PySem.W.kitx_list I.kIn ⟨o,e1,e2⟩ hk (λz=>nomatch z) fin
 | kt ds=>
  obtain⟨a,xs,rfl,h1,_⟩:=h.kt_inv
  cases ht
  cases rx
  obtain⟨its,_,⟨o,e1,e2,_⟩,_⟩:=I.tuple h1
  exact PySem.W.kia_one PySem.W.kitx_tuple I.kIn ⟨o,e1,e2⟩ hk (λz=>nomatch z) fin
 | fl ds=>
  obtain⟨a,ob,xs,rfl,h1,_⟩:=h.fl_inv
  cases ht
  cases rx
  obtain⟨its,_,p,_⟩:=I.list (.inl (.inr ⟨ob,h1⟩))
  obtain⟨o,e1,e2,_⟩:=p.isList
  exact PySem.W.kia_one PySem.W.kitx_list I.kIn ⟨o,e1,e2⟩ hk (λz=>nomatch z) fin
 | qi C ds=>cases ht
 | exn C=>cases ht
 | ty n=>cases ht
 | ob a=>cases ht
 | fd t ks vs=>cases ht
 | dc a t ks vs=>cases ht
section
variable {X : Cx} {e a b c : Expr} {es : List Expr} {ρ : Ro} {d : D} {ds : List D} {pos : Pos} {i j : Int} {k k' : Bool}
theorem ci{x:Str}{U T:String}{p p2:Pos}(hm:X.mg "isinstance"=none)(ha:Ev X a ρ d)(hmT:X.mg x=none)(hv:bootBuiltins x=some (.type U))(ht:tyD d=some T)(hk:PySem.W.kitOne X.K (.type T) (.type U)=some k)
  (hg:Gl X "isinstance":= by rfl) (hgT:Gl X x:=by rfl) (hn:x≠ "__name__":= by decide) (hd:(x==("__debug__": Str))=false:=by decide)
  (he:starEach [a,.Name x p2] X.env=[(false,eval a X.env),(false,eval (.Name x p2) X.env)]:=by rfl) (hb:(backTo pos (starEach [.Name x p2] X.env)).any (·.1)=false:=by rfl) :
  Ev X (.Call (.Name "isinstance" p) [a,.Name x p2] [] pos) ρ (.bl k):=
 fb (uw ht hk) hm (by decide +kernel) (ad ha (ad (xA hmT hv hgT hn hd) ae) he) (λvs H Q h q=>by
  obtain⟨v,v',rfl,h1,h2⟩:=ol h
  cases h2.ty_inv
  exact⟨v,rfl,h1,q _ H (Same.refl H) (.bl k)⟩) hg (by decide) (by decide) he hb
end
end FL
namespace FL
open PySem PySem.Spec PyProof.Rows L2
structure Po where
 nx:Ro→Prop
 rt:D→Prop
 bk:Ro→Prop:=λ_=>False
 ct:Ro→Prop:=λ_=>False
def xb(X:Cx)(ρ:Ro)(P:Po): TS:=λD σ H=>RelS X X.H₀ H σ ρ∧(∀σ' H' ρ',Go ρ H ρ' H'→RelS X X.H₀ H' σ' ρ'→P.nx ρ'→D.nx σ' H')∧(∀v H' d,Same X.H₀ H'→Is X.K H' v d→(∀a,aR d=some a→X.H₀ a=none)→P.rt d→D.rt v H')∧
 (∀σ' H' ρ',Go ρ H ρ' H'→RelS X X.H₀ H' σ' ρ'→P.bk ρ'→D.bk σ' H')∧(∀σ' H' ρ',Go ρ H ρ' H'→RelS X X.H₀ H' σ' ρ'→P.ct ρ'→D.ct σ' H')
def Do(X:Cx)(sts:List Stmt)(ρ:Ro)(P:Po): Prop:=PSs X sts (xb X ρ P)
section
variable {X : Cx} {e a b c : Expr} {es : List Expr} {ρ : Ro} {d : D} {ds : List D} {pos : Pos} {i j : Int} {k k' : Bool} {rest A B : List Stmt} {P : Po} {st : Stmt}
theorem aD(h:P.nx ρ): Do X [] ρ P:=PSs.imp pss_nil λD σ H ⟨r,q,_⟩=>q σ H ρ (Go.refl ρ H) r h
theorem Do.mono{Q:Po}(h:Do X A ρ P)(h1:∀ρ,P.nx ρ→Q.nx ρ)(h2:∀d,P.rt d→Q.rt d)(h3:∀ρ,P.bk ρ→Q.bk ρ)(h4:∀ρ,P.ct ρ→Q.ct ρ): Do X A ρ Q:=
 PSs.imp h λD σ H ⟨r,q1,q2,q3,q4⟩=>⟨r,λσ' H' ρ' g r' p=>q1 σ' H' ρ' g r' (h1 _ p),λv H' d s i o p=>q2 v H' d s i o (h2 _ p),λσ' H' ρ' g r' p=>q3 σ' H' ρ' g r' (h3 _ p),λσ' H' ρ' g r' p=>q4 σ' H' ρ' g r' (h4 _ p)⟩
theorem dH{M:Ro→Prop}(h1:PS X st (xb X ρ { P with nx:=M }))(h2:∀ρ',M ρ'→Do X rest ρ' P): Do X (st::rest) ρ P:=by
 refine PSs.imp (pss_cons (u:=λD σ H=>∃ρ',M ρ'∧xb X ρ' P D σ H) h1 (λpins s σ H D I ⟨ρ',m,q⟩=>h2 ρ' m pins s σ H D I q)) ?_
 rintro D σ H ⟨r,q1,q2,q3,q4⟩
 exact⟨r,λσ' H' ρ' g r' m=>⟨ρ',m,r',λσ2 H2 ρ2 g2=>q1 σ2 H2 ρ2 (g.trans g2),q2,λσ2 H2 ρ2 g2=>q3 σ2 H2 ρ2 (g.trans g2),λσ2 H2 ρ2 g2=>q4 σ2 H2 ρ2 (g.trans g2)⟩,q2,q3,q4⟩
theorem ax(he:Ev X e ρ d)(h:P.rt d)(hn:∀a,aR d=some a→Mu ρ a:=by intro _ z;cases z): Do X (.Return (some e) pos::rest) ρ P:=by
 refine PSs.imp (pss_cons (u:=tNever) (ps_ret he) pss_never) ?_
 rintro D σ H ⟨r,q1,q2,q3,q4⟩
 exact⟨r.e,λv H' s h'=>q2 v H' d (r.same.trans s) h' (λa z=>r.own a (hn a z)) h⟩
theorem au(n:Nat){x:Str}{pos':Pos}(he:Ev X e ρ d)(hz:Fz d)(h:Do X rest (ρ.set n (some d)) P)(hN:X.N.Nodup)(hi:X.N[n]?=some x:=by rfl)(hx:Loc X.env.scope x:=by first|exact Or.inl rfl|exact Or.inr rfl)
  (hs:swapsWith e (some (.Name x pos')) pos.line X.env=pure false:=by rfl) (hf:X.fn x=true∨X.env.scope.names.lookup x=some .local:=by first|exact .inl rfl|exact .inr rfl):Do X (.Assign [.Name x pos'] e pos::rest) ρ P:=by
 refine dH (M:=λρ'=>ρ'=ρ.set n (some d)) (PS.imp (ps_set hN hi hx he hs hf) ?_) (λ_ z=>z▸h)
 rintro D σ H ⟨r,q1,q2,q3,q4⟩
 exact⟨r.e,λv H' s h'=>q1 _ H' _ (Go.set s λa z=>(hz.no_own z).elim) ((r.mono s).set h' n (.inl hz) λa z=>(hz.no_own z).elim) rfl⟩
theorem az(he:Ev X e ρ d)(h:Do X rest ρ P)(hs:swapsWith e none pos.line X.env=pure false:=by rfl): Do X (.Expr e pos::rest) ρ P:=by
 refine dH (M:=λρ'=>ρ'=ρ) (PS.imp (ps_expr he hs) ?_) (λ_ z=>z▸h)
 rintro D σ H ⟨r,q1,q2,q3,q4⟩
 exact⟨r.e,λv H' s h'=>q1 _ H' _ (Go.same s) (r.mono s) rfl⟩
theorem ck(M:Ro→Prop)(hc:Et X c ρ k)(hA:k=true→Do X A ρ { P with nx:=M })(hB:k=false→Do X B ρ { P with nx:=M })(h:∀ρ',M ρ'→Do X rest ρ' P): Do X (.If c A B pos::rest) ρ P:=by
 refine dH (M:=M) (PS.imp (ps_if hc (t:=λD σ H=>k=true∧xb X ρ { P with nx:=M } D σ H) (u:=λD σ H=>k=false∧xb X ρ { P with nx:=M } D σ H)
  (λpins s σ H D I ⟨z,q⟩=>hA z pins s σ H D I q) (λpins s σ H D I ⟨z,q⟩=>hB z pins s σ H D I q)) ?_) h
 rintro D σ H ⟨r,q1,q2,q3,q4⟩
 refine⟨r.e,λH' s=> ?_⟩
 have q:xb X ρ { P with nx:=M } D σ H':=⟨r.mono s,λσ2 H2 ρ2 g2=>q1 σ2 H2 ρ2 ((Go.same s).trans g2),q2,λσ2 H2 ρ2 g2=>q3 σ2 H2 ρ2 ((Go.same s).trans g2),λσ2 H2 ρ2 g2=>q4 σ2 H2 ρ2 ((Go.same s).trans g2)⟩
 cases k with
 | true=>exact iteT ⟨rfl,q⟩
 | false=>exact iteF ⟨rfl,q⟩
theorem ak(hc:Et X c ρ false)(h:Do X rest ρ P): Do X (.If c A [] pos::rest) ρ P:=
 ck (λρ'=>ρ'=ρ) hc (λz=>by cases z) (λ_=>aD rfl) (λ_ z=>z▸h)
theorem ao(hc:Et X c ρ k)(hA:k=true→Do X A ρ { P with nx:=λ_=>False })(h:k=false→Do X rest ρ P): Do X (.If c A [] pos::rest) ρ P:=
 ck (λρ'=>ρ'=ρ∧k=false) hc (λz=>(hA z).mono (λ_ f=>f.elim) (λ_ p=>p) (λ_ p=>p) (λ_ p=>p)) (λz=>aD ⟨rfl,z⟩) (λ_ z=>z.1▸h z.2)
theorem e8(Iv M:Ro→Prop)(μ:Ro→Nat)(hp:PassesOwn (model X.prog X.w) X.A X.env X.xe)(h0:Iv ρ)
  (hs:∀ρ,Iv ρ→∃k,Et X c ρ k∧(k=true→Do X A ρ { nx:=λρ'=>Iv ρ'∧μ ρ'<μ ρ,rt:=P.rt,bk:=M,ct:=λρ'=>Iv ρ'∧μ ρ'<μ ρ })∧(k=false→M ρ))
  (h:∀ρ',M ρ'→Do X rest ρ' P):Do X (.While c A [] pos::rest) ρ P:=by
 refine dH (M:=M) ?_ h
 have hc:PT X c (λσ H Q=>∃ρ k,Et X c ρ k∧tB X ρ k σ H Q):=λpins s σ H Q I ⟨ρ,k,e,q⟩=>e pins s σ H Q I q
 have hb:PSs X A (λD σ H=>∃ρ,Do X A ρ { nx:=λρ'=>Iv ρ'∧μ ρ'<μ ρ,rt:=P.rt,bk:=M,ct:=λρ'=>Iv ρ'∧μ ρ'<μ ρ }∧xb X ρ { nx:=λρ'=>Iv ρ'∧μ ρ'<μ ρ,rt:=P.rt,bk:=M,ct:=λρ'=>Iv ρ'∧μ ρ'<μ ρ } D σ H):=
  λpins s σ H D I ⟨ρ,e,q⟩=>e pins s σ H D I q
 refine PS.imp (ps_while hp hc hb) ?_
 rintro D σ H ⟨r,q1,q2,q3,q4⟩
 refine⟨λm σ' H'=>∃ρ',m=μ ρ'∧Iv ρ'∧RelS X X.H₀ H' σ' ρ'∧Go ρ H ρ' H',⟨_,ρ,rfl,h0,r,Go.refl ρ H⟩,?_⟩
 rintro m σ1 H1 ⟨ρ1,rfl,iv,r1,g1⟩
 obtain⟨k,et,ht,hf⟩:=hs ρ1 iv
 refine⟨ρ1,k,et,r1.e,λH2 s=> ?_⟩
 have g2:Go ρ H ρ1 H2:=g1.trans (Go.same s)
 cases k with
 | true=>
  refine iteT ⟨λσ' H'=>∃ρ',Iv ρ'∧μ ρ'<μ ρ1∧RelS X X.H₀ H' σ' ρ'∧Go ρ H ρ' H',λσ' H' ⟨ρ',a,b,c,g⟩=>⟨_,b,ρ',rfl,a,c,g⟩,ρ1,ht rfl,r1.mono s,?_,q2,?_,?_⟩
  ·exact λσ' H' ρ' g r' ⟨a,b⟩=>⟨ρ',a,b,r',g2.trans g⟩
  ·exact λσ' H' ρ' g r' m=>q1 σ' H' ρ' (g2.trans g) r' m
  ·exact λσ' H' ρ' g r' ⟨a,b⟩=>⟨ρ',a,b,r',g2.trans g⟩
 | false=>exact iteF (q1 σ1 H2 ρ1 g2 (r1.mono s) (hf rfl))
end
def SpD(K:PySem.W.Frag)(Pf:List D→D→Prop): Sp:=λvs H Q _=>∃ds d,IsAll K H vs ds∧Pf ds d∧∀v H',Same H H'→Is K H' v d→Q v H'
def Fn(P:Program)(w:World)(K:PySem.W.Frag)(mg:Str→Option Value)(base:Heap)(k:Nat)(x:Str)(Pf:List D→D→Prop): Prop:=
 ∃f fd ps,FnOk P w K mg base CX0 k f fd ps (SpD K Pf)∧mg x=some (.ref f)∧PySem.W.keepIn K (.ref f)=true∧Binds K fd ps []
section
variable {X : Cx} {e a b c : Expr} {es : List Expr} {ρ : Ro} {d : D} {ds : List D} {pos : Pos}
theorem ah{k:Nat}{x:Str}{Pf:List D→D→Prop}{p:Pos}(C:Fn X.prog X.w X.K X.mg X.base k x Pf)(hr:Room k X.A)(ha:gx X (e::es) ρ ds)(hp:Pf ds d)(hg:Gl X x:=by rfl)(hdb:(x==("__debug__": Str))=false:=by decide)
  (he:starEach (e::es) X.env=(false,eval e X.env)::starEach es X.env:=by rfl) (hpl:(backTo pos (starEach es X.env)).any (·.1)=false:=by rfl):Ev X (.Call (.Name x p) (e::es) [] pos) ρ d:=by
 obtain⟨f,fd,ps,F,hm,hk,hb⟩:=C
 refine PE.imp (pe_call F hr hg hm hk hb .nil pass0 ha hdb he hpl) ?_
 rintro σ H Q ⟨r,q⟩
 refine⟨r,λvs H1 s1 h1=>⟨ds,d,?_,hp,λv H' s' h'=>q v H' (s1.trans s') h'⟩⟩
 rw[List.append_nil]
 exact h1
end
section
variable {P : Program} {w : World} {K : PySem.W.Frag} {mg : Str → Option Value} {base : Heap}
theorem bb{X:Cx}{N:List Str}{vs:List V}{ds:List D}(h:IsAll X.K X.H₀ vs ds)(nl:∀d∈ds,aR d=none): RelS X X.H₀ X.H₀ (L2.start N vs) (ds.map some++List.replicate (N.length-ds.length) none):=by
 refine⟨Same.refl _,?_,λi d e=> ?_,λa ⟨i,es,e,hz⟩=> ?_⟩
 ·unfold L2.start
  simp[h.length]
 ·have hi:ds[i]?=some d:=by
   by_cases hl:i<ds.length
   ·rw[List.getElem?_append_left (by simpa using hl),List.getElem?_map]at e
    cases q:ds[i]? with
    | none=>rw[q]at e;cases e
    | some z=>rw[q]at e;cases e;rfl
   ·rw[List.getElem?_append_right (by simpa using hl),List.getElem?_replicate]at e
    split at e<;>cases e
  obtain⟨v,e1,h1⟩:=h.get hi
  refine⟨v,?_,h1,.inr (.inl h1)⟩
  unfold L2.start
  have hl:i<vs.length:=(List.getElem?_eq_some_iff.mp e1).1
  rw[List.getElem?_append_left (by simpa using hl),List.getElem?_map,e1]
  rfl
 ·exfalso
  by_cases hl:i<ds.length
  ·rw[List.getElem?_append_left (by simpa using hl),List.getElem?_map]at e
   cases q:ds[i]? with
   | none=>rw[q]at e;cases e
   | some z=>rw[q]at e;cases e;rw[nl _ (List.mem_of_getElem? q)]at hz;cases hz
  ·rw[List.getElem?_append_right (by simpa using hl),List.getElem?_replicate]at e
   split at e<;>cases e
abbrev gF(P:Program)(w:World)(K:PySem.W.Frag)(mg:Str→Option Value)(base:Heap)(N:List Str)(qual:Str)(st:Stmt)(f:Addr)(cdv:Value)(A:Around)(outer:List Env)(s:Shared)(H:Hp)(E:XK): Cx:=
 (cxOf CX0 P w K mg base N qual (defScope st) f cdv A outer s H E).nox
abbrev nV(N:List Str)(ds:List D): Ro:=ds.map some++List.replicate (N.length-ds.length) none
theorem y7{x qual:Str}{st:Stmt}{f:Addr}{fd:FuncData}{N ps:List Str}{k:Nat}{Pf:List D→D→Prop}(F:Fun K x qual st f fd)(S:FnScope N ps (defScope st))
  (hl:∀ds d,Pf ds d→ds.length=ps.length∧∀d∈ds,aR d=none)
  (hbody:∀(cdv:Value) (A:Around) (outer:List Env) (s:Shared) (H:Hp) (E:XK),Room k (A.deeper (envOfC qual (defScope st) s.heap.objs.size f cdv))→∀ds d,Pf ds d→
   Do (gF P w K mg base N qual st f cdv A outer s H E) (defBody st) (nV N ds) { nx:=λ_=>d = .non,rt:=λd'=>d'=d }):FnOk P w K mg base CX0 (k+1) f fd ps (SpD K Pf):=by
 refine F.ok S (λvs H Q E h=> ?_) (λcdv A outer s H vs Q E hr h=> ?_)
 ·obtain⟨ds,d,h1,h2,_⟩:=h
  rw[h1.length]
  exact(hl ds d h2).1
 ·obtain⟨ds,d,h1,h2,q⟩:=h
  refine⟨_,hbody cdv A outer s H E hr ds d h2,?_⟩
  refine⟨bb (X:=gF P w K mg base N qual st f cdv A outer s H E) h1 (hl ds d h2).2,λσ' H' ρ' _ r' z=> ?_,λv H' d' sm hv _ z=> ?_,λ_ _ _ _ _ z=>z.elim,λ_ _ _ _ _ z=>z.elim⟩
  ·have z':d = .non:=z
   subst z'
   exact q _ H' r'.same .non
  ·have z':d'=d:=z
   subst z'
   exact q v H' sm hv
theorem aL{x qual:Str}{st:Stmt}{f:Addr}{fd:FuncData}{N ps:List Str}{k:Nat}{Pf:List D→D→Prop}(F:Fun K x qual st f fd)(S:FnScope N ps (defScope st))(hm:mg x=some (.ref f))(hb:Binds K fd ps [])
  (hl:∀ds d,Pf ds d→ds.length=ps.length∧∀d∈ds,aR d=none)
  (hbody:∀(cdv:Value) (A:Around) (outer:List Env) (s:Shared) (H:Hp) (E:XK),Room k (A.deeper (envOfC qual (defScope st) s.heap.objs.size f cdv))→∀ds d,Pf ds d→
   Do (gF P w K mg base N qual st f cdv A outer s H E) (defBody st) (nV N ds) { nx:=λ_=>d = .non,rt:=λd'=>d'=d }):Fn P w K mg base (k+1) x Pf:=
 ⟨f,fd,ps,y7 F S hl hbody,hm,F.kp,hb⟩
end
end FL
namespace FL
open PySem PySem.Spec PyProof.Rows L2
def kR(X:Cx)(scope:Scope)(cl:List (Str×Addr))(N:List Str)(C:Addr)(s₀:Shared)(H₀:Hp)(fp:List Addr): Cx:=
 { X with N:=N,s₀:=s₀,H₀:=H₀,env:=compEnvC scope cl C X.env,outer:=X.stack,ex:=fp,fn:=λ_=>false,pn:=[],xe:=λ_ _=>False }
section
variable {prog : Program} {w : World} {A : Around} {R : Result → Shared → Prop} {s : Shared}
theorem iU{elt target iter:Expr}{ifs:List Expr}{scope:Scope}{pos:Pos}{it acc:Value}{env:Env}(I:Nat→Shared→Prop)
  (turn:∀n s,I n s→wpAny (model prog w) A (pyNext it) (λr s₁=>match r with
   | none=>R (.ok .next) s₁
   | some v=>wpAny (model prog w) A (letOwnedTupleGo target it v) (λ_ s₁'=>wpAny (model prog w) A (assign target env v) (λ_ s₂=>
    wpAny (model prog w) A (forIn ifs true λc r=>if r=true then do let ok ← isTrue c env (eval c env);pure (ForInStep.yield ok)else pure (ForInStep.yield r)) (λok s₃=>
     if ok=true then wpAny (model prog w) A (eval elt env) (λx s₄=>
      wpAny (model prog w) A (call (.builtin "list.append") [acc,x]) (λ_ s₅=>∃m,m<n∧I m s₅) (λ_ _=>False) s₄) (λ_ _=>False) s₃
     else ∃m,m<n∧I m s₃) (λ_ _=>False) s₂) (λ_ _=>False) s₁') (λ_ _=>False) s₁) (λ_ _=>False) s)
  (n:Nat) (h:I n s):codeAny (model prog w) A (.compLoop (.ListComp elt [⟨target,iter,ifs,0⟩] scope pos) 0 it acc env) R s:=by
 refine codeAny_loop rfl I (λn s hI=> ?_) n h
 show wpAny _ A ((compTurn (.ListComp elt [⟨target,iter,ifs,0⟩] scope pos) 0 it acc env).onRaise (λx=>do noteFrame x env;theTreesLotGoes x)) _ _ s
 refine wpAny_noted ?_
 rw[compTurn_list]
 refine wpAny_bind (wpAny_standAt (wpAny_bind (wpAny_mono (turn n s hI) (λr s₁ h₁=> ?_) λ_ _ h'=>h'.elim)))
 cases r with
 | none=>exact wpAny_pure h₁
 | some v=>
  refine wpAny_bind (wpAny_mono h₁ (λ_ s₁' h₁'=> ?_) λ_ _ h'=>h'.elim)
  refine wpAny_bind (wpAny_mono h₁' (λ_ s₂ h₂=>wpAny_bind (wpAny_mono h₂ (λok s₃ h₃=> ?_) λ_ _ h'=>h'.elim)) λ_ _ h'=>h'.elim)
  cases ok with
  | false=>exact wpAny_pure ⟨rfl,h₃⟩
  | true=>
   exact wpAny_bind (wpAny_bind (wpAny_mono h₃ (λx s₄ h₄=>wpAny_bind (wpAny_mono h₄ (λ_ s₅ h₅=>wpAny_pure (wpAny_pure ⟨rfl,h₅⟩)) λ_ _ h'=>h'.elim)) λ_ _ h'=>h'.elim))
end
def xp(X:Cx)(ifs:List Expr)(t:TT): Prop:=
 ∀(pins:List (Addr×Obj)) (s:Shared) (σ:L2.St) (H:Hp) (Q:Bool→Hp→Prop),Inv X pins σ H s→t σ H Q→
  wpAny (model X.prog X.w) X.A (forIn ifs true λc r=>if r=true then do let ok ← isTrue c X.env (eval c X.env);pure (ForInStep.yield ok)else pure (ForInStep.yield r)) (TP X pins σ Q) X.xe s
theorem wU{X:Cx}: xp X [] (λ_ H Q=>Q true H):=λ_ _ _ H _ I h=>wpAny_tests_nil ⟨H,I,h⟩
theorem wV{X:Cx}{c:Expr}{t:TT}(h:PT X c t): xp X [c] t:=λpins s σ H Q I q=>wpAny_tests_one (h pins s σ H Q I q)
def cq(js:List Nat)(σ:L2.St): L2.St:=js.map λj=>(σ[j]?).join
def sM(X:Cx)(js:List Nat)(wi:TI)(tt:Cx→TT)(te:Cx→TE): TE:=λσ H Q=>wi σ H λJ H2=>∀D,H2 D=none→∀Y:Cx,Y.H₀=upd H2 D (.lst [])→Y.K=X.K→
 ∃W:Nat→Nat→List V→Hp→Prop,(∃m,W 0 m [] (upd H2 D (.lst [])))∧∀i m ys H3,H3 D=some (.lst ys)→W i m ys H3→
  (J.stop i H3∧Q (.ref D) H3)∨(J.go i H3∧∀x H4,J.yld i H3 x H4→tt Y (some x::cq js σ) H4 λok H5=>
   if ok=true then te Y (some x::cq js σ) H5 λy H6=>∃zs,H6 D=some (.lst zs)∧zs.length<sizeLine∧∃m',m'<m∧W (i+1) m' (zs++[y]) (upd H6 D (.lst (zs++[y])))
   else ∃zs m',H5 D=some (.lst zs)∧m'<m∧W (i+1) m' zs H5)
theorem wT{X:Cx}{elt iter:Expr}{x:Str}{px:Pos}{ifs:List Expr}{scope:Scope}{cl:List (Str×Addr)}{pos:Pos}{ys:List Str}{js:List Nat}{wi:TI}{tt:Cx→TT}{te:Cx→TE}
  (hc:X.calm=true) (hi:PI X (.Name x px) iter wi)
  (ht:∀C s₀ H₀ fp,xp (kR X scope cl (x::ys) C s₀ H₀ fp) ifs (tt (kR X scope cl (x::ys) C s₀ H₀ fp)))
  (he:∀C s₀ H₀ fp,PE (kR X scope cl (x::ys) C s₀ H₀ fp) elt (te (kR X scope cl (x::ys) C s₀ H₀ fp)))
  (hclos:closureFor scope X.env=pure cl) (hcell:∀y∈scope.names,y.2≠.cell) (hkind:scope.kind = .function)
  (hnames:∀y∈scope.names,y.2 = .local→scope.names.lookup y.1=some .local) (hx:scope.names.lookup x=some .local) (hnd:(x::ys).Nodup)
  (hcl:∀y c,cl.lookup y=some c→X.env.cells.lookup y=some c)
  (hhas:∀y,(relabel scope X.env).names.lookup y=some .cell∨(relabel scope X.env).names.lookup y=some .free→∃c,cl.lookup y=some c)
  (hjs:js.length=ys.length) (hjy:∀(i j:Nat) (y:Str),js[i]?=some j→ys[i]?=some y→X.N[j]?=some y∧Vis X.env.scope y∧(X.env.kindOf y=some .cell∨X.env.kindOf y=some .free)∧((relabel scope X.env).names.lookup y=some .cell∨(relabel scope X.env).names.lookup y=some .free))
  (hs:∀x,foldedSetIterable iter X.env x=pure x:=by intro _;rfl) :
  PE X (.ListComp elt [⟨.Name x px,iter,ifs,0⟩] scope pos) (sM X js wi tt te):=by
 intro pins s σ H Q I h
 rw[eval_ListComp]
 refine wpAny_comprehension_free (use:=none) rfl hs hclos hkind hnames (thn (hi pins s σ H _ I h) λv s1 h1=>thn h1 λitv s2 h2=> ?_)
 obtain⟨it,fp,tn,J,H2,e,I2,T,st2,f2,h2⟩:=h2
 subst e
 refine wpAny_newObj_type (wpAny_newFunctionEnv hcell (by intro y hy;simp at hy) (λh₁ hns₁ hsb₁=> ?_) hkind)
 dsimp only at hns₁ hsb₁ ⊢
 have hD:H2 s2.heap.objs.size=none:=I2.hok.fresh (Nat.le_refl _)
 generalize eD:s2.heap.objs.size=D at hD hns₁ hsb₁ ⊢
 generalize eH:s2.heap.push { cls:=.type "list",dict:=none,data:=.seq ([]:List Value).toArray }=P3 at hns₁ hsb₁ ⊢
 have k23:∀b o,s2.heap.get? b=some o→P3.get? b=some o:=λb o q=>by rw[← eH];exact Heap.get?_push_of_some _ q
 have hDo:P3.get? D=some { cls:=.type "list",dict:=none,data:=.seq ([]:List Value).toArray }:=by rw[← eH,← eD];exact Heap.get?_push_size _ rfl
 have I3:Inv X pins σ (upd H2 D (.lst [])) { s2 with heap:=P3,toks:=s2.toks }:=I2.laid (t':=s2.toks) k23 (Nat.le_of_eq eD) ⟨Nat.zero_le _,[],0,.nil,hDo⟩
 have hCs:P3.objs.size=D+1:=by rw[← eH,Heap.size_push,eD]
 generalize eC:P3.objs.size=C at hns₁ hsb₁ hCs ⊢
 have k34:∀b o,P3.get? b=some o→h₁.get? b=some o:=λb o q=>hsb₁.extBut b o (by rw[← eC];exact Nat.ne_of_lt (Heap.lt_size q)) (Heap.get?_push_of_some _ q)
 have fpD:∀b∈fp,b<D:=λb hb=>by
  obtain⟨o,q,_⟩:=T.obj 0 _ st2 b hb
  rw[← eD]
  exact Heap.lt_size q
 have hC0:upd H2 D (.lst []) C=none:=I3.hok.fresh (by show P3.objs.size≤C;rw[eC];exact Nat.le_refl _)
 have okY:(kR X scope cl (x::ys) C { s2 with heap:=P3,toks:=s2.toks } (upd H2 D (.lst [])) fp).Ok:=by
  refine⟨I3.ok.mod,hkind,I3.ok.glob,I3.ok.blt,by show P3.objs.size≤C;rw[eC];exact Nat.le_refl _,λy z c h1 h2=>I3.ok.inj y z c (hcl y c h1) (hcl z c h2),λy hy=>hhas y hy,λy c hf _=>(by cases hf),
   I3.ok.hd,I3.ok.frames,.inl rfl,λb hb=>⟨(by show b≠C;rw[hCs];exact Nat.ne_of_lt (Nat.lt_succ_of_lt (fpD b hb))),λy c hy=>(f2 b hb).2.2.2.2.1 y c (hcl y c hy)⟩,λb o q=> ?_,?_,λb o q hb=> ?_,λb hb z=> ?_,I3.stack,I3.stkFree⟩
  ·exact I3.bs b o q
  ·exact Nat.le_trans I3.ok.bsz I3.sz
  ·rcases(f2 b hb).2.2.2.1 with z|z
   ·exact I3.ok.noex b o q z
   ·exact absurd (Nat.lt_of_lt_of_le (Heap.lt_size (I3.ok.bs b o q).1) z) (Nat.lt_irrefl _)
  ·rcases List.mem_cons.mp (I3.stkSub b z)with z|z
   ·exact(f2 b hb).2.1 z
   ·exact(f2 b hb).2.2.1 z
 generalize eY:kR X scope cl (x::ys) C { s2 with heap:=P3,toks:=s2.toks } (upd H2 D (.lst [])) fp=Y at okY
 have IY:Inv Y [] (none::cq js σ) (upd H2 D (.lst [])) { s2 with heap:=h₁,toks:=s2.toks+([]:List (Str×Value)).length }:=by
  subst eY
  refine⟨okY,I3.os.trans I3.os.symm |>.trans rfl,I3.bare,Un.kept k34,⟨_,hns₁,λi y v h1 h2 h3=> ?_⟩,λy c hy=> ?_,hC0,λy c hy=>I3.freeC y c (hcl y c hy),λp hp=>absurd (show p∈([]:List (Addr×Obj))from hp) (by simp),I3.hok.kept k34,?_⟩
  ·cases i with
   | zero=>cases h2
   | succ i=>
    have h1':ys[i]?=some y:=h1
    have h2':(cq js σ)[i]?=some (some v):=h2
    unfold cq at h2'
    rw[List.getElem?_map]at h2'
    cases q:js[i]? with
    | none=>rw[q]at h2';cases h2'
    | some j=>
     rw[q]at h2'
     have h4:(σ[j]?).join=some v:=Option.some.inj h2'
     have h5:σ[j]?=some (some v):=by
      cases z:σ[j]? with
      | none=>rw[z]at h4;cases h4
      | some o=>rw[z]at h4;have h4':o=some v:=h4;rw[h4']
     obtain⟨n1,n2,n3,n4⟩:=hjy i j y q h1'
     obtain⟨m,_,hl⟩:=I3.loc
     obtain⟨u,ru,lk⟩:=hl j y v n1 h5 n2
     refine⟨u,ru,.inr ⟨n4,?_⟩⟩
     obtain⟨c,hc'⟩:=hhas y n4
     rcases lk with⟨z,_⟩|⟨_,c',e1,e2⟩
     ·rcases n3 with n3|n3<;>(rw[n3]at z;cases z)
     ·have:c'=c:=Option.some.inj (e1.symm.trans (hcl y c hc'))
      subst this
      obtain⟨o,ho,hod⟩:=e2
      exact⟨c',hc',o,k34 _ _ ho,hod⟩
  ·obtain⟨v,o,ho,hod⟩:=I3.cell y c (hcl y c hy)
   exact⟨v,o,k34 _ _ ho,hod⟩
  ·show(cq js σ).length+1=(x::ys).length
   unfold cq
   simp[hjs]
 have eYA:Y.A=X.A:=by rw[← eY];rfl
 have eYp:Y.prog=X.prog:=by rw[← eY];rfl
 have eYw:Y.w=X.w:=by rw[← eY];rfl
 have eYK:Y.K=X.K:=by rw[← eY];rfl
 have eYe:Y.env=compEnvC scope cl C X.env:=by rw[← eY];rfl
 have eYH:Y.H₀=upd H2 D (.lst []):=by rw[← eY];rfl
 have eYc:Y.calm=true:=by rw[← eY];exact hc
 have eYx:Y.xe=λ_ _=>False:=by rw[← eY];rfl
 have eYex:Y.ex=fp:=by rw[← eY];rfl
 have eYfs:Y.fs=frs X.stack:=by rw[← eY];rfl
 have eYs:Y.s₀={ s2 with heap:=P3,toks:=s2.toks }:=by rw[← eY];rfl
 have eYl:Y.env.locals=C:=by rw[eYe];rfl
 have ht':xp Y ifs (tt Y):=by rw[← eY];exact ht C _ _ fp
 have he':PE Y elt (te Y):=by rw[← eY];exact he C _ _ fp
 have hg':PG Y (.Name x px) (gName 0):=by
  rw[← eY]
  exact pg_name hnd rfl (.inl (lookup_relabel_local hx)) (.inr (lookup_relabel_local hx))
 have T':Turn Y.prog Y.w Y.K (.Name x px) J fp it tn:=by rw[eYp,eYw,eYK];exact T
 obtain⟨W,⟨m0,w0⟩,turn⟩:=h2 D hD Y eYH eYK
 have stat:∀ {H':Hp},(∀b∈fp,H' b=none)→∀b∈fp,FpOk Y [] H' b:=λ{H'} hn b hb=>by
  obtain⟨_,g1,g2,g3,g4,g5⟩:=f2 b hb
  refine⟨hn b hb,(by rw[eYl,hCs];exact Nat.ne_of_lt (Nat.lt_succ_of_lt (fpD b hb))),λz=> ?_,.inl (by rw[eYex];exact hb),λy c hy=> ?_,λp hp=> ?_⟩
  ·rw[eYfs]at z
   rcases List.mem_cons.mp (I3.stkSub b z)with z|z
   ·exact g1 z
   ·exact g2 z
  ·rw[eYe]at hy
   exact g4 y c (hcl y c hy)
  ·have e0:Y.pn=[]:=by rw[← eY];rfl
   rw[e0]at hp
   exact absurd (show p∈([]:List (Addr×Obj))from hp) (by simp)
 have loop:∀s₃:Shared,s₃={ s2 with heap:=h₁,toks:=s2.toks+([]:List (Str×Value)).length }→
   codeAny (model X.prog X.w) X.A (.compLoop (.ListComp elt [⟨.Name x px,iter,ifs,0⟩] scope pos) 0 (.ref it) (.ref D) (compEnvC scope cl C X.env))
    (compPost (model X.prog X.w) X.A X.xe none (EP X pins σ Q) (.ref D) C) s₃:=by
  rintro s₃ rfl
  rw[← eYe,← eYA,← eYp,← eYw]
  refine iU (λn s'=>∃i z H' zs,Inv Y [] (z::cq js σ) H' s'∧tn i s'.heap∧(∀b∈fp,H' b=none)∧H' D=some (.lst zs)∧W i n zs H') ?_ m0
   ⟨0,none,_,[],IY,T.keep 0 _ _ st2 (λb _ o q=>k34 b o (k23 b o q)),λb hb=> ?_,upd_same,w0⟩
  ·rintro n s4 ⟨i,z,H4,zs,I4,st4,fr4,hz4,w4⟩
   rcases turn i n zs H4 hz4 w4 with⟨stop,qn⟩|⟨go,step⟩
   ·refine thn (T'.done Y rfl rfl rfl eYc i [] s4 _ H4 _ I4 (stat fr4) st4 stop) λr s5 ⟨hr,I5⟩=> ?_
    subst hr
    obtain⟨m,hm,_⟩:=id I5.loc
    rw[eYl]at hm
    refine⟨m,hm,λh6 sb=> ?_⟩
    have hC5:H4 C=none:=by rw[← eYl];exact I5.free
    have un5:=I5.base
    rw[eYfs,eYex,eYH,eYs]at un5
    have un6:Un (frs X.stack) fp (upd H2 D (.lst [])) H4 P3 h6:=by
     have nC:∀b o,P3.get? b=some o→b≠C:=λb o q=>by rw[← eC];exact Nat.ne_of_lt (Heap.lt_size q)
     refine⟨λb o q n hb hx=>(sb.2 b (nC b o q)).trans (un5.keep b o q n hb hx),λb o q n hb hx=> ?_,un5.free,λb o q hx=> ?_,un5.tups,un5.frzs,un5.tbls⟩
     ·obtain⟨sl,q2⟩:=un5.slot b o q n hb hx
      exact⟨sl,(sb.2 b (nC b o q)).trans q2⟩
     ·obtain⟨o',q2⟩:=un5.there b o q hx
      exact⟨o',(sb.2 b (nC b o q)).trans q2⟩
    have hok6:HOk X.prog X.w H4 h6:=λb ob q=>by
     have q5:=I5.hok b ob q
     rw[eYp,eYw]at q5
     refine q5.stay (λc w' hc' q'=>(sb.2 c ?_).trans q') (λ_ q'=>q') λ_ _ q'=>q'
     rintro rfl
     rcases hc' with rfl|hc'
     ·rw[hC5]at q;cases q
     ·rw[hC5]at hc';cases hc'
    refine⟨.ref D,H4,?_,rfl,qn⟩
    have os5:s5.os=s2.os:=by have:=I5.os;rw[eYs]at this;exact this
    refine I3.call' (s':={ s5 with heap:=h6 }) (ch:=fp) os5 un6 hok6 I5.bare λb hb=> ?_
    obtain⟨_,g1,g2,g3,g4,g5⟩:=f2 b hb
    exact⟨g3,g1,g4,g5⟩
   ·refine thn (T'.item Y rfl rfl rfl eYc i [] s4 _ H4 _ I4 (stat fr4) st4 go) λr s5 ⟨u,hr,h5⟩=> ?_
    subst hr
    refine thn h5 λ_ s6 ⟨y,H6,I6,r6,y6,st6,fr6⟩=> ?_
    have I6':=I6.pinned (stat fr6) (T.obj _ _ st6)
    have q6:=step y H6 y6
    have back:∀ {σ7:L2.St} {H7:Hp} {s7:Shared},Inv Y ([]++pinsAt fp s6.heap) σ7 H7 s7→tn (i+1) s7.heap∧∀b∈fp,H7 b=none:=λ{σ7 H7 s7} I7=>
     ⟨T.keep _ _ _ st6 λb hb o e=>(I7.pin (b,o) (List.mem_append_right _ (List.mem_append_right _ (mem_pinsAt hb e)))).1,λb hb=>by
      obtain⟨o,e,_⟩:=T.obj _ _ st6 b hb
      exact(I7.pin (b,o) (List.mem_append_right _ (List.mem_append_right _ (mem_pinsAt hb e)))).2.1⟩
    refine wpAny_mono (hg' _ s6 _ H6 y u (λσ' H'=>σ'=some y::cq js σ∧H'=H6) I6' r6 ⟨rfl,rfl⟩) (λ_ s7 ⟨σ7,H7,I7,e7,e7'⟩=> ?_) λ_ _ z=>by rw[eYx]at z;exact z
    subst e7 e7'
    refine wpAny_mono (ht' _ s7 _ H7 _ I7 q6) (λok s8 ⟨H8,I8,q8⟩=> ?_) λ_ _ z=>by rw[eYx]at z;exact z
    cases ok with
    | false=>
     rw[if_neg Bool.false_ne_true]at q8 ⊢
     obtain⟨zs',m',hz',hm',w'⟩:=q8
     obtain⟨b1,b2⟩:=back I8
     exact⟨m',hm',i+1,some y,H8,zs',I8.unpinned,b1,b2,hz',w'⟩
    | true=>
     rw[if_pos rfl]at q8 ⊢
     refine wpAny_mono (he' _ s8 _ H8 _ I8 q8) (λu9 s9 ⟨v9,H9,I9,r9,zs9,hz9,hl9,m9,hm9,w9⟩=> ?_) λ_ _ z=>by rw[eYx]at z;exact z
     refine wpAny_mono (mt_append (X:=Y) _ s9 _ H9 (.ref D) [v9] (.ref D) [u9] (λ_ H'=>H'=upd H9 D (.lst (zs9++[v9]))) I9 rfl (.cons r9 .nil) ⟨D,zs9,v9,rfl,rfl,hz9,hl9,rfl⟩) (λ_ s10 ⟨_,H10,I10,_,e10⟩=> ?_) λ_ _ z=>by rw[eYx]at z;exact z
     subst e10
     obtain⟨b1,b2⟩:=back I10
     exact⟨m9,hm9,i+1,some y,_,zs9++[v9],I10.unpinned,b1,b2,upd_same,w9⟩
  ·rw[upd_ne (Nat.ne_of_lt (fpD b hb))]
   exact(f2 b hb).1
 exact codeAny_compStart_list (loop _ rfl) (T.self _ 0 _ _ _ (T.keep 0 _ _ st2 (λb _ o q=>k34 b o (k23 b o q))) (loop _ rfl))
end FL
namespace FL
open PySem PySem.Spec PyProof.Rows L2
def tN(X:Cx)(ρ:Ro)(ds:List D): TE:=λσ H Q=>RelE X H σ ρ∧∀a vs H',H a=none→Same H H'→H' a=some (.lst vs)→IsAll X.K H' vs ds→Q (.ref a) H'
def iS(X:Cx)(e:Expr)(ρ:Ro)(ds:List D): Prop:=PE X e (tN X ρ ds)
theorem iS.ev{X:Cx}{e:Expr}{ρ:Ro}{ds:List D}(h:iS X e ρ ds): Ev X e ρ (.ls ds):=
 PE.imp h λ_ _ _ ⟨r,q⟩=>⟨r,λa _ H' _ s e h=>q (.ref a) H' s (.ls (.of e) h)⟩
def yR(K:PySem.W.Frag)(J:It)(H:Hp)(ds:List D): Prop:=
 ∀H3,Same H H3→(∀i,ds.length≤i→J.stop i H3)∧∀i d,ds[i]?=some d→J.go i H3∧∀x H4,J.yld i H3 x H4→H4=H3∧Is K H3 x d
def yt(X:Cx)(ρ:Ro)(ds:List D): TI:=λσ H R=>RelE X H σ ρ∧∀J H',Same H H'→yR X.K J H' ds→R J H'
def yD(X:Cx)(tg e:Expr)(ρ:Ro)(ds:List D): Prop:=PI X tg e (yt X ρ ds)
section
variable {X : Cx} {e a b tg : Expr} {ρ : Ro} {ds : List D} {d : D} {pos : Pos} {i j : Int}
theorem PI.imp{t t':TI}(h:PI X tg e t)(f:∀σ H R,t' σ H R→t σ H R): PI X tg e t':=λpins s σ H R I q=>h pins s σ H R I (f σ H R q)
theorem sL(h:Ev X e ρ (.tup ds)): yD X tg e ρ ds:=by
 refine PI.imp (pi_tup h) ?_
 rintro σ H R ⟨r,q⟩
 refine⟨r,λv H1 s1 h1=> ?_⟩
 obtain⟨p,xs,rfl,hT,hA⟩:=h1.tup_inv
 refine⟨p,rfl,⟨xs,hT⟩,q _ H1 s1 λH3 s3=>⟨λi hi=>⟨xs,sI s3 hT,by rw[hA.length];exact hi⟩,λi d hd=> ?_⟩⟩
 obtain⟨v,hv,hI⟩:=(hA.mono s3).get hd
 exact⟨⟨xs,v,sI s3 hT,hv⟩,λx H4 ⟨e4,y⟩=>⟨e4,by have:=y xs (sI s3 hT);rw[hv]at this;cases this;exact hI⟩⟩
theorem lU(h:Ev X e ρ d)(hl:qW d=some ds): yD X tg e ρ ds:=by
 refine PI.imp (pi_list h) ?_
 rintro σ H R ⟨r,q⟩
 refine⟨r,λv H1 s1 h1=> ?_⟩
 obtain⟨p,xs,rfl,hT,hA⟩:=h1.lsD_inv hl
 refine⟨p,rfl,⟨xs,hT⟩,q _ H1 s1 λH3 s3=>⟨λi hi=>⟨xs,s3.seq hT,by rw[hA.length];exact hi⟩,λi d hd=> ?_⟩⟩
 obtain⟨v,hv,hI⟩:=(hA.mono s3).get hd
 exact⟨⟨xs,v,s3.seq hT,hv⟩,λx H4 ⟨e4,y⟩=>⟨e4,by have:=y xs (s3.seq hT);rw[hv]at this;cases this;exact hI⟩⟩
end
def yN(X:Cx)(ifs:List Expr)(ρ:Ro)(k:Bool): Prop:=xp X ifs (tB X ρ k)
theorem kE{X:Cx}{ρ:Ro}: yN X [] ρ true:=λpins s σ H Q I ⟨_,q⟩=>wU pins s σ H Q I (q H (Same.refl H))
theorem wx{X:Cx}{ρ:Ro}{c:Expr}{k:Bool}(h:Et X c ρ k): yN X [c] ρ k:=wV h
def bP(js:List Nat)(ρ:Ro): Ro:=js.map λj=>(ρ[j]?).join
theorem jf{X Y:Cx}(hK:Y.K=X.K){H:Hp}{σ:L2.St}{ρ:Ro}{js:List Nat}{x:V}{d:D}(r:RelE X H σ ρ)(hx:Is X.K H x d): RelE Y H (some x::cq js σ) (some d::bP js ρ):=by
 have vals:∀(i:Nat) (e:D),(some d::bP js ρ)[i]?=some (some e)→∃v,(some x::cq js σ)[i]?=some (some v)∧Is X.K H v e:=λi e h=>by
  cases i with
  | zero=>cases h;exact⟨x,rfl,hx⟩
  | succ i=>
   have h':(bP js ρ)[i]?=some (some e):=h
   unfold bP at h'
   rw[List.getElem?_map]at h'
   cases q:js[i]? with
   | none=>rw[q]at h';cases h'
   | some j=>
    rw[q]at h'
    have h4:(ρ[j]?).join=some e:=Option.some.inj h'
    have h5:ρ[j]?=some (some e):=by
     cases z:ρ[j]? with
     | none=>rw[z]at h4;cases h4
     | some o=>rw[z]at h4;have h4':o=some e:=h4;rw[h4']
    obtain⟨v,e1,e2⟩:=r.val j e h5
    refine⟨v,?_,e2⟩
    show(cq js σ)[i]?=some (some v)
    unfold cq
    rw[List.getElem?_map,q]
    show some (σ[j]?).join=_
    rw[e1]
    rfl
 exact⟨by simp[cq,bP],λi e h=>by rw[hK];exact vals i e h⟩
theorem wO{scope:Scope}{env:Env}{cl:List (Str×Addr)}(h:∀p∈scope.names,p.2≠.cell∧p.2≠.free):
  ∀y,(relabel scope env).names.lookup y=some .cell∨(relabel scope env).names.lookup y=some .free→∃c,cl.lookup y=some c:=by
 have key:∀p∈(relabel scope env).names,p.2≠.cell∧p.2≠.free:=by
  intro p hp
  obtain⟨⟨n,k⟩,hm,e⟩:=List.mem_map.mp (show p∈scope.names.map _ from hp)
  have hk:=h _ hm
  have hf:(k==NameKind.free)=false:=by simpa using hk.2
  simp only[hf,Bool.false_and,Bool.false_eq_true,if_false]at e
  subst e
  exact hk
 intro y z
 rcases z with z|z
 ·exact absurd rfl (key _ (PySem.mem_of_lookup z)).1
 ·exact absurd rfl (key _ (PySem.mem_of_lookup z)).2
theorem oU{X:Cx}{elt iter:Expr}{x:Str}{px:Pos}{ifs:List Expr}{scope:Scope}{cl:List (Str×Addr)}{pos:Pos}{ys:List Str}{js:List Nat}{ρ:Ro}{ds:List D}(p:D→Bool)(f:D→D)
  (hc:X.calm=true) (hi:yD X (.Name x px) iter ρ ds) (hz:ds.length≤1000000) (hfz:∀d∈ds,p d=true→Fz (f d))
  (ht:∀C s₀ H₀ fp,∀d∈ds,yN (kR X scope cl (x::ys) C s₀ H₀ fp) ifs (some d::bP js ρ) (p d))
  (he:∀C s₀ H₀ fp,∀d∈ds,p d=true→Ev (kR X scope cl (x::ys) C s₀ H₀ fp) elt (some d::bP js ρ) (f d))
  (hclos:closureFor scope X.env=pure cl) (hcell:∀y∈scope.names,y.2≠.cell) (hkind:scope.kind = .function)
  (hnames:∀y∈scope.names,y.2 = .local→scope.names.lookup y.1=some .local) (hx:scope.names.lookup x=some .local) (hnd:(x::ys).Nodup)
  (hcl:∀y c,cl.lookup y=some c→X.env.cells.lookup y=some c)
  (hhas:∀y,(relabel scope X.env).names.lookup y=some .cell∨(relabel scope X.env).names.lookup y=some .free→∃c,cl.lookup y=some c)
  (hjs:js.length=ys.length) (hjy:∀(i j:Nat) (y:Str),js[i]?=some j→ys[i]?=some y→X.N[j]?=some y∧Vis X.env.scope y∧(X.env.kindOf y=some .cell∨X.env.kindOf y=some .free)∧((relabel scope X.env).names.lookup y=some .cell∨(relabel scope X.env).names.lookup y=some .free))
  (hs:∀x,foldedSetIterable iter X.env x=pure x:=by intro _;rfl):iS X (.ListComp elt [⟨.Name x px,iter,ifs,0⟩] scope pos) ρ ((ds.filter p).map f):=by
 refine PE.imp (wT (js:=js) (tt:=λY σ H Q=>∃d,d∈ds∧tB Y (some d::bP js ρ) (p d) σ H Q) (te:=λY σ H Q=>∃d,d∈ds∧p d=true∧tD Y (some d::bP js ρ) (f d) σ H Q) hc hi
  (λC s₀ H₀ fp pins s σ H Q I ⟨d,hd,q⟩=>ht C s₀ H₀ fp d hd pins s σ H Q I q) (λC s₀ H₀ fp pins s σ H Q I ⟨d,hd,hp,q⟩=>he C s₀ H₀ fp d hd hp pins s σ H Q I q) hclos hcell hkind hnames hx hnd hcl hhas hjs hjy hs) ?_
 rintro σ H Q ⟨r,q⟩
 refine⟨r,λJ H2 s2 ok D hD Y eH eK=> ?_⟩
 have fzs:∀(i:Nat),∀d∈((ds.take i).filter p).map f,Fz d:=λi d hd=>by
  obtain⟨d',h1,rfl⟩:=List.mem_map.mp hd
  obtain⟨h2,h3⟩:=List.mem_filter.mp h1
  exact hfz d' (List.mem_of_mem_take h2) h3
 refine⟨λi m zs H3=>m=ds.length-i∧i≤ds.length∧(∀b o,H2 b=some o→H3 b=some o)∧IsAll X.K H3 zs (((ds.take i).filter p).map f),⟨ds.length,by simp,Nat.zero_le _,bA hD,?_⟩,?_⟩
 ·simpa using IsAll.nil
 ·rintro i m zs H3 hzs ⟨rfl,hil,k3,hA⟩
  obtain⟨stop,go⟩:=ok H3 k3
  by_cases hlt:i<ds.length
  ·obtain⟨g,y⟩:=go i ds[i] (by simp[hlt])
   refine .inr ⟨g,λv H4 hy=> ?_⟩
   obtain⟨rfl,hv⟩:=y v H4 hy
   have hmem:ds[i]∈ds:=List.getElem_mem hlt
   have r3:RelE X H4 σ ρ:=r.mono (s2.trans k3)
   refine⟨ds[i],hmem,jf eK r3 hv,λH5 s5=> ?_⟩
   have etake:ds.take (i+1)=ds.take i++[ds[i]]:=by rw[List.take_succ_eq_append_getElem hlt]
   cases hp:p ds[i]with
   | false=>
    refine iteF ⟨zs,ds.length-(i+1),s5 _ _ hzs,by omega,rfl,hlt,λb o h=>s5 _ _ (k3 b o h),?_⟩
    rw[etake,List.filter_append]
    simpa [hp] using hA.mono s5
   | true=>
    refine iteT ⟨ds[i],hmem,hp,(jf eK r3 hv).mono s5,λy H6 s6 hy6=>⟨zs,s6 _ _ (s5 _ _ hzs),?_,ds.length-(i+1),by omega,rfl,hlt,λb o h=> ?_,?_⟩⟩
    ·have e1:=hA.length
     rw[List.length_map]at e1
     have e2:=List.length_filter_le p (ds.take i)
     rw[List.length_take]at e2
     rw[sizeLine_eq]
     omega
    ·rw[upd_ne (ne_of_none h hD)]
     exact s6 _ _ (s5 _ _ (k3 b o h))
    ·have hD6:H6 D=some (.lst zs):=s6 _ _ (s5 _ _ hzs)
     have kt:KT H6 (upd H6 D (.lst (zs++[y]))):=
      ⟨λb xs h=>by rw[upd_ne (ne_of h hD6 (by intro z;cases z))];exact h,λb o u h=>by rw[upd_ne (ne_of h hD6 (by intro z;cases z))];exact h⟩
     rw[etake,List.filter_append,List.map_append]
     refine IsAll.append ((hA.mono (s5.trans s6)).keep kt (fzs i)) ?_
     rw[eK]at hy6
     simpa [hp] using IsAll.cons (hy6.keep kt (hfz _ hmem hp)) .nil
  ·refine .inl ⟨stop i (by omega),q D zs H3 (s2.free hD) (s2.trans k3) hzs ?_⟩
   have:ds.take i=ds:=List.take_of_length_le (by omega)
   rw[this]at hA
   exact hA
end FL
namespace FL
open PySem PySem.Spec PyProof.Rows L2
theorem oN:∀ {bs:List Bool} {us:List Value},Vals (bs.map V.bl) us→LSm.BoolsAre us bs
 | [],_,.nil=>.nil
 | b::_,_,.cons r t=>by
  cases r
  exact .cons b (oN t)
theorem uv{X:Cx}(hc:X.calm=true): CallR X (.builtin "all") (λvs H Q=>∃(a:Addr) (bs:List Bool),vs=[.ref a]∧SqL X.K H a (bs.map V.bl)∧Q (.bl (bs.all id)) H):=by
 intro pins s σ H vs us Q I r h
 obtain⟨l,bs,rfl,hq,q⟩:=h
 obtain⟨u,rfl,ru⟩:=vals1 r
 cases ru
 obtain⟨its,rv,p,hz⟩:=I.list hq
 have hb:LSm.BoolsAre its bs:=oN rv
 have hl:=p.isList
 have hlt:l<s.heap.objs.size:=by obtain⟨_,e,_⟩:=hl;exact Heap.lt_size e
 refine call_all_walk (wpAny_pyIter_list hl ?_)
 refine⟨s.heap.objs.size,[s.heap.objs.size,l],[s.heap.objs.size],its.toArray.size,_,_,λi=>(bs[i]?).getD true,rfl,Walks.list (A:=X.A.in1) (I.ok.hd hc) _ l (Nat.ne_of_lt hlt) its.toArray,
  ⟨⟨_,Heap.get?_push_size _ rfl,rfl,rfl⟩,hl.push _⟩,λi v s' Q' E' hP hQ=> ?_,λh' tk hk=> ?_⟩
 ·obtain⟨b,e,rfl⟩:=hb.get i v (by simpa using hP)
  simp only[e,Option.getD_some]at hQ
  exact wpAny_truthy_bool hQ
 ·have e:((List.range its.toArray.size).all λi=>(bs[i]?).getD true)=bs.all id:=by
   rw[List.size_toArray,hb.length];exact LSm.range_all bs
  rw[e]
  exact⟨.bl _,H,I.kept (LSm.kept_iter hk),rfl,q⟩
theorem IsAll.bools{K:PySem.W.Frag}{H:Hp}: ∀ {vs:List V} {bs:List Bool},IsAll K H vs (bs.map D.bl)→vs=bs.map V.bl
 | _,[],.nil=>rfl
 | _,b::bs,.cons h r=>by
  cases h.bl_inv
  rw[IsAll.bools r]
  rfl
section
variable {X : Cx} {e a b c : Expr} {es : List Expr} {ρ : Ro} {d : D} {ds : List D} {pos : Pos} {i j : Int} {k k' : Bool}
theorem uN{p:Pos}{bs:List Bool}(hc:X.calm=true)(hm:X.mg "all"=none)(ha:Ev X a ρ (.ls (bs.map D.bl)))(hg:Gl X "all":= by rfl)(he:starEach [a] X.env=[(false,eval a X.env)]:=by rfl): Ev X (.Call (.Name "all" p) [a] [] pos) ρ (.bl (bs.all id)):=
 fb (uv hc) hm boot_all (ad ha ae he) (λvs H Q h0 q=>by
  obtain⟨v,rfl,h⟩:=eO h0
  obtain⟨l,xs,rfl,h1,h2⟩:=h.ls_inv
  cases h2.bools
  exact⟨l,bs,rfl,h1,q _ H (Same.refl H) (.bl _)⟩) hg (by decide) (by decide) he rfl
end
theorem iY{K:PySem.W.Frag}{T U:String}{k:Bool}(hne:(Value.type T==Value.type U)=false)(hm:PySem.W.kitMeta U=true)(hs:(fastBuiltinMro T).map (·.contains (.type U))=some k): PySem.W.kitOne K (.type T) (.type U)=some k:=by
 unfold PySem.W.kitOne
 rw[hne,if_neg Bool.false_ne_true]
 unfold PySem.W.kitCls
 dsimp only
 rw[if_pos hm]
 exact hs
theorem mJ{K:PySem.W.Frag}{T:String}: PySem.W.kitOne K (.type T) (.type T)=some true:=by
 unfold PySem.W.kitOne
 rw[if_pos (by simp)]
theorem iZ{K:PySem.W.Frag}: PySem.W.kitOne K (.type "int") (.type "bool")=some false:=iY (by decide +kernel) (by decide +kernel) (by decide +kernel)
theorem nX{K:PySem.W.Frag}: PySem.W.kitOne K (.type "bool") (.type "int")=some true:=iY (by decide +kernel) (by decide +kernel) (by decide +kernel)
theorem iG:bootBuiltins "int"=some (.type "int"):=by decide +kernel
theorem nF:bootBuiltins "bool"=some (.type "bool"):=by decide +kernel
theorem dW:bootBuiltins "tuple"=some (.type "tuple"):=by decide +kernel
theorem oM{ns:List Int}(h:PySem.W.WData.layableAll [PySem.W.WData.list (ns.map PySem.W.WData.int)]=true): ∀z∈ns,Builtin.Int.intBits z≤1048576:=λz hz=>by
 have h1:=PySem.W.layableW_arg h _ List.mem_cons_self
 have h2:=PySem.W.layableW_item h1 (.int z) (List.mem_map.mpr ⟨z,hz,rfl⟩)
 have h3:=PySem.W.layable0_of_all (PySem.W.lay0_int h2)
 exact PyData.bits_of_layable h3
end FL
namespace FL
open PySem
open Builtin.Int (intBits)
theorem Bd.up{i:Int}{m:Nat}(h:Bd i m)(n:Nat)(hn:m≤n): Bd i n:=⟨Nat.le_trans h.lt hn⟩
theorem Bd.of_lt{i:Int}{m:Nat}(h:i.natAbs<2^m): Bd i m:=⟨intBits_le_iff.mpr h⟩
theorem Bd.lit{i:Int}{m:Nat}(h:i.natAbs<2^m:=by decide): Bd i m:=.of_lt h
theorem Bd.add{i j:Int}{m n:Nat}(hi:Bd i m)(hj:Bd j n)(k:Nat)(h:max m n+1≤k): Bd (i+j) k:=⟨Nat.le_trans (intBits_add_le hi.lt hj.lt) h⟩
theorem Bd.sub{i j:Int}{m n:Nat}(hi:Bd i m)(hj:Bd j n)(k:Nat)(h:max m n+1≤k): Bd (i-j) k:=⟨Nat.le_trans (intBits_sub_le hi.lt hj.lt) h⟩
theorem Bd.mul{i j:Int}{m n:Nat}(hi:Bd i m)(hj:Bd j n)(k:Nat)(h:m+n≤k): Bd (i*j) k:=⟨Nat.le_trans (intBits_mul_le hi.lt hj.lt) h⟩
instance bd_add{i j:Int}{m n:Nat}[hi:Bd i m][hj:Bd j n]: Bd (i+j) (max m n+1):=⟨intBits_add_le hi.lt hj.lt⟩
instance bd_mul{i j:Int}{m n:Nat}[hi:Bd i m][hj:Bd j n]: Bd (i*j) (m+n):=⟨intBits_mul_le hi.lt hj.lt⟩
instance bd_0:Bd 0 0:=.lit
instance bd_2:Bd 2 2:=.lit
instance bd_4:Bd 4 3:=.lit
theorem Bd.div{i j:Int}{m:Nat}(hi:Bd i m)(h:0<j): Bd (i/j) m:=by
 have e:=intBits_fdiv_le (y:=j) hi.lt
 rw[Int.fdiv_eq_ediv_of_nonneg i (by omega)]at e
 exact⟨e⟩
theorem Bd.le{i j:Int}{m:Nat}(hj:Bd j m)(h:i.natAbs≤j.natAbs): Bd i m:=⟨intBits_le_of_natAbs h hj.lt⟩
theorem Bd.sqrt{y N:Int}{k:Nat}(h:y*y≤N)(hN:Bd N (k+k)): Bd y k:=by
 refine .of_lt ?_
 have h1:=intBits_le_iff.mp hN.lt
 have h2:y.natAbs*y.natAbs≤N.natAbs:=by
  have:(y.natAbs*y.natAbs:Nat)=(y*y).natAbs:=by rw[Int.natAbs_mul]
  rw[this]
  have h0:0≤y*y:=by
   rw[← Int.natAbs_mul_self]
   exact Int.natCast_nonneg _
  omega
 refine Nat.lt_of_not_le λq=> ?_
 have h3:=Nat.mul_le_mul q q
 rw[← Nat.pow_add]at h3
 omega
theorem Bd.factor{a p:Int}{k:Nat}(ha:0<a)(h:Bd (2*a*p) k): Bd p k:=by
 refine h.le ?_
 rw[Int.natAbs_mul]
 have:1≤(2*a).natAbs:=by omega
 have:=Nat.mul_le_mul_right p.natAbs this
 omega
end FL
namespace FL
open PySem PySem.Spec PyProof.Rows L2
def yS(X:Cx)(Ok:Ro→Prop)(J:It)(ρ:Ro)(H:Hp)(ds:List D): Prop:=
 ∀ρ' H3 σ3,Go ρ H ρ' H3→RelS X X.H₀ H3 σ3 ρ'→Ok ρ'→(∀i,ds.length≤i→J.stop i H3)∧∀i d,ds[i]?=some d→J.go i H3∧∀x H4,J.yld i H3 x H4→H4=H3∧Is X.K H3 x d
def zy(X:Cx)(Ok:Ro→Prop)(ρ:Ro)(ds:List D): TI:=λσ H R=>RelS X X.H₀ H σ ρ∧∀J H',Same H H'→yS X Ok J ρ H' ds→R J H'
def Wk(X:Cx)(Ok:Ro→Prop)(tg e:Expr)(ρ:Ro)(ds:List D): Prop:=PI X tg e (zy X Ok ρ ds)
theorem yp{X:Cx}{Ok:Ro→Prop}{ρ:Ro}{H:Hp}{a:Addr}{ds:List D}(h:∀ρ' H3 σ3,Go ρ H ρ' H3→RelS X X.H₀ H3 σ3 ρ'→Ok ρ'→∃xs,SqL X.K H3 a xs∧IsAll X.K H3 xs ds): yS X Ok (Itl X.K a) ρ H ds:=by
 intro ρ' H3 σ3 g r3 ok
 obtain⟨xs,hT3,hA⟩:=h ρ' H3 σ3 g r3 ok
 refine⟨λi hi=>⟨xs,hT3,by rw[hA.length];exact hi⟩,λi d hd=> ?_⟩
 obtain⟨v,hv,hI⟩:=hA.get hd
 exact⟨⟨xs,v,hT3,hv⟩,λx H4 ⟨e4,y⟩=>⟨e4,by have:=y xs hT3;rw[hv]at this;cases this;exact hI⟩⟩
section
variable {X : Cx} {e a b c tg : Expr} {es : List Expr} {ρ : Ro} {d : D} {ds : List D} {pos : Pos} {i j : Int} {rest A B : List Stmt} {P : Po}
theorem yx(h:iS X e ρ ds)(hz:∀d∈ds,Fz d): Wk X (λ_=>True) tg e ρ ds:=by
 refine PI.imp (pi_list h) ?_
 rintro σ H R ⟨r,q⟩
 refine⟨r.e,λp vs H1 hp s1 e1 h1=>⟨p,rfl,⟨vs,.of e1⟩,q _ H1 s1 (yp λρ' H3 σ3 g r3 _=> ?_)⟩⟩
 have nm:¬Mu ρ p:=λm=>by obtain⟨ys,z,_⟩:=r.mu m;rw[hp]at z;cases z
 exact⟨vs,.of (g.kept _ _ e1 nm),h1.keep (g.kt (r.mono s1)) hz⟩
theorem uE(n:Nat){x:Str}{p':Pos}{Ok:Ro→Prop}(Iv:Nat→Ro→Prop)(M:Ro→Prop)(hp:PassesOwn (model X.prog X.w) X.A X.env X.xe)(hc:X.calm=true)(he:Wk X Ok (.Name x p') e ρ ds)(hz:∀d∈ds,Fz d)(hok:∀i ρ,Iv i ρ→Ok ρ)(h0:Iv 0 ρ)
  (hs:∀(i:Nat) (d:D) (ρ:Ro),ds[i]?=some d→Iv i ρ→Do X A (ρ.set n (some d)) { nx:=Iv (i+1),rt:=P.rt,bk:=M,ct:=Iv (i+1) }) (hd:∀ρ,Iv ds.length ρ→M ρ)
  (h:∀ρ',M ρ'→Do X rest ρ' P) (hN:X.N.Nodup) (hi:X.N[n]?=some x:=by rfl) (hx:Loc X.env.scope x:=by first|exact Or.inl rfl|exact Or.inr rfl)
  (hf:X.fn x=true∨X.env.scope.names.lookup x=some .local:=by first|exact .inl rfl|exact .inr rfl) (hset:∀x,foldedSetIterable e X.env x=pure x:=by intro _;rfl):Do X (.For (.Name x p') e A [] pos::rest) ρ P:=by
 refine dH (M:=M) ?_ h
 have hb:PSs X A (λD σ H=>∃i d ρ,ds[i]?=some d∧Iv i ρ∧xb X (ρ.set n (some d)) { nx:=Iv (i+1),rt:=P.rt,bk:=M,ct:=Iv (i+1) } D σ H):=
  λpins s σ H D I ⟨i,d,ρ,e1,e2,q⟩=>hs i d ρ e1 e2 pins s σ H D I q
 refine PS.imp (ps_for hp hc he (pg_name hN hi hx hf) hb hset) ?_
 rintro D σ H ⟨r,q1,q2,q3,q4⟩
 refine⟨r,λJ H1 s1 src=> ?_⟩
 have g1:Go ρ H ρ H1:=Go.same s1
 refine⟨λi m σ' H'=>m=ds.length-i∧i≤ds.length∧∃ρ',Iv i ρ'∧RelS X X.H₀ H' σ' ρ'∧Go ρ H1 ρ' H',⟨ds.length,by simp,Nat.zero_le _,ρ,h0,r.mono s1,Go.refl ρ H1⟩,?_⟩
 rintro i m σ' H' ⟨rfl,hil,ρ',iv,r',g⟩
 obtain⟨stop,go⟩:=src ρ' H' σ' g r' (hok i ρ' iv)
 by_cases hlt:i<ds.length
 ·obtain⟨g0,y⟩:=go i ds[i] (by simp[hlt])
  refine .inr ⟨g0,λσ2 H2=>∃ρ2,Iv (i+1) ρ2∧RelS X X.H₀ H2 σ2 ρ2∧Go ρ H1 ρ2 H2,λσ2 H2 p2=>⟨ds.length-(i+1),by omega,rfl,hlt,p2⟩,λv H4 hy=> ?_⟩
  obtain⟨rfl,hv⟩:=y v H4 hy
  have fz:Fz ds[i]:=hz _ (List.getElem_mem hlt)
  have g2:Go ρ H1 (ρ'.set n (some ds[i])) H4:=g.trans (Go.set (Same.refl H4) λa z=>(fz.no_own z).elim)
  refine⟨i,ds[i],ρ',by simp[hlt],iv,r'.set hv n (.inl fz) (λa z=>(fz.no_own z).elim),?_,q2,?_,?_⟩
  ·exact λσ2 H2 ρ2 g' r2 iv2=>⟨ρ2,iv2,r2,g2.trans g'⟩
  ·exact λσ2 H2 ρ2 g' r2 m=>q1 σ2 H2 ρ2 (g1.trans (g2.trans g')) r2 m
  ·exact λσ2 H2 ρ2 g' r2 iv2=>⟨ρ2,iv2,r2,g2.trans g'⟩
 ·have e:i=ds.length:=by omega
  subst e
  exact .inl ⟨stop _ (Nat.le_refl _),q1 σ' H' ρ' (g1.trans g) r' (hd ρ' iv)⟩
theorem iX(n:Nat){x:Str}{pos':Pos}(he:iS X e ρ ds)(hz:∀d∈ds,Fz d)(h:∀l,¬Mu ρ l→Do X rest (ρ.set n (some (.lst l ds))) P)(hN:X.N.Nodup)(hi:X.N[n]?=some x:=by rfl)(hx:Loc X.env.scope x:=by first|exact Or.inl rfl|exact Or.inr rfl)
  (hs:swapsWith e (some (.Name x pos')) pos.line X.env=pure false:=by rfl) (hf:X.fn x=true∨X.env.scope.names.lookup x=some .local:=by first|exact .inl rfl|exact .inr rfl):Do X (.Assign [.Name x pos'] e pos::rest) ρ P:=by
 refine dH (M:=λρ'=>∃l,¬Mu ρ l∧ρ'=ρ.set n (some (.lst l ds))) (PS.imp (ps_set hN hi hx he hs hf) ?_) (λ_ ⟨l,hl,z⟩=>z▸h l hl)
 rintro D σ H ⟨r,q1,q2,q3,q4⟩
 refine⟨r.e,λl vs H' hl s e1 h'=>q1 _ H' _ (Go.set s λa z=> ?_) ((r.mono s).set (.lst e1 h') n (.inr (.inr (.lst hz))) λa z=> ?_) ⟨l,λm=> ?_,rfl⟩⟩
 ·cases z
  exact .inr hl
 ·cases z
  exact r.same.free hl
 ·obtain⟨ys,z,_⟩:=r.mu m
  rw[hl]at z
  cases z
theorem eZ(n:Nat){x:Str}{l:Addr}{p1 p2 p3:Pos}(hρ:ρ[n]?=some (some (.lst l ds)))(he:Ev X e ρ d)(hz:Fz d)(hl:ds.length<1000000)(hothers:∀(j:Nat) (es:List D),j≠n→ρ[j]?≠some (some (.lst l es)))
  (h:Do X rest (ρ.set n (some (.lst l (ds++[d])))) P) (hN:X.N[n]?=some x:=by rfl) (hv:Vis X.env.scope x:=by first|exact Or.inl rfl|exact Or.inr (Or.inl rfl)|exact Or.inr (Or.inr rfl))
  (hd:(x==("__debug__": Str))=false:=by decide) (hcd:(x==("__classdict__": Str))=false:=by decide)
  (hbase:attributeBase (.Name x p1) "append" X.env (eval (.Name x p1) X.env)=eval (.Name x p1) X.env:=by rfl)
  (hfew:((backTo p3 (starEach [e] X.env)).all (λx=> !x.1)&&(backToKw p3 (keywordEach [] X.env)).all (λx=>x.1.isSome)&&decide ([e].length+([]:List Keyword).length+(if ([]:List Keyword).isEmpty then 0 else 1)<30))=true:=by rfl)
  (hline:(p2.endLine==p3.line)=true:=by rfl) (hstar:starEach [e] X.env=[(false,eval e X.env)]:=by rfl) (hs:swapsWith (.Call (.Attribute (.Name x p1) "append" p2) [e] [] p3) none pos.line X.env=pure false:=by rfl) :
  Do X (.Expr (.Call (.Attribute (.Name x p1) "append" p2) [e] [] p3) pos::rest) ρ P:=by
 refine dH (M:=λρ'=>ρ'=ρ.set n (some (.lst l (ds++[d])))) (PS.imp (ps_expr (pe_bm PySem.F.plainAttrs_list PySem.F.slot_list_append PySem.F.type_list_append mt_append (pe_var hN hv hd hcd) (ad he ae hstar) hbase hfew hline hstar rfl) hs) ?_) (λ_ z=>z▸h)
 rintro D σ H ⟨r,q1,q2,q3,q4⟩
 obtain⟨v,e1,h1,h2⟩:=r.val n _ hρ
 obtain⟨rfl,xs,hT,hA⟩:=h1.lst_inv
 have fds:∀e∈ds,Fz e:=by
  rcases h2 with z|z|z
  ·cases z
  ·obtain⟨_,ys,z,_⟩:=z.lst_inv
   rw[r.own l ⟨n,_,hρ,rfl⟩]at z
   cases z
  ·cases z with|lst f=>exact f
 refine⟨_,e1,.inl ⟨rfl,xs,.of hT⟩,r.e,λvs H2 s2 h3'=> ?_⟩
 obtain⟨v2,rfl,h3⟩:=eO h3'
 have hT2:=s2 _ _ hT
 have lx:xs.length=ds.length:=hA.length
 refine⟨l,xs,v2,rfl,rfl,hT2,by rw[sizeLine_eq];omega,?_⟩
 have kt:KT H2 (upd H2 l (.lst (xs++[v2]))):=
  ⟨λb xs h=>by rw[upd_ne (ne_of h hT2 (by intro z;cases z))];exact h,λb o u h=>by rw[upd_ne (ne_of h hT2 (by intro z;cases z))];exact h⟩
 have r2:=r.mono s2
 have h0:X.H₀ l=none:=r.own l ⟨n,_,hρ,rfl⟩
 have same:Same X.H₀ (upd H2 l (.lst (xs++[v2]))):=λb o h=>by
  rw[upd_ne (ne_of_none h h0)]
  exact r2.same b o h
 have hnl:n<ρ.length:=(List.getElem?_eq_some_iff.mp hρ).1
 have go:Go ρ H (ρ.set n (some (.lst l (ds++[d])))) (upd H2 l (.lst (xs++[v2]))):=by
  refine⟨λb o h nm=> ?_,?_⟩
  ·have:b≠l:=λz=>nm (z▸⟨n,_,hρ,rfl⟩)
   rw[upd_ne this]
   exact s2 _ _ h
  ·rintro a ⟨j,es,hj,hw⟩
   rcases dQ hj with⟨rfl,rfl,_⟩|⟨_,hj⟩
   ·cases hw
    exact .inl ⟨_,_,hρ,rfl⟩
   ·exact .inl ⟨j,es,hj,hw⟩
 have own:∀a,Mu (ρ.set n (some (.lst l (ds++[d])))) a→X.H₀ a=none:=by
  rintro a ⟨j,es,hj,hw⟩
  rcases dQ hj with⟨rfl,rfl,_⟩|⟨_,hj⟩
  ·cases hw
   exact h0
  ·exact r.own a ⟨j,es,hj,hw⟩
 refine q1 _ _ _ go ⟨same,by simp[r.len],λj e' hj=> ?_,own⟩ rfl
 rcases dQ hj with⟨rfl,rfl,_⟩|⟨hne,hj⟩
 ·refine⟨.ref l,e1,.lst upd_same ?_,.inr (.inr (.lst λe' he'=> ?_))⟩
  ·exact((hA.mono s2).keep kt fds).append (.cons (h3.keep kt hz) .nil)
  ·rcases List.mem_append.mp he' with z|z
   ·exact fds _ z
   ·rw[List.mem_singleton.mp z];exact hz
 ·obtain⟨u,f1,f2,f3⟩:=r2.val j e' hj
  refine⟨u,f1,?_,f3⟩
  rcases f3 with z|z|z
  ·exact f2.keep kt z
  ·exact z.mono same
  ·exact z.keep f2 kt λa ha=>upd_ne (r8 f2 ha hT2 λes ez=>hothers j es hne (ez▸hj))
end
end FL
namespace FL
open PySem PySem.Spec PyProof.Rows L2
mutual
inductive Cm:Nat→D→D→Prop
 | non {n:Nat}:Cm n .non .non
 | bl {n:Nat} (a b:Bool):Cm n (.bl a) (.bl b)
 | int {n:Nat} (i j:Int):Cm n (.int i) (.int j)
 | str {n:Nat} (x y:Str):Cm n (.str x) (.str y)
 | tup {n:Nat} {ds es:List D} (h:Cms n ds es):Cm (n+1) (.tup ds) (.tup es)
 | fl {n:Nat} {ds es:List D} (h:Cms n ds es):Cm (n+1) (.fl ds) (.fl es)
inductive Cms:Nat→List D→List D→Prop
 | nil {n:Nat}:Cms n [] []
 | short {n:Nat} (e:D) (es:List D):Cms n [] (e::es)
 | long {n:Nat} (d:D) (ds:List D):Cms n (d::ds) []
 | cons {n:Nat} {d e:D} {ds es:List D} (h:Cm n d e) (r:Cms n ds es):Cms n (d::ds) (e::es)
end
theorem Cms.ints{n:Nat}: ∀(ns ms:List Int),Cms n (ns.map D.int) (ms.map D.int)
 | [],[]=>.nil
 | [],m::ms=>.short _ _
 | n::ns,[]=>.long _ _
 | n::ns,m::ms=>.cons (.int n m) (Cms.ints ns ms)
theorem Cm.ints{n:Nat}(ns ms:List Int): Cm (n+1) (.tup (ns.map D.int)) (.tup (ms.map D.int)):=.tup (Cms.ints ns ms)
theorem Cms.get{n:Nat}: ∀ {ds es:List D},Cms n ds es→∀(j:Nat) (d e:D),ds[j]?=some d→es[j]?=some e→Cm n d e
 | _,_,.nil,j,d,e,h,_=>by simp at h
 | _,_,.short _ _,j,d,e,h,_=>by simp at h
 | _,_,.long _ _,j,d,e,_,h=>by simp at h
 | _,_,.cons h r,0,d,e,h1,h2=>by simp at h1 h2;subst h1 h2;exact h
 | _,_,.cons h r,j+1,d,e,h1,h2=>Cms.get r j d e (by simpa using h1) (by simpa using h2)
open Classical in
noncomputable def ju(d e:D): Bool:=decide (d=e)
open Classical in
theorem bN{d e:D}: ju d e=true↔d=e:=by unfold ju;exact decide_eq_true_iff
theorem eV{d e:D}{k:Bool}(h:k=true↔d=e): ju d e=k:=by
 cases k with
 | true=>exact bN.mpr (h.mp rfl)
 | false=>
  cases q:ju d e with
  | false=>rfl
  | true=>exact absurd (h.mpr (bN.mp q)) Bool.false_ne_true
section
variable {X : Cx} {pins : List (Addr × Obj)} {σ : L2.St} {H : Hp} {s : Shared}
mutual
theorem Is.inj(I:L2.Inv X pins σ H s): ∀ {n:Nat} {d e:D} {v:V},Cm n d e→Is X.K H v d→Is X.K H v e→d=e
 | _,_,_,_,.non,_,_=>rfl
 | _,_,_,_,.bl a b,h1,h2=>by cases h1.bl_inv;cases h2.bl_inv;rfl
 | _,_,_,_,.int a b,h1,h2=>by cases h1.int_inv;cases h2.int_inv;rfl
 | _,_,_,_,.str a b,h1,h2=>by cases h1.str_inv;cases h2.str_inv;rfl
 | _,_,_,_,.tup c,h1,h2=>by
  obtain⟨a,xs,rfl,t1,r1⟩:=h1.tup_inv
  obtain⟨a',ys,z,t2,r2⟩:=h2.tup_inv
  cases z
  cases I.tuple_inj t1 t2
  rw[IsAll.inj I c r1 r2]
 | _,_,_,_,.fl c,h1,h2=>by
  obtain⟨a,o,xs,rfl,t1,r1⟩:=h1.fl_inv
  obtain⟨a',o',ys,z,t2,r2⟩:=h2.fl_inv
  cases z
  rw[t1]at t2
  cases t2
  rw[IsAll.inj I c r1 r2]
theorem IsAll.inj(I:L2.Inv X pins σ H s): ∀ {n:Nat} {ds es:List D} {vs:List V},Cms n ds es→IsAll X.K H vs ds→IsAll X.K H vs es→ds=es
 | _,_,_,_,.nil,_,_=>rfl
 | _,_,_,_,.short _ _,h1,h2=>by have a:=h1.length;have b:=h2.length;rw[a]at b;simp at b
 | _,_,_,_,.long _ _,h1,h2=>by have a:=h1.length;have b:=h2.length;rw[a]at b;simp at b
 | _,_,_,_,.cons c r,.cons h1 r1,.cons h2 r2=>by rw[Is.inj I c h1 h2,IsAll.inj I r r1 r2]
end
theorem rl{ds es:List D}: D.tup ds=D.tup es↔ds.length=es.length∧∀(j:Nat) (d e:D),ds[j]?=some d→es[j]?=some e→d=e:=by
 constructor
 ·intro h
  cases h
  exact⟨rfl,λj d e h1 h2=>by rw[h1]at h2;exact Option.some.inj h2⟩
 ·rintro⟨h1,h2⟩
  congr 1
  refine List.ext_getElem? λj=> ?_
  by_cases hj:j<ds.length
  ·have hj':j<es.length:=by omega
   rw[List.getElem?_eq_getElem hj,List.getElem?_eq_getElem hj',h2 j _ _ (List.getElem?_eq_getElem hj) (List.getElem?_eq_getElem hj')]
  ·rw[List.getElem?_eq_none (by omega),List.getElem?_eq_none (by omega)]
noncomputable def wD(ds es:List D)(j:Nat): Bool:=match ds[j]?,es[j]? with
 | some d,some e=>ju d e
 | _,_=>true
theorem qL{ds es:List D}{j:Nat}{d e:D}(h1:ds[j]?=some d)(h2:es[j]?=some e): wD ds es j=ju d e:=by
 unfold wD
 rw[h1,h2]
theorem hG{ds es:List D}{n m:Nat}(l1:n=ds.length)(l2:m=es.length): ju (.tup ds) (.tup es)=((List.range (min n m)).all (wD ds es)&&n==m):=by
 subst l1 l2
 refine eV ?_
 rw[rl,Bool.and_eq_true,List.all_eq_true,beq_iff_eq]
 simp only[List.mem_range]
 constructor
 ·rintro⟨g1,g2⟩
  refine⟨g2,λj d e hd he=> ?_⟩
  have hj:j<ds.length:=(List.getElem?_eq_some_iff.mp hd).1
  have:=g1 j (by omega)
  rw[qL hd he]at this
  exact bN.mp this
 ·rintro⟨g2,g1⟩
  refine⟨λj hj=> ?_,g2⟩
  have d1:ds[j]?=some ds[j]:=List.getElem?_eq_getElem (by omega)
  have d2:es[j]?=some es[j]:=List.getElem?_eq_getElem (by omega)
  rw[qL d1 d2]
  exact bN.mpr (g1 j _ _ d1 d2)
theorem xQ{ds es:List D}: ju (.fl ds) (.fl es)=ju (.tup ds) (.tup es):=eV (by rw[bN];constructor<;>intro h<;>cases h<;>rfl)
theorem dR{A:Around}{xs ys:List V}{us ws:List Value}{ds es:List D}(q1:IsAll X.K H xs ds)(q2:IsAll X.K H ys es)(w1:Vals xs us)(w2:Vals ys ws)
  (hit:∀(j:Nat) (d e:D) (v1 v2:V) (u1 u2:Value),ds[j]?=some d→es[j]?=some e→Is X.K H v1 d→Is X.K H v2 e→RelV v1 u1→RelV v2 u2→SeqAt.EqAt A s u1 u2 (ju d e)) :
  ∀(j:Nat) (h1:j<us.toArray.size) (h2:j<ws.toArray.size),SeqAt.EqAt A s us.toArray[j] ws.toArray[j] (wD ds es j):=by
 intro j h1 h2
 have l1:us.length=ds.length:=by rw[← w1.length,q1.length]
 have l2:ws.length=es.length:=by rw[← w2.length,q2.length]
 have j1:j<us.length:=by simpa using h1
 have j2:j<ws.length:=by simpa using h2
 have d1:ds[j]?=some ds[j]:=List.getElem?_eq_getElem (by omega)
 have d2:es[j]?=some es[j]:=List.getElem?_eq_getElem (by omega)
 obtain⟨v1,g1,i1⟩:=q1.get d1
 obtain⟨v2,g2,i2⟩:=q2.get d2
 obtain⟨u1,g3,k1⟩:=w1.get g1
 obtain⟨u2,g4,k2⟩:=w2.get g2
 have e1:us.toArray[j]=u1:=by
  have:us[j]?=some us[j]:=List.getElem?_eq_getElem j1
  rw[g3]at this
  simpa using (Option.some.inj this).symm
 have e2:ws.toArray[j]=u2:=by
  have:ws[j]?=some ws[j]:=List.getElem?_eq_getElem j2
  rw[g4]at this
  simpa using (Option.some.inj this).symm
 rw[e1,e2,qL d1 d2]
 exact hit j _ _ v1 v2 u1 u2 d1 d2 i1 i2 k1 k2
theorem iH(I:L2.Inv X pins σ H s): ∀ {n:Nat} {d e:D} {v u:V} {v' u':Value} (A:Around),Cm n d e→A.units+n<cLine→Is X.K H v d→Is X.K H u e→RelV v v'→RelV u u'→SeqAt.EqAt A s v' u' (ju d e)
 | n,_,_,v,u,v',u',A,.non,_,h1,h2,r1,r2=>by
  cases h1.non_inv;cases h2.non_inv;cases r1;cases r2
  rw[eV (k:=true) (by simp)]
  exact SeqAt.EqAt.same _
 | n,_,_,v,u,v',u',A,.bl a b,_,h1,h2,r1,r2=>by
  cases h1.bl_inv;cases h2.bl_inv
  rw[eV (k:=eqV (.bl a) (.bl b)) (by show(a==b)=true↔_;simp)]
  exact eqAt_V r1 r2 rfl rfl
 | n,_,_,v,u,v',u',A,.int a b,_,h1,h2,r1,r2=>by
  cases h1.int_inv;cases h2.int_inv
  rw[eV (k:=eqV (.int a) (.int b)) (by show(a==b)=true↔_;simp)]
  exact eqAt_V r1 r2 rfl rfl
 | n,_,_,v,u,v',u',A,.str a b,_,h1,h2,r1,r2=>by
  cases h1.str_inv;cases h2.str_inv
  rw[eV (k:=eqV (.str a) (.str b)) (by show(a==b)=true↔_;simp)]
  exact eqAt_V r1 r2 rfl rfl
 | n+1,.tup ds,.tup es,v,u,v',u',A,.tup c,hu,h1,h2,r1,r2=>by
  obtain⟨a,xs,rfl,t1,q1⟩:=h1.tup_inv
  obtain⟨b,ys,rfl,t2,q2⟩:=h2.tup_inv
  cases r1
  cases r2
  by_cases hab:a=b
  ·subst hab
   cases I.tuple_inj t1 t2
   rw[IsAll.inj I c q1 q2,eV (k:=true) (by simp)]
   exact SeqAt.EqAt.same _
  ·obtain⟨us,w1,p1,_⟩:=I.tuple t1
   obtain⟨ws,w2,p2,_⟩:=I.tuple t2
   rw[hG (n:=us.toArray.size) (m:=ws.toArray.size) (by rw[List.size_toArray,← w1.length,q1.length]) (by rw[List.size_toArray,← w2.length,q2.length])]
   exact SeqAt.EqAt.of_refs hab (SeqAt.RcAt.tuples p1 p2 (by omega) (dR q1 q2 w1 w2 λj d e v1 v2 u1 u2 d1 d2 i1 i2 k1 k2=>iH I A.in1 (c.get j _ _ d1 d2) (by show A.units+1+n<cLine;omega) i1 i2 k1 k2))
 | n+1,.fl ds,.fl es,v,u,v',u',A,.fl c,hu,h1,h2,r1,r2=>by
  obtain⟨a,o,xs,rfl,t1,q1⟩:=h1.fl_inv
  obtain⟨b,o',ys,rfl,t2,q2⟩:=h2.fl_inv
  cases r1
  cases r2
  by_cases hab:a=b
  ·subst hab
   rw[t1]at t2
   cases t2
   rw[IsAll.inj I c q1 q2,eV (k:=true) (by simp)]
   exact SeqAt.EqAt.same _
  ·obtain⟨us,w1,p1,_⟩:=I.list (.inl (.inr ⟨o,t1⟩))
   obtain⟨ws,w2,p2,_⟩:=I.list (.inl (.inr ⟨o',t2⟩))
   have e1:us.length=ds.length:=by rw[← w1.length,q1.length]
   have e2:ws.length=es.length:=by rw[← w2.length,q2.length]
   rw[xQ,hG (n:=us.length) (m:=ws.length) e1 e2]
   by_cases hz:us.length=ws.length
   ·have ek:(List.range us.toArray.size).all (wD ds es)=((List.range (min us.length ws.length)).all (wD ds es)&&us.length==ws.length):=by
     rw[List.size_toArray,show min us.length ws.length=us.length by omega,show(us.length==ws.length)=true by simp;omega,Bool.and_true]
    rw[← ek]
    exact SeqAt.EqAt.of_refs hab (SeqAt.RcAt.lists p1.isList p2.isList (by simp;omega) (by omega) (dR q1 q2 w1 w2 λj d e v1 v2 u1 u2 d1 d2 i1 i2 k1 k2=>iH I A.in1 (c.get j _ _ d1 d2) (by show A.units+1+n<cLine;omega) i1 i2 k1 k2))
   ·have ek:((List.range (min us.length ws.length)).all (wD ds es)&&us.length==ws.length)=false:=by
     rw[show(us.length==ws.length)=false by simpa using hz,Bool.and_false]
    rw[ek]
    exact SeqAt.EqAt.of_refs hab (SeqAt.RcAt.lists_lengths p1.isList p2.isList (by simpa using hz) (by omega))
end
section
variable {X : Cx}
def ym(X:Cx)(neg:Bool): R2:=λx y H Q=>∃n ds es,Cm (n+1) (.tup ds) (.tup es)∧X.A.units+n+1<cLine∧Is X.K H x (.tup ds)∧Is X.K H y (.tup es)∧Q (.bl (if neg then !ju (.tup ds) (.tup es)else ju (.tup ds) (.tup es))) H
theorem zZ:OpR X (compareOp .Eq) (ym X false):=by
 intro pins s σ H x y v u Q I rx ry h
 obtain⟨n,ds,es,c,hu,h1,h2,q⟩:=h
 obtain⟨a,xs,rfl,t1,q1⟩:=h1.tup_inv
 obtain⟨b,ys,rfl,t2,q2⟩:=h2.tup_inv
 cases rx
 cases ry
 cases c with
 | tup c=>
  obtain⟨us,w1,p1,_⟩:=I.tuple t1
  obtain⟨ws,w2,p2,_⟩:=I.tuple t2
  refine SeqAt.eq_tupleAt p1 p2 (by omega) (dR q1 q2 w1 w2 λj d e v1 v2 u1 u2 d1 d2 i1 i2 k1 k2=>iH I X.A.in1 (c.get j _ _ d1 d2) (by show X.A.units+1+n<cLine;omega) i1 i2 k1 k2) ?_
  rw[← hG (n:=us.toArray.size) (m:=ws.toArray.size) (by rw[List.size_toArray,← w1.length,q1.length]) (by rw[List.size_toArray,← w2.length,q2.length])]
  exact⟨.bl _,H,I,rfl,q⟩
theorem yf:OpR X (compareOp .NotEq) (ym X true):=by
 intro pins s σ H x y v u Q I rx ry h
 obtain⟨n,ds,es,c,hu,h1,h2,q⟩:=h
 obtain⟨a,xs,rfl,t1,q1⟩:=h1.tup_inv
 obtain⟨b,ys,rfl,t2,q2⟩:=h2.tup_inv
 cases rx
 cases ry
 cases c with
 | tup c=>
  obtain⟨us,w1,p1,_⟩:=I.tuple t1
  obtain⟨ws,w2,p2,_⟩:=I.tuple t2
  refine SeqAt.RcNeAt.tuples p1 p2 (by omega) (dR q1 q2 w1 w2 λj d e v1 v2 u1 u2 d1 d2 i1 i2 k1 k2=>iH I X.A.in1 (c.get j _ _ d1 d2) (by show X.A.units+1+n<cLine;omega) i1 i2 k1 k2) _ _ _ _ ?_
  rw[← hG (n:=us.toArray.size) (m:=ws.toArray.size) (by rw[List.size_toArray,← w1.length,q1.length]) (by rw[List.size_toArray,← w2.length,q2.length])]
  exact⟨.bl _,H,I,rfl,q⟩
variable {e a b c : Expr} {es : List Expr} {ρ : Ro} {d : D} {ds fs : List D} {pos : Pos} {i j : Int} {k k' : Bool}
theorem wW{n m:Nat}{neg:Bool}(hr:Room m X.A)(c:Cm (n+1) (.tup ds) (.tup fs))(hn:n≤60)(hk:d = .bl (if neg then !ju (.tup ds) (.tup fs)else ju (.tup ds) (.tup fs))):
  ∀v1 v2 H Q,Is X.K H v1 (.tup ds)→Is X.K H v2 (.tup fs)→(∀v H',Same H H'→Is X.K H' v d→Q v H')→ym X neg v1 v2 H Q:=
 λ_ _ H _ h1 h2 q=>⟨n,ds,fs,c,(by have:=hr.units;omega),h1,h2,q _ H (Same.refl H) (hk▸.bl _)⟩
theorem uK{n m:Nat}(hr:Room m X.A)(ha:Ev X a ρ (.tup ds))(hb:Ev X b ρ (.tup fs))(c:Cm (n+1) (.tup ds) (.tup fs))(hn:n≤60:=by decide): Et X (.Compare a [.NotEq] [b] pos) ρ (!ju (.tup ds) (.tup fs)):=
 gG yf ha hb (nomark _) (wW hr c hn rfl)
theorem aQ(h:gx X es ρ ds)(hl:ds.length≤1000:=by exact Nat.le_of_ble_eq_true rfl): iS X (.List es pos) ρ ds:=by
 refine PE.imp (pe_lst h) ?_
 rintro σ H Q ⟨r,q⟩
 exact⟨r,λvs H1 s1 h1=>⟨by rw[h1.length];exact Nat.le_of_lt (small1000 hl),λp hp=>q p vs _ (s1.free hp) (s1.trans (bA hp)) upd_same (h1.mono (bA hp))⟩⟩
end
def zT(K:PySem.W.Frag)(Pf:List D→List D→Prop): Sp:=λvs H Q _=>∃ds es,IsAll K H vs ds∧Pf ds es∧∀a us H',H a=none→Same H H'→H' a=some (.lst us)→IsAll K H' us es→Q (.ref a) H'
def qh(P:Program)(w:World)(K:PySem.W.Frag)(mg:Str→Option Value)(base:Heap)(k:Nat)(x:Str)(Pf:List D→List D→Prop): Prop:=
 ∃f fd ps,FnOk P w K mg base CX0 k f fd ps (zT K Pf)∧mg x=some (.ref f)∧PySem.W.keepIn K (.ref f)=true∧Binds K fd ps []
section
variable {X : Cx} {e a b c : Expr} {es : List Expr} {ρ : Ro} {d : D} {ds : List D} {pos : Pos} {rest : List Stmt} {Q : Po}
theorem cO{k:Nat}{x:Str}{Pf:List D→List D→Prop}{fs:List D}{p:Pos}(C:qh X.prog X.w X.K X.mg X.base k x Pf)(hr:Room k X.A)(ha:gx X (e::es) ρ ds)(hp:Pf ds fs)(hg:Gl X x:=by rfl)(hdb:(x==("__debug__": Str))=false:=by decide)
  (he:starEach (e::es) X.env=(false,eval e X.env)::starEach es X.env:=by rfl) (hpl:(backTo pos (starEach es X.env)).any (·.1)=false:=by rfl):iS X (.Call (.Name x p) (e::es) [] pos) ρ fs:=by
 obtain⟨f,fd,ps,F,hm,hk,hb⟩:=C
 refine PE.imp (pe_call F hr hg hm hk hb .nil pass0 ha hdb he hpl) ?_
 rintro σ H Q ⟨r,q⟩
 refine⟨r,λvs H1 s1 h1=>⟨ds,fs,?_,hp,λv us H' hv s' e' h'=>q v us H' (s1.free hv) (s1.trans s') e' h'⟩⟩
 rw[List.append_nil]
 exact h1
theorem iW(he:iS X e ρ ds)(h:∀l,Q.rt (.lst l ds)): Do X (.Return (some e) pos::rest) ρ Q:=by
 refine PSs.imp (pss_cons (u:=tNever) (ps_ret he) pss_never) ?_
 rintro D σ H ⟨r,q1,q2,q3,q4⟩
 exact⟨r.e,λl vs H' hl s e' h'=>q2 _ H' _ (r.same.trans s) (.lst e' h') (λa z=>by cases z;exact r.same.free hl) (h l)⟩
end
section
variable {P : Program} {w : World} {K : PySem.W.Frag} {mg : Str → Option Value} {base : Heap}
theorem jE{x qual:Str}{st:Stmt}{f:Addr}{fd:FuncData}{N ps:List Str}{k:Nat}{Pf:List D→List D→Prop}(F:Fun K x qual st f fd)(S:FnScope N ps (defScope st))(hm:mg x=some (.ref f))(hb:Binds K fd ps [])
  (hl:∀ds es,Pf ds es→ds.length=ps.length∧∀d∈ds,aR d=none)
  (hbody:∀(cdv:Value) (A:Around) (outer:List Env) (s:Shared) (H:Hp) (E:XK),Room k (A.deeper (envOfC qual (defScope st) s.heap.objs.size f cdv))→∀ds es,Pf ds es→
   Do (gF P w K mg base N qual st f cdv A outer s H E) (defBody st) (nV N ds) { nx:=λ_=>False,rt:=λd'=>∃l,d' = .lst l es }):qh P w K mg base (k+1) x Pf:=by
 refine⟨f,fd,ps,F.ok S (λvs H Q E h=> ?_) (λcdv A outer s H vs Q E hr h=> ?_),hm,F.kp,hb⟩
 ·obtain⟨ds,es,h1,h2,_⟩:=h
  rw[h1.length]
  exact(hl ds es h2).1
 ·obtain⟨ds,es,h1,h2,q⟩:=h
  refine⟨_,hbody cdv A outer s H E hr ds es h2,?_⟩
  refine⟨bb (X:=gF P w K mg base N qual st f cdv A outer s H E) h1 (hl ds es h2).2,λ_ _ _ _ _ z=>z.elim,λv H' d' sm hv fr z=> ?_,λ_ _ _ _ _ z=>z.elim,λ_ _ _ _ _ z=>z.elim⟩
  obtain⟨l,z⟩:∃l,d' = .lst l es:=z
  subst z
  obtain⟨rfl,us,e1,e2⟩:=hv.lst_inv
  exact q l us H' (fr l rfl) sm e1 e2
end
end FL
namespace FL
open PySem PySem.Spec PyProof.Rows L2
def tR(X:Cx)(ρ:Ro)(R:D→Prop): TE:=λσ H Q=>RelE X H σ ρ∧∀d v H',R d→Same H H'→Is X.K H' v d→Q v H'
def tRs(X:Cx)(ρ:Ro)(R:List D→Prop): TA:=λσ H Q=>RelE X H σ ρ∧∀ds vs H',R ds→Same H H'→IsAll X.K H' vs ds→Q vs H'
def rD(X:Cx)(e:Expr)(ρ:Ro)(R:D→Prop): Prop:=PE X e (tR X ρ R)
def ql(X:Cx)(es:List Expr)(ρ:Ro)(R:List D→Prop): Prop:=PA X es (tRs X ρ R)
section
variable {X : Cx} {e a b c : Expr} {es : List Expr} {ρ : Ro} {d : D} {ds : List D} {pos : Pos} {i j : Int} {rest : List Stmt} {P : Po} {R S : D → Prop} {Rs : List D → Prop}
theorem Ev.r(h:Ev X e ρ d): rD X e ρ (λx=>x=d):=PE.imp h λ_ _ _ ⟨r,q⟩=>⟨r,λv H' s h=>q d v H' rfl s h⟩
theorem rD.imp(h:rD X e ρ R)(f:∀d,R d→S d): rD X e ρ S:=PE.imp h λ_ _ _ ⟨r,q⟩=>⟨r,λd v H' x s h=>q d v H' (f d x) s h⟩
theorem gx.r(h:gx X es ρ ds): ql X es ρ (λx=>x=ds):=PA.imp h λ_ _ _ ⟨r,q⟩=>⟨r,λv H' s h=>q ds v H' rfl s h⟩
theorem nM:ql X [] ρ (λx=>x=[]):=gx.r ae
theorem e9(ha:rD X e ρ R)(hr:ql X es ρ Rs)(hs:starEach (e::es) X.env=(false,eval e X.env)::starEach es X.env:=by rfl): ql X (e::es) ρ (λx=>∃d ds,x=d::ds∧R d∧Rs ds):=
 PA.imp (pa_cons ha hr hs) λσ H Q ⟨r,q⟩=>⟨r,λd v H1 x1 s1 h1=>⟨r.mono s1,λds vs H2 x2 s2 h2=>q _ _ H2 ⟨d,ds,rfl,x1,x2⟩ (s1.trans s2) (.cons (h1.mono s2) h2)⟩⟩
theorem xS(ha:rD X a ρ R)(hb:Ev X b ρ (.int i))(h:∀d,R d→∃ds d',d = .tup ds∧atI ds i=some d'∧S d')(hs:PlainIx b:=by exact λ_ _=>rfl): rD X (.Subscript a b pos) ρ S:=
 PE.imp (pe_ix ix_tup ha hb hs) λσ H Q ⟨r,q⟩=>⟨r,λd v1 H1 x1 s1 h1=>⟨r.mono s1,λv2 H2 s2 h2=>by
  obtain⟨ds,d',rfl,hi,x2⟩:=h d x1
  obtain⟨p,xs,rfl,h3,h4⟩:=(h1.mono s2).tup_inv
  obtain⟨v,e,h5⟩:=kA h4 hi
  exact⟨p,xs,i,v,rfl,h2.int_inv,h3,e,q d' v H2 x2 (s1.trans s2) h5⟩⟩⟩
theorem kC(n:Nat){x:Str}{pos':Pos}(he:rD X e ρ R)(hz:∀d,R d→Fz d)(h:∀d,R d→Do X rest (ρ.set n (some d)) P)(hN:X.N.Nodup)(hi:X.N[n]?=some x:=by rfl)(hx:Loc X.env.scope x:=by first|exact Or.inl rfl|exact Or.inr rfl)
  (hs:swapsWith e (some (.Name x pos')) pos.line X.env=pure false:=by rfl) (hf:X.fn x=true∨X.env.scope.names.lookup x=some .local:=by first|exact .inl rfl|exact .inr rfl):Do X (.Assign [.Name x pos'] e pos::rest) ρ P:=by
 refine dH (M:=λρ'=>∃d,R d∧ρ'=ρ.set n (some d)) (PS.imp (ps_set hN hi hx he hs hf) ?_) (λ_ ⟨d,x,z⟩=>z▸h d x)
 rintro D σ H ⟨r,q1,q2,q3,q4⟩
 refine⟨r.e,λd v H' x s h'=> ?_⟩
 exact q1 _ H' _ (Go.set s λa z=>((hz d x).no_own z).elim) ((r.mono s).set h' n (.inl (hz d x)) λa z=>((hz d x).no_own z).elim) ⟨d,x,rfl⟩
theorem wq(he:rD X e ρ R)(hz:∀d,R d→Fz d)(h:∀d,R d→P.rt d): Do X (.Return (some e) pos::rest) ρ P:=by
 refine PSs.imp (pss_cons (u:=tNever) (ps_ret he) pss_never) ?_
 rintro D σ H ⟨r,q1,q2,q3,q4⟩
 exact⟨r.e,λd v H' x s h'=>q2 v H' d (r.same.trans s) h' (λa z=>((hz d x).no_own z).elim) (h d x)⟩
end
def SpR(K:PySem.W.Frag)(Pre:List D→Prop)(Post:List D→D→Prop): Sp:=λvs H Q _=>∃ds,IsAll K H vs ds∧Pre ds∧∀d v H',Post ds d→Same H H'→Is K H' v d→Q v H'
def oB(P:Program)(w:World)(K:PySem.W.Frag)(mg:Str→Option Value)(base:Heap)(k:Nat)(x:Str)(Pre:List D→Prop)(Post:List D→D→Prop): Prop:=
 ∃f fd ps,FnOk P w K mg base CX0 k f fd ps (SpR K Pre Post)∧mg x=some (.ref f)∧PySem.W.keepIn K (.ref f)=true∧Binds K fd ps []
section
variable {X : Cx} {e : Expr} {es : List Expr} {ρ : Ro} {ds : List D} {pos : Pos} {Rs : List D → Prop}
theorem tw{k:Nat}{x:Str}{Pre:List D→Prop}{Post:List D→D→Prop}{p:Pos}(C:oB X.prog X.w X.K X.mg X.base k x Pre Post)(hr:Room k X.A)(ha:ql X (e::es) ρ Rs)(hp:∀ds,Rs ds→Pre ds)(hg:Gl X x:=by rfl)(hdb:(x==("__debug__": Str))=false:=by decide)
  (he:starEach (e::es) X.env=(false,eval e X.env)::starEach es X.env:=by rfl) (hpl:(backTo pos (starEach es X.env)).any (·.1)=false:=by rfl):rD X (.Call (.Name x p) (e::es) [] pos) ρ (λd=>∃ds,Rs ds∧Post ds d):=by
 obtain⟨f,fd,ps,F,hm,hk,hb⟩:=C
 refine PE.imp (pe_call F hr hg hm hk hb .nil pass0 ha hdb he hpl) ?_
 rintro σ H Q ⟨r,q⟩
 refine⟨r,λds vs H1 x1 s1 h1=>⟨ds,?_,hp ds x1,λd v H' x2 s' h'=>q d v H' ⟨ds,x1,x2⟩ (s1.trans s') h'⟩⟩
 rw[List.append_nil]
 exact h1
theorem cQ{k:Nat}{x:Str}{Pre:List D→Prop}{Post:List D→D→Prop}{p:Pos}(C:oB X.prog X.w X.K X.mg X.base k x Pre Post)(hr:Room k X.A)(ha:gx X (e::es) ρ ds)(hp:Pre ds)(hg:Gl X x:=by rfl)(hdb:(x==("__debug__": Str))=false:=by decide)
  (he:starEach (e::es) X.env=(false,eval e X.env)::starEach es X.env:=by rfl) (hpl:(backTo pos (starEach es X.env)).any (·.1)=false:=by rfl):rD X (.Call (.Name x p) (e::es) [] pos) ρ (Post ds):=
 (tw C hr ha.r (λ_ z=>z▸hp) hg hdb he hpl).imp λd ⟨_,z,h⟩=>z▸h
end
section
variable {P : Program} {w : World} {K : PySem.W.Frag} {mg : Str → Option Value} {base : Heap}
theorem jF{x qual:Str}{st:Stmt}{f:Addr}{fd:FuncData}{N ps:List Str}{k:Nat}{Pre:List D→Prop}{Post:List D→D→Prop}(F:Fun K x qual st f fd)(S:FnScope N ps (defScope st))(hm:mg x=some (.ref f))(hb:Binds K fd ps [])
  (hl:∀ds,Pre ds→ds.length=ps.length∧∀d∈ds,aR d=none)
  (hbody:∀(cdv:Value) (A:Around) (outer:List Env) (s:Shared) (H:Hp) (E:XK),Room k (A.deeper (envOfC qual (defScope st) s.heap.objs.size f cdv))→∀ds,Pre ds→
   Do (gF P w K mg base N qual st f cdv A outer s H E) (defBody st) (nV N ds) { nx:=λ_=>Post ds .non,rt:=Post ds }):oB P w K mg base (k+1) x Pre Post:=by
 refine⟨f,fd,ps,F.ok S (λvs H Q E h=> ?_) (λcdv A outer s H vs Q E hr h=> ?_),hm,F.kp,hb⟩
 ·obtain⟨ds,h1,h2,_⟩:=h
  rw[h1.length]
  exact(hl ds h2).1
 ·obtain⟨ds,h1,h2,q⟩:=h
  refine⟨_,hbody cdv A outer s H E hr ds h2,?_⟩
  exact⟨bb (X:=gF P w K mg base N qual st f cdv A outer s H E) h1 (hl ds h2).2,λσ' H' ρ' _ r' z=>q _ _ H' z r'.same .non,λv H' d' sm hv _ z=>q d' v H' z sm hv,λ_ _ _ _ _ z=>z.elim,λ_ _ _ _ _ z=>z.elim⟩
end
end FL
namespace FL
open PySem PySem.Spec PyProof.Rows L2
section
variable {X : Cx} {pins : List (Addr × Obj)} {σ : L2.St} {H : Hp} {s : Shared}
theorem Cm.cast{n:Nat}{d e f:D}(h:Cm n d f)(z:e=f): Cm n d e:=z▸h
open Classical in
noncomputable def oC(K:PySem.W.Frag)(H:Hp)(ds:List D)(x:D)(u:Value): Bool:=decide (∃v d,RelV v u∧Is K H v d∧d∈ds∧d=x)
open Classical in
theorem rF(I:L2.Inv X pins σ H s){n:Nat}{ds:List D}{x d:D}{v:V}{u:Value}(hc:∀d∈ds,Cm n d x)(hd:d∈ds)(h:Is X.K H v d)(r:RelV v u): oC X.K H ds x u=ju d x:=by
 rw[Bool.eq_iff_iff,bN]
 unfold oC
 rw[decide_eq_true_iff]
 constructor
 ·rintro⟨v',d',r',h',hd',e⟩
  cases r.inj r'
  have c:Cm n d d':=(hc d hd).cast e
  rw[Is.inj I c h h',e]
 ·intro e
  exact⟨v,d,r,h,hd,e⟩
theorem kN(I:L2.Inv X pins σ H s){n:Nat}{x:D}{ds0:List D}(hc:∀d∈ds0,Cm n d x): ∀ {vs:List V} {us:List Value} {ds:List D},(∀d∈ds,d∈ds0)→IsAll X.K H vs ds→Vals vs us→us.any (oC X.K H ds0 x)=ds.any (λd=>ju d x)
 | _,_,_,_,.nil,.nil=>rfl
 | _,_,_,hs,.cons h q,.cons r t=>by
  rw[List.any_cons,List.any_cons,rF I hc (hs _ List.mem_cons_self) h r,kN I hc (λd hd=>hs d (List.mem_cons_of_mem _ hd)) q t]
theorem iB(I:L2.Inv X pins σ H s){A:Around}{n:Nat}{x:D}{vx:V}{ux:Value}{ds0:List D}(hc:∀d∈ds0,Cm n d x)(hu:A.units+n<cLine)(hx:Is X.K H vx x)(rx:RelV vx ux):
  ∀ {vs:List V} {us:List Value} {ds:List D},(∀d∈ds,d∈ds0)→IsAll X.K H vs ds→Vals vs us→∀y∈us,SeqAt.EqAt A s y ux (oC X.K H ds0 x y)
 | _,_,_,_,.nil,.nil=>λy hy=>by cases hy
 | _,_,_,hs,.cons h q,.cons r t=>λy hy=>by
  rcases List.mem_cons.mp hy with rfl|hy
  ·rw[rF I hc (hs _ List.mem_cons_self) h r]
   exact iH I A (hc _ (hs _ List.mem_cons_self)) hu h hx r rx
  ·exact iB I hc hu hx rx (λd hd=>hs d (List.mem_cons_of_mem _ hd)) q t y hy
end
section
variable {X : Cx}
noncomputable def tK(x:D)(ds:List D): Bool:=ds.any λd=>ju d x
theorem kF{x:D}{ds:List D}: tK x ds=true↔x∈ds:=by
 unfold tK
 rw[List.any_eq_true]
 constructor
 ·rintro⟨d,h1,h2⟩
  rw[bN]at h2
  exact h2▸h1
 ·intro h
  exact⟨x,h,bN.mpr rfl⟩
def zu(X:Cx)(neg:Bool): R2:=λx y H Q=>∃n d e ds,Is X.K H x d∧Is X.K H y e∧(qW e=some ds∨e = .tup ds)∧(∀z∈ds,Cm n z d)∧X.A.units+n+1<cLine∧Q (.bl (if neg then !tK d ds else tK d ds)) H
theorem vo:OpR X (compareOp .In) (zu X false):=by
 intro pins s σ H x y v u Q I rx ry h
 obtain⟨n,d,e,ds,h1,h2,h3,hc,hu,q⟩:=h
 rcases h3 with h3|rfl
 ·obtain⟨a,xs,rfl,t,r⟩:=h2.lsD_inv h3
  cases ry
  obtain⟨us,w1,p1,_⟩:=I.list t
  refine SeqAt.in_listAt (oC X.K H ds d) p1.isList (λz hz=>iB I hc (by show X.A.units+1+n<cLine;omega) h1 rx (λ_ h=>h) r w1 z (by simpa using hz)) ?_
  have e':us.toArray.any (oC X.K H ds d)=tK d ds:=by rw[List.any_toArray];exact kN I hc (λ_ h=>h) r w1
  rw[e']
  exact⟨.bl _,H,I,rfl,q⟩
 ·obtain⟨a,xs,rfl,t,r⟩:=h2.tup_inv
  cases ry
  obtain⟨us,w1,p1,_⟩:=I.tuple t
  refine SeqAt.in_tupleAt (oC X.K H ds d) p1 (λz hz=>iB I hc (by show X.A.units+1+n<cLine;omega) h1 rx (λ_ h=>h) r w1 z (by simpa using hz)) ?_
  have e':us.toArray.any (oC X.K H ds d)=tK d ds:=by rw[List.any_toArray];exact kN I hc (λ_ h=>h) r w1
  rw[e']
  exact⟨.bl _,H,I,rfl,q⟩
variable {e a b c : Expr} {es : List Expr} {ρ : Ro} {d f : D} {ds fs : List D} {pos : Pos} {i j : Int} {k k' : Bool}
theorem sH{n m:Nat}{neg:Bool}{x:D}(hr:Room m X.A)(hf:qW f=some ds∨f = .tup ds)(hc:∀z∈ds,Cm n z x)(hn:n≤60)(hk:d = .bl (if neg then !tK x ds else tK x ds)):
  ∀v1 v2 H Q,Is X.K H v1 x→Is X.K H v2 f→(∀v H',Same H H'→Is X.K H' v d→Q v H')→zu X neg v1 v2 H Q:=
 λ_ _ H _ h1 h2 q=>⟨n,x,f,ds,h1,h2,hf,hc,(by have:=hr.units;omega),q _ H (Same.refl H) (hk▸.bl _)⟩
theorem rO{n m:Nat}(hr:Room m X.A)(ha:Ev X a ρ d)(hb:Ev X b ρ f)(hf:qW f=some ds∨f = .tup ds)(hc:∀z∈ds,Cm n z d)(hn:n≤60:=by decide)(hm:behindInMarks .In b=false:=by rfl): Ev X (.Compare a [.In] [b] pos) ρ (.bl (tK d ds)):=
 nN vo ha hb hm (sH hr hf hc hn rfl)
theorem xz{n m:Nat}(hr:Room m X.A)(ha:Ev X a ρ d)(hb:Ev X b ρ f)(hf:qW f=some ds∨f = .tup ds)(hc:∀z∈ds,Cm n z d)(hn:n≤60:=by decide)(hm:behindInMarks .In b=false:=by rfl): Et X (.Compare a [.In] [b] pos) ρ (tK d ds):=
 gG vo ha hb hm (sH hr hf hc hn rfl)
def yl(X:Cx)(neg:Bool): R2:=λx y H Q=>∃n d e ds es,Is X.K H x d∧Is X.K H y e∧qW d=some ds∧qW e=some es∧Cms n ds es∧X.A.units+n+1<cLine∧Q (.bl (if neg then !ju (.tup ds) (.tup es)else ju (.tup ds) (.tup es))) H
theorem ye:OpR X (compareOp .Eq) (yl X false):=by
 intro pins s σ H x y v u Q I rx ry h
 obtain⟨n,d,e,ds,es,h1,h2,l1,l2,c,hu,q⟩:=h
 obtain⟨a,xs,rfl,t1,q1⟩:=h1.lsD_inv l1
 obtain⟨b,ys,rfl,t2,q2⟩:=h2.lsD_inv l2
 cases rx
 cases ry
 obtain⟨us,w1,p1,_⟩:=I.list t1
 obtain⟨ws,w2,p2,_⟩:=I.list t2
 have e1:us.length=ds.length:=by rw[← w1.length,q1.length]
 have e2:ws.length=es.length:=by rw[← w2.length,q2.length]
 by_cases hz:ds.length=es.length
 ·refine SeqAt.eq_listAt p1.isList p2.isList (by simp;omega) (by omega) (dR q1 q2 w1 w2 λj d e v1 v2 u1 u2 d1 d2 i1 i2 k1 k2=>iH I X.A.in1 (c.get j _ _ d1 d2) (by show X.A.units+1+n<cLine;omega) i1 i2 k1 k2) ?_
  have ek:(List.range us.toArray.size).all (wD ds es)=ju (.tup ds) (.tup es):=by
   rw[hG (n:=us.length) (m:=ws.length) e1 e2,List.size_toArray,show min us.length ws.length=us.length by omega,show(us.length==ws.length)=true by simp;omega,Bool.and_true]
  rw[ek]
  exact⟨.bl _,H,I,rfl,q⟩
 ·refine SeqAt.eq_list_lengthsAt p1.isList p2.isList (by simp;omega) (by omega) ?_
  have ek:ju (.tup ds) (.tup es)=false:=eV (by
   constructor
   ·intro z;cases z
   ·intro z;cases z;exact absurd rfl hz)
  rw[ek]at q
  exact⟨.bl _,H,I,rfl,q⟩
theorem vp:OpR X (compareOp .NotEq) (yl X true):=by
 intro pins s σ H x y v u Q I rx ry h
 obtain⟨n,d,e,ds,es,h1,h2,l1,l2,c,hu,q⟩:=h
 obtain⟨a,xs,rfl,t1,q1⟩:=h1.lsD_inv l1
 obtain⟨b,ys,rfl,t2,q2⟩:=h2.lsD_inv l2
 cases rx
 cases ry
 obtain⟨us,w1,p1,_⟩:=I.list t1
 obtain⟨ws,w2,p2,_⟩:=I.list t2
 have e1:us.length=ds.length:=by rw[← w1.length,q1.length]
 have e2:ws.length=es.length:=by rw[← w2.length,q2.length]
 by_cases hz:ds.length=es.length
 ·refine SeqAt.RcNeAt.lists p1.isList p2.isList (by simp;omega) (by omega) (dR q1 q2 w1 w2 λj d e v1 v2 u1 u2 d1 d2 i1 i2 k1 k2=>iH I X.A.in1 (c.get j _ _ d1 d2) (by show X.A.units+1+n<cLine;omega) i1 i2 k1 k2) _ _ _ _ ?_
  have ek:(List.range us.toArray.size).all (wD ds es)=ju (.tup ds) (.tup es):=by
   rw[hG (n:=us.length) (m:=ws.length) e1 e2,List.size_toArray,show min us.length ws.length=us.length by omega,show(us.length==ws.length)=true by simp;omega,Bool.and_true]
  rw[ek]
  exact⟨.bl _,H,I,rfl,q⟩
 ·refine SeqAt.RcNeAt.lists_lengths p1.isList p2.isList (by simp;omega) (by omega) _ _ _ _ ?_
  have ek:ju (.tup ds) (.tup es)=false:=eV (by
   constructor
   ·intro z;cases z
   ·intro z;cases z;exact absurd rfl hz)
  rw[ek]at q
  exact⟨.bl _,H,I,rfl,q⟩
theorem n6{n m:Nat}{neg:Bool}{g:D}(hr:Room m X.A)(l1:qW f=some ds)(l2:qW g=some fs)(c:Cms n ds fs)(hn:n≤60)(hk:d = .bl (if neg then !ju (.tup ds) (.tup fs)else ju (.tup ds) (.tup fs))):
  ∀v1 v2 H Q,Is X.K H v1 f→Is X.K H v2 g→(∀v H',Same H H'→Is X.K H' v d→Q v H')→yl X neg v1 v2 H Q:=
 λ_ _ H _ h1 h2 q=>⟨n,f,g,ds,fs,h1,h2,l1,l2,c,(by have:=hr.units;omega),q _ H (Same.refl H) (hk▸.bl _)⟩
theorem uJ{n m:Nat}{g:D}(hr:Room m X.A)(ha:Ev X a ρ f)(hb:Ev X b ρ g)(l1:qW f=some ds)(l2:qW g=some fs)(c:Cms n ds fs)(hn:n≤60:=by decide): Et X (.Compare a [.NotEq] [b] pos) ρ (!ju (.tup ds) (.tup fs)):=
 gG vp ha hb (nomark _) (n6 hr l1 l2 c hn rfl)
end
end FL
namespace FT
open PySem PySem.W PyProof.Rows
section
variable {r : Nat → Int} {n : Nat} {p p' : Array Nat}
def kM{α:Type}(r:Nat→Int)(n:Nat): KasT α→(α→Prop)→Prop
 | .ret a,Q=>Q a
 | .ask i j k,Q=>i<n∧j<n∧kM r n (k (decide (r i<r j))) Q
theorem kM.bnd{α β:Type}{f:α→KasT β}{Q:β→Prop}: ∀(t:KasT α),kM r n t (λa=>kM r n (f a) Q)→kM r n (t.bind f) Q
 | .ret _,h=>h
 | .ask _ _ k,h=>⟨h.1,h.2.1,kM.bnd (k _) h.2.2⟩
def kv(r:Nat→Int)(p:Array Nat)(i:Nat): Int:=r (p.getD i 0)
def Up(r:Nat→Int)(p:Array Nat)(k:Nat): Prop:=∀i j,i≤j→j<k→kv r p i≤kv r p j
def Dn(r:Nat→Int)(p:Array Nat)(k:Nat): Prop:=∀i j,i≤j→j<k→kv r p j≤kv r p i
def Pm(n:Nat)(p:Array Nat): Prop:=p.Perm (List.range n).toArray
theorem Pm.size(h:Pm n p): p.size=n:=by have:=Array.Perm.size_eq h;simpa using this
theorem Pm.lt(h:Pm n p)(hn:0<n)(i:Nat): p.getD i 0<n:=by
 by_cases hi:i<p.size
 ·have:p.getD i 0=p[i]:=by simp[Array.getD,hi]
  rw[this]
  have m:p[i]∈(List.range n):=by
   have:=(Array.perm_iff_toList_perm.mp h).mem_iff (a:=p[i])
   simp only[Array.mem_toList_iff,List.toList_toArray]at this
   exact this.mp (by simp)
  exact List.mem_range.mp m
 ·have:p.getD i 0=0:=by simp[Array.getD,hi]
  omega
theorem pi{q:Array Nat}{i j:Nat}(h:q[i]?=p[j]?): kv r q i=kv r p j:=by
 unfold kv
 congr 1
 rw[Array.getD_eq_getD_getElem?,Array.getD_eq_getD_getElem?,h]
theorem qP{i j:Nat}(hj:j≤p.size)(k:Nat): kv r (kas_rev p i j) k=if i≤k∧k<j then kv r p (i+j-1-k)else kv r p k:=by
 have e:=getElem?_mirror_all (i:=i) hj k
 unfold kas_rev
 by_cases c:i≤k∧k<j
 ·rw[if_pos c]at e ⊢;exact pi e
 ·rw[if_neg c]at e ⊢;exact pi e
theorem fI{i j:Nat}(hj:j≤p.size)(hc:∀k,i≤k→k<j→kv r p k=kv r p (j-1))(k:Nat): kv r (kas_rev p i j) k=kv r p k:=by
 rw[qP hj]
 split
 ·next c=>rw[hc k c.1 c.2];exact hc _ (by omega) (by omega)
 ·rfl
theorem Pm.rev(h:Pm n p)(i j:Nat): Pm n (kas_rev p i j):=(mirror_perm p i j ((j-i)/2)).trans h
theorem rT{src d:Nat}(hs:src<p.size)(hd:d≤src)(k:Nat): kv r (bubble p src d) k=if k=src-d then kv r p src else if src-d<k∧k≤src then kv r p (k-1)else kv r p k:=by
 have e:=getElem?_bubble hs d hd k
 by_cases c:k=src-d
 ·rw[if_pos c]at e ⊢;exact pi e
 ·rw[if_neg c]at e ⊢
  by_cases c':src-d<k∧k≤src
  ·rw[if_pos c']at e ⊢;exact pi e
  ·rw[if_neg c']at e ⊢;exact pi e
theorem Up.more{m:Nat}(h:Up r p m)(hl:1≤m)(c:kv r p (m-1)≤kv r p m): Up r p (m+1):=λi j hij hj=>by
 by_cases q:j<m
 ·exact h i j hij q
 ·have:j=m:=by omega
  subst this
  by_cases q2:i=j
  ·rw[q2];exact Int.le_refl _
  ·exact Int.le_trans (h i (j-1) (by omega) (by omega)) c
theorem Dn.more{m:Nat}(h:Dn r p m)(hl:1≤m)(c:kv r p m≤kv r p (m-1)): Dn r p (m+1):=λi j hij hj=>by
 by_cases q:j<m
 ·exact h i j hij q
 ·have:j=m:=by omega
  subst this
  by_cases q2:i=j
  ·rw[q2];exact Int.le_refl _
  ·exact Int.le_trans c (h i (j-1) (by omega) (by omega))
theorem yv:Up r p 1:=λi j h1 h2=>by
 have:i=j:=by omega
 rw[this];exact Int.le_refl _
theorem xN:Dn r p 1:=λi j h1 h2=>by
 have:i=j:=by omega
 rw[this];exact Int.le_refl _
theorem Dn.cong{q:Array Nat}{m:Nat}(h:Dn r p m)(e:∀k,kv r q k=kv r p k): Dn r q m:=λi j h1 h2=>by rw[e,e];exact h i j h1 h2
theorem v7(P:Pm n p)(hn:0<n){Q:Nat→Prop}: ∀(f m:Nat),m+f=n→1≤m→Up r p m→(∀m',m≤m'→m'≤n→Up r p m'→(m'=n∨kv r p m'<kv r p (m'-1))→Q m')→kM r n (kas_asc p f m) Q
 | 0,m,hm,_,h,k=>k m (Nat.le_refl _) (by omega) h (.inl (by omega))
 | f+1,m,hm,h1,h,k=>by
  refine⟨P.lt hn _,P.lt hn _,?_⟩
  by_cases c:kv r p m<kv r p (m-1)
  ·have c':r (p.getD m 0)<r (p.getD (m-1) 0):=c
   rw[decide_eq_true c']
   dsimp only
   rw[if_pos rfl]
   exact k m (Nat.le_refl _) (by omega) h (.inr c)
  ·have c':¬r (p.getD m 0)<r (p.getD (m-1) 0):=c
   rw[decide_eq_false c']
   dsimp only
   rw[if_neg Bool.false_ne_true]
   exact v7 P hn f (m+1) (by omega) (by omega) (h.more h1 (by omega)) λm' a b=>k m' (by omega) b
theorem ou(hn:0<n){Q:Array Nat×Nat×Nat→Prop}: ∀(f:Nat) (p:Array Nat) (m q:Nat),m+f=n→1≤m→Pm n p→Dn r p m→q+1≤m→(∀i,m-(q+1)≤i→i<m→kv r p i=kv r p (m-1))→
  (∀p' m' q',Pm n p'→m≤m'→m'≤n→Dn r p' m'→q'+1≤m'→(∀i,m'-(q'+1)≤i→i<m'→kv r p' i=kv r p' (m'-1))→Q (p',m',q'))→kM r n (kas_desc f p m q) Q
 | 0,p,m,q,hm,_,P,h,hq,he,k=>k p m q P (Nat.le_refl _) (by omega) h hq he
 | f+1,p,m,q,hm,h1,P,h,hq,he,k=>by
  have sz:=P.size
  refine⟨P.lt hn _,P.lt hn _,?_⟩
  by_cases c:kv r p m<kv r p (m-1)
  ·have c':r (p.getD m 0)<r (p.getD (m-1) 0):=c
   rw[decide_eq_true c']
   dsimp only
   rw[if_pos rfl]
   have big:Dn r p (m+1):=h.more h1 (by omega)
   by_cases g:q>0
   ·rw[if_pos g]
    exact ou hn f _ (m+1) 0 (by omega) (by omega) (P.rev _ _) (big.cong λk=>fI (by omega) he k) (by omega) (λi a b=>by congr 1;omega) λp' m' q' x y=>k p' m' q' x (by omega)
   ·rw[if_neg g]
    exact ou hn f _ (m+1) 0 (by omega) (by omega) P big (by omega) (λi a b=>by congr 1;omega) λp' m' q' x y=>k p' m' q' x (by omega)
  ·have c':¬r (p.getD m 0)<r (p.getD (m-1) 0):=c
   rw[decide_eq_false c']
   dsimp only
   rw[if_neg Bool.false_ne_true]
   refine⟨P.lt hn _,P.lt hn _,?_⟩
   by_cases d:kv r p (m-1)<kv r p m
   ·have d':r (p.getD (m-1) 0)<r (p.getD m 0):=d
    rw[decide_eq_true d']
    dsimp only
    rw[if_pos rfl]
    exact k p m q P (Nat.le_refl _) (by omega) h hq he
   ·have d':¬r (p.getD (m-1) 0)<r (p.getD m 0):=d
    rw[decide_eq_false d']
    dsimp only
    rw[if_neg Bool.false_ne_true]
    have ee:kv r p m=kv r p (m-1):=by omega
    refine ou hn f _ (m+1) (q+1) (by omega) (by omega) P (h.more h1 (by omega)) (by omega) (λi a b=> ?_) λp' m' q' x y=>k p' m' q' x (by omega)
    show kv r p i=kv r p m
    by_cases z:i=m
    ·rw[z]
    ·rw[ee];exact he i (by omega) (by omega)
theorem v8(hn:0<n){m:Nat}{Q:Nat×Array Nat→Prop}(P:Pm n p)(h1:1≤m)(h2:m≤n)(h:Dn r p m)(k:∀m' p',Pm n p'→1≤m'→m'≤n→Up r p' m'→Q (m',p')): kM r n (kas_tail3 m n p) Q:=by
 have sz:=P.size
 unfold kas_tail3
 refine kM.bnd _ (v7 (P.rev 0 m) hn (n-m) m (by omega) h1 (λi j a b=> ?_) λm' a b c _=>k m' _ (P.rev 0 m) (by omega) b c)
 rw[qP (by omega),qP (by omega),if_pos (by omega),if_pos (by omega)]
 exact h _ _ (by omega) (by omega)
theorem lZ(hn:0<n){m:Nat}{Q:Nat×Array Nat→Prop}(P:Pm n p)(h2:m+1≤n)(h:Dn r p (m+1))(k:∀m' p',Pm n p'→1≤m'→m'≤n→Up r p' m'→Q (m',p')): kM r n (kas_descPart m n p) Q:=by
 unfold kas_descPart
 refine kM.bnd _ (ou hn (n-(m+1)) p (m+1) 0 (by omega) (by omega) P h (by omega) (λi a b=>by congr 1;omega) λp' m' q' P' a b c d e=> ?_)
 have sz:=P'.size
 dsimp only
 by_cases g:q'>0
 ·rw[if_pos g]
  exact v8 hn (P'.rev _ _) (by omega) b (c.cong λk=>fI (by omega) e k) k
 ·rw[if_neg g]
  exact v8 hn P' (by omega) b c k
theorem xk(hn:0<n){Q:Nat×Array Nat→Prop}(P:Pm n p)(k:∀m' p',Pm n p'→1≤m'→m'≤n→Up r p' m'→Q (m',p')): kM r n (kas_count n p) Q:=by
 have sz:=P.size
 unfold kas_count
 refine kM.bnd _ (v7 P hn (n-1) 1 (by omega) (Nat.le_refl _) yv λm a b c d=> ?_)
 by_cases g:m=n
 ·rw[if_pos (by simpa using g)]
  exact k m p P a b c
 ·rw[if_neg (by simpa using g)]
  have dl:kv r p m<kv r p (m-1):=d.resolve_left g
  by_cases g1:m>1
  ·rw[if_pos g1]
   refine⟨P.lt hn _,P.lt hn _,?_⟩
   by_cases q:kv r p 0<kv r p (m-1)
   ·have q':r (p.getD 0 0)<r (p.getD (m-1) 0):=q
    rw[decide_eq_true q']
    dsimp only
    rw[if_pos rfl]
    exact k m p P a b c
   ·have q':¬r (p.getD 0 0)<r (p.getD (m-1) 0):=q
    rw[decide_eq_false q']
    dsimp only
    rw[if_neg Bool.false_ne_true]
    have flat:∀i,0≤i→i<m→kv r p i=kv r p (m-1):=λi _ hi=>by
     have a1:=c 0 i (by omega) hi
     have a2:=c i (m-1) (by omega) (by omega)
     omega
    have dn:Dn r p m:=λi j x y=>by rw[flat i (by omega) (by omega),flat j (by omega) y];exact Int.le_refl _
    exact lZ hn (P.rev _ _) (by omega) ((dn.more (by omega) (by omega)).cong λk=>fI (by omega) flat k) k
  ·rw[if_neg g1]
   have:m=1:=by omega
   subst this
   exact lZ hn P (by omega) (xN.more (by omega) (by omega)) k
theorem ov(P:Pm n p)(hn:0<n){k:Nat}(hk:k<n)(hs:Up r p k){Q:Nat→Prop}(fin:∀l,l≤k→(∀i,i<l→kv r p i≤kv r p k)→(∀i,l≤i→i<k→kv r p k<kv r p i)→Q l):
  ∀(f l u:Nat),u-l≤f→l≤u→u≤k→(∀i,i<l→kv r p i≤kv r p k)→(∀i,u≤i→i<k→kv r p k<kv r p i)→kM r n (kas_place p k f l u) Q
 | 0,l,u,hf,hl,hu,lo,hi=>fin l (by omega) lo λi a b=>hi i (by omega) b
 | f+1,l,u,hf,hl,hu,lo,hi=>by
  unfold kas_place
  by_cases g:l≥u
  ·rw[if_pos g]
   exact fin l (by omega) lo λi a b=>hi i (by omega) b
  ·rw[if_neg g]
   refine⟨P.lt hn _,P.lt hn _,?_⟩
   by_cases c:kv r p k<kv r p ((l+u)/2)
   ·have c':r (p.getD k 0)<r (p.getD ((l+u)/2) 0):=c
    rw[decide_eq_true c']
    dsimp only
    rw[if_pos rfl]
    refine ov P hn hk hs fin f _ _ (by omega) (by omega) (by omega) lo λi a b=> ?_
    exact Int.lt_of_lt_of_le c (hs _ _ a b)
   ·have c':¬r (p.getD k 0)<r (p.getD ((l+u)/2) 0):=c
    rw[decide_eq_false c']
    dsimp only
    rw[if_neg Bool.false_ne_true]
    refine ov P hn hk hs fin f _ _ (by omega) (by omega) (by omega) (λi a=> ?_) hi
    have:=hs i ((l+u)/2) (by omega) (by omega)
    omega
theorem xG(hn:0<n){Q:Array Nat→Prop}(fin:∀p',Pm n p'→Up r p' n→Q p'): ∀(f:Nat) (p:Array Nat) (k:Nat),k+f=n→1≤k→Pm n p→Up r p k→kM r n (kas_bin f p k) Q
 | 0,p,k,hk,_,P,h=>fin p P ((show k=n by omega)▸h)
 | f+1,p,k,hk,h1,P,h=>by
  unfold kas_bin
  have sz:=P.size
  refine kM.bnd _ (ov P hn (by omega) h (λl hl lo hi=> ?_) k 0 k (by omega) (by omega) (Nat.le_refl _) (λi a=>by omega) λi a b=>by omega)
  refine xG hn fin f _ (k+1) (by omega) (by omega) ((bubble_perm p k (k-l)).trans P) λi j a b=> ?_
  have e:k-(k-l)=l:=by omega
  rw[rT (by omega) (by omega),rT (by omega) (by omega),e]
  repeat' split
  all_goals first|exact Int.le_refl _|(exfalso;omega)|exact lo i (by omega)|exact Int.le_of_lt (hi (j-1) (by omega) (by omega))|exact h _ _ (by omega) (by omega)
theorem yA(hn:0<n){Q:Array Nat→Prop}(fin:∀p',Pm n p'→Up r p' n→Q p'): kM r n (kas_sort n) Q:=by
 unfold kas_sort
 refine kM.bnd _ (xk hn (Array.Perm.refl _) λm p' P h1 h2 h=> ?_)
 dsimp only
 have e:max m 1=m:=by omega
 by_cases g:m<n
 ·rw[if_pos g,e]
  exact xG hn fin _ _ _ (by omega) h1 P h
 ·rw[if_neg g]
  exact fin p' P ((show m=n by omega)▸h)
theorem kM.wp{α:Type}{cmp:Nat→Nat→(Bool→Shared→Prop)→Shared→Prop}{s:Shared}(hc:∀i j C,i<n→j<n→C (decide (r i<r j)) s→cmp i j C s){Q:α→Shared→Prop}: ∀(t:KasT α),kM r n t (λa=>Q a s)→t.kasWp cmp Q s
 | .ret _,h=>h
 | .ask i j k,h=>hc i j _ h.1 h.2.1 (kM.wp hc (k _) h.2.2)
end
end FT
namespace FT
open PySem PySem.W PySem.Calls PyProof.Rows
def Kp(h h':Heap): Prop:=∀b o,h.get? b=some o→h'.get? b=some o
theorem Kp.trans{h h1 h2:Heap}(a:Kp h h1)(b:Kp h1 h2): Kp h h2:=λc o e=>b c o (a c o e)
theorem Kp.push(h:Heap)(o:Obj): Kp h (h.push o):=λ_ _ e=>Heap.get?_push_of_some o e
theorem Kp.but{h h1 h2:Heap}{d:Addr}(a:Kp h h1)(hd:h.objs.size≤d)(b:Heap.SameBut d h1 h2): Kp h h2:=λc o e=>
 (b.2 c (Nat.ne_of_lt (Nat.lt_of_lt_of_le (Heap.lt_size e) hd))).trans (a c o e)
section
variable {prog : Program} {w : World} {A : Around} {E : Value → Shared → Prop} {s : Shared} {vs : List Value} {r : Nat → Int} {κ : SortKind}
abbrev kq(vs:List Value)(p:Array Nat): List Value:=p.toList.map λi=>vs.getD i Value.none
theorem tQ{a n:Nat}{P:PySem.Fin→Shared→Prop}{h0:Heap}(K0:Kp h0 s.heap)(ha:h0.objs.size≤a)(ho:s.heap.get? a=some (seqObj "list" vs.toArray n))(h2:2≤vs.length)(h64:vs.length<64)
  (hk:∀h' C,Kp h0 h'→C κ { s with heap:=h' }→wpAny (model prog w) A (keyKind' vs.toArray) C (λ_ _=>False) { s with heap:=h' })
  (hc:∀h' i j C,Kp h0 h'→i<vs.length→j<vs.length→C (decide (r i<r j)) { s with heap:=h' }→kas_ask prog w A κ vs i j C { s with heap:=h' })
  (h:∀p h' c,Pm vs.length p→Up r p vs.length→Kp h0 h'→h'.get? a=some (seqObj "list" (kq vs p).toArray c)→P (.done (.ret .none)) { s with heap:=h' }) :
  wpAny (model prog w) A (Builtin.«list.sort» ⟨[.ref a],[]⟩) P E s:=by
 have small:vs.length≤sizeLine:=by rw[sizeLine_eq];omega
 have sb1:=Heap.SameBut.update s.heap a (Obj.mapSeq λ_=>(#[]:Array Value))
 have g1:=get?_update_seq ho λ_=>(#[]:Array Value)
 generalize eh1:s.heap.update a (Obj.mapSeq λ_=>(#[]:Array Value))=h1 at sb1 g1
 have K1:Kp h0 h1:=K0.but ha sb1
 rw[list_sort_plain]
 refine wpAny_bind (listItems_at ho rfl (wpAny_bind (listUpdate_at ho rfl ?_ (by rw[List.size_toArray];exact small) (Nat.zero_le _))))
 rw[eh1]
 refine wpAny_bind (seqEpoch_at g1 rfl (wpAny_bind (wpAny_newTuple (wpAny_bind (wpAny_newList (wpAny_holding ?_) (Nat.zero_le _))) small)))
 show wpAny (model prog w) A _ P E { s with heap:=(h1.push (seqObj "tuple" vs.toArray 0)).push (seqObj "list" #[] 0) }
 have g3:=Heap.get?_push_of_some (seqObj "list" #[] 0) (Heap.get?_push_of_some (seqObj "tuple" vs.toArray 0) g1)
 have K3:Kp h0 ((h1.push (seqObj "tuple" vs.toArray 0)).push (seqObj "list" #[] 0)):=K1.trans ((Kp.push _ _).trans (Kp.push _ _))
 generalize (h1.push (seqObj "tuple" vs.toArray 0)).push (seqObj "list" #[] 0)=h3 at g3 K3 ⊢
 dsimp only
 have two:¬vs.toArray.size<2:=by rw[List.size_toArray];omega
 rw[if_neg two,if_neg two]
 refine wpAny_bind (wpAny_mono (hk h3 (λκ' s'=>κ'=κ∧s'={ s with heap:=h3 }) K3 ⟨rfl,rfl⟩) (λκ' s' q=> ?_) λ_ _ z=>z.elim)
 obtain⟨rfl,rfl⟩:=q
 have tree:(kas_sort vs.length).kasWp (kas_ask prog w A κ' vs) (λp s'=>(Pm vs.length p∧Up r p vs.length)∧s'={ s with heap:=h3 }) { s with heap:=h3 }:=
  kM.wp (r:=r) (n:=vs.length) (λi j C a b c=>hc h3 i j C K3 a b c) _ (yA (by omega) λp a b=>⟨⟨a,b⟩,rfl⟩)
 refine wpAny_bind (wpAny_mono (kat_run (ks:=vs) (vs:=vs) (Q:=λst' s'=>∃p,arrOf st'=p.map (kas_item (vs.toArray.zip vs.toArray))∧failedOf st'=none∧(Pm vs.length p∧Up r p vs.length)∧s'={ s with heap:=h3 })
  rfl h2 h64 (λp st' s' _ x y z=>⟨p,x,y,z⟩) tree) ?_ λ_ _ e=>e)
 rintro⟨⟨⟩,st'⟩ s' ⟨p,har,hf,⟨hp,hu⟩,rfl⟩
 dsimp only
 rw[kat_snds rfl har]
 have len:(kq vs p).length=vs.length:=by rw[List.length_map,Array.length_toList,hp.size]
 have sb2:=Heap.SameBut.update h3 a (Obj.mapSeq λ_=>(kq vs p).toArray)
 have g4:=get?_update_seq g3 λ_=>(kq vs p).toArray
 refine wpAny_bind (seqEpoch_at g3 rfl (wpAny_bind (listUpdate_at g3 rfl ?_ (Nat.zero_le _) (by rw[List.size_toArray,len];first|exact small|exact Nat.le_succ_of_le small))))
 rw[hf]
 simp only[bne_self_eq_false,Bool.false_eq_true,if_false]
 exact wpAny_pure (h p _ _ hp hu (K3.but ha sb2) g4)
theorem pI(vs:List Value): kq vs (List.range vs.length).toArray=vs:=by
 refine List.ext_getElem (by simp) λi a b=> ?_
 simp[b]
theorem w6(vs:List Value): (vs.toArray.zip vs.toArray).map (·.2)=vs.toArray:=by
 refine Array.ext (by simp) λi a b=> ?_
 simp
theorem tO{a n:Nat}{P:PySem.Fin→Shared→Prop}{h0:Heap}(K0:Kp h0 s.heap)(ha:h0.objs.size≤a)(ho:s.heap.get? a=some (seqObj "list" vs.toArray n))(h2:vs.length<2)
  (h:∀p h' c,Pm vs.length p→Up r p vs.length→Kp h0 h'→h'.get? a=some (seqObj "list" (kq vs p).toArray c)→P (.done (.ret .none)) { s with heap:=h' }) :
  wpAny (model prog w) A (Builtin.«list.sort» ⟨[.ref a],[]⟩) P E s:=by
 have small:vs.length≤sizeLine:=by rw[sizeLine_eq];omega
 have sb1:=Heap.SameBut.update s.heap a (Obj.mapSeq λ_=>(#[]:Array Value))
 have g1:=get?_update_seq ho λ_=>(#[]:Array Value)
 generalize eh1:s.heap.update a (Obj.mapSeq λ_=>(#[]:Array Value))=h1 at sb1 g1
 have K1:Kp h0 h1:=K0.but ha sb1
 rw[list_sort_plain]
 refine wpAny_bind (listItems_at ho rfl (wpAny_bind (listUpdate_at ho rfl ?_ (by rw[List.size_toArray];exact small) (Nat.zero_le _))))
 rw[eh1]
 refine wpAny_bind (seqEpoch_at g1 rfl (wpAny_bind (wpAny_newTuple (wpAny_bind (wpAny_newList (wpAny_holding ?_) (Nat.zero_le _))) small)))
 show wpAny (model prog w) A _ P E { s with heap:=(h1.push (seqObj "tuple" vs.toArray 0)).push (seqObj "list" #[] 0) }
 have g3:=Heap.get?_push_of_some (seqObj "list" #[] 0) (Heap.get?_push_of_some (seqObj "tuple" vs.toArray 0) g1)
 have K3:Kp h0 ((h1.push (seqObj "tuple" vs.toArray 0)).push (seqObj "list" #[] 0)):=K1.trans ((Kp.push _ _).trans (Kp.push _ _))
 generalize (h1.push (seqObj "tuple" vs.toArray 0)).push (seqObj "list" #[] 0)=h3 at g3 K3 ⊢
 dsimp only
 have two:vs.toArray.size<2:=by rw[List.size_toArray];omega
 rw[if_pos two,if_pos two]
 refine wpAny_bind (wpAny_pure (wpAny_bind (show wpAny _ _ (pure _) _ _ _ from wpAny_pure ?_)))
 dsimp only
 have e0:(arrOf (SortSt.mk' general' (vs.toArray.zip vs.toArray) #[] 7 none)).map (·.2)=(kq vs (List.range vs.length).toArray).toArray:=by
  rw[pI]
  exact w6 vs
 have sb2:=Heap.SameBut.update h3 a (Obj.mapSeq λ_=>(kq vs (List.range vs.length).toArray).toArray)
 have g4:=get?_update_seq g3 λ_=>(kq vs (List.range vs.length).toArray).toArray
 rw[e0]
 refine wpAny_bind (seqEpoch_at g3 rfl (wpAny_bind (listUpdate_at g3 rfl ?_ (Nat.zero_le _) (by rw[pI,List.size_toArray];first|exact small|exact Nat.le_succ_of_le small))))
 simp only[bne_self_eq_false,Bool.false_eq_true,if_false]
 refine wpAny_pure (h _ _ _ (Array.Perm.refl _) (λi j x y=> ?_) (K3.but ha sb2) g4)
 have:i=j:=by omega
 rw[this]
 exact Int.le_refl _
end
end FT
namespace FT
open PySem PySem.W PySem.Spec PySem.Calls PyProof.Rows L2 FL
section
variable {prog : Program} {w : World} {A : Around} {s : Shared}
end
end FT
namespace FT
open PySem PySem.W PySem.Spec PySem.Calls PyProof.Rows L2 FL
theorem rR{K:PySem.W.Frag}{H:Hp}: ∀ {ys:List V} {ns:List Int},IsAll K H ys (ns.map D.int)→ys=ns.map V.int
 | _,[],h=>by cases h;rfl
 | _,n::ns,h=>by
  cases h with
  | cons h1 h2=>rw[h1.int_inv,rR h2];rfl
section
variable {X : Cx} {pins : List (Addr × Obj)} {σ : L2.St} {H : Hp} {s : Shared}
variable {e : Expr} {ρ : Ro} {d : D} {pos p : Pos} {ts : List (List Int)} {k : Nat}
end
end FT
namespace FU
open PySem PyProof.Rows HT
section
open PySem.SeqAt
open PySem.AutoSeq1 (wpAny_loadPart')
open PySem.MeetsSeq PySem.MeetsSeq2 PySem.MeetsSeq3
end
section
variable {prog : Program} {w : World} {A : Around} {E : Value → Shared → Prop} {s : Shared}
end
end FU
namespace FU
open PySem PySem.Spec PyProof.Rows L2 FL
section
variable {X : Cx} {a b : Expr} {ρ : Ro} {pos : Pos} {ns ms : List Int} {m : Nat}
end
end FU
namespace FL
open PySem PySem.Spec PyProof.Rows L2
def j9(K:PySem.W.Frag)(mg:Str→Option Value)(x:Str)(d:D): Prop:=∃v u,mg x=some u∧RelV v u∧∀H,Is K H v d
theorem iV{K:PySem.W.Frag}{mg:Str→Option Value}{x:Str}{i:Int}{t:Tok}(h:mg x=some (.int i t)): j9 K mg x (.int i):=⟨.int i,_,h,⟨t,rfl⟩,λ_=>.int i⟩
inductive IntsOf:List Value→List Int→Prop
 | nil:IntsOf [] []
 | cons {i:Int} {t:Tok} {us:List Value} {ns:List Int} (h:IntsOf us ns):IntsOf (.int i t::us) (i::ns)
theorem IntsOf.vals:∀ {us:List Value} {ns:List Int},IntsOf us ns→Vals (ns.map V.int) us
 | _,_,.nil=>.nil
 | _,_,.cons h=>.cons ⟨_,rfl⟩ h.vals
theorem wl{K:PySem.W.Frag}{mg:Str→Option Value}{x:Str}{a:Addr}{od:Option Addr}{its:Array Value}{n:Nat}{sl:Array (Option Value)}{ns:List Int}(h:mg x=some (.ref a))(hl:K.lookup a=some ⟨.type "tuple",od,.seq its n,sl⟩)(hi:IntsOf its.toList ns)(hn:its.size≤1000:=by decide): j9 K mg x (.kt (ns.map D.int)):=
 ⟨.ref a,_,h,rfl,λ_=>.kt (.inr ⟨_,its,n,hl,rfl,rfl,Nat.le_of_lt (small1000 hn),hi.vals⟩) (IsAll.ints ns)⟩
section
variable {X : Cx} {e a b c f : Expr} {es : List Expr} {ρ : Ro} {d : D} {ds gs : List D} {pos : Pos} {i j k l : Int} {rest : List Stmt} {P : Po}
theorem bn{x:Str}(C:j9 X.K X.mg x d)(hg:Gl X x:=by rfl)(hd:(x==("__debug__": Str))=false:=by decide): Ev X (.Name x pos) ρ d:=by
 obtain⟨v,u,hm,r,h⟩:=C
 exact PE.imp (pe_glob hg hm r hd) λ_ H _ ⟨_,q⟩=>q _ H (Same.refl H) (h H)
theorem wy(h:Ev X e ρ (.tup ds)): Ev X e ρ (.kt ds):=PE.imp h λσ H Q ⟨r,q⟩=>⟨r,λv H' s h1=>by
 obtain⟨a,xs,rfl,h3,h4⟩:=h1.tup_inv
 exact q _ H' s (.kt h3 h4)⟩
theorem nO(ha:Ev X a ρ (.kt ds))(hb:Ev X b ρ (.int i))(hi:atI ds i=some d)(hs:PlainIx b:=by exact λ_ _=>rfl): Ev X (.Subscript a b pos) ρ d:=
 PE.imp (pe_ix ix_tup ha hb hs) λσ H Q ⟨r,q⟩=>⟨r,λv1 H1 s1 h1=>⟨r.mono s1,λv2 H2 s2 h2=>by
  obtain⟨p,xs,rfl,h3,h4⟩:=(h1.mono s2).kt_inv
  obtain⟨v,e,h5⟩:=kA h4 hi
  exact⟨p,xs,i,v,rfl,h2.int_inv,h3,e,q v H2 (s1.trans s2) h5⟩⟩⟩
theorem kT{op op':CmpOp}{g g':Int→Int→Bool}(ho:OpR X (compareOp op) (rI0 λi j=>.bl (g i j)))(ho':OpR X (compareOp op') (rI0 λi j=>.bl (g' i j)))
  (ha:Ev X a ρ (.int i)) (hb:Ev X b ρ (.int j)) (hc:Ev X c ρ (.int k)) (hm:lastMarks [op,op'] [b,c]=false:=by with_unfolding_all rfl):Et X (.Compare a [op,op'] [b,c] pos) ρ (g i j&&g' j k):=by
 refine PT.imp (pt_chain ho ho' ha hb hc hm) ?_
 rintro σ H Q ⟨r,q⟩
 refine⟨r,λv1 H1 s1 h1=>⟨r.mono s1,λv2 H2 s2 h2=>⟨i,j,h1.int_inv,h2.int_inv,g i j,rfl,?_⟩⟩⟩
 cases hg:g i j with
 | false=>rw[hg]at q;exact iteF ⟨false,rfl,q H2 (s1.trans s2)⟩
 | true=>
  rw[hg]at q
  exact iteT ⟨r.mono (s1.trans s2),λv3 H3 s3 h3=>⟨j,k,h2.int_inv,h3.int_inv,g' j k,rfl,q H3 ((s1.trans s2).trans s3)⟩⟩
theorem tm(n:Nat){x:Str}{l:Addr}{p1 p2 p3:Pos}(hρ:ρ[n]?=some (some (.lst l ds)))(he:iS X e ρ gs)(hz:∀d∈gs,Fz d)(hl:ds.length+gs.length<1000000)(hothers:∀(j:Nat) (es:List D),j≠n→ρ[j]?≠some (some (.lst l es)))
  (h:Do X rest (ρ.set n (some (.lst l (ds++gs)))) P) (hN:X.N[n]?=some x:=by rfl) (hv:Vis X.env.scope x:=by first|exact Or.inl rfl|exact Or.inr (Or.inl rfl)|exact Or.inr (Or.inr rfl))
  (hd:(x==("__debug__": Str))=false:=by decide) (hcd:(x==("__classdict__": Str))=false:=by decide)
  (hbase:attributeBase (.Name x p1) "extend" X.env (eval (.Name x p1) X.env)=eval (.Name x p1) X.env:=by rfl)
  (hfew:((backTo p3 (starEach [e] X.env)).all (λx=> !x.1)&&(backToKw p3 (keywordEach [] X.env)).all (λx=>x.1.isSome)&&decide ([e].length+([]:List Keyword).length+(if ([]:List Keyword).isEmpty then 0 else 1)<30))=true:=by rfl)
  (hline:(p2.endLine==p3.line)=true:=by rfl) (hstar:starEach [e] X.env=[(false,eval e X.env)]:=by rfl) (hs:swapsWith (.Call (.Attribute (.Name x p1) "extend" p2) [e] [] p3) none pos.line X.env=pure false:=by rfl) :
  Do X (.Expr (.Call (.Attribute (.Name x p1) "extend" p2) [e] [] p3) pos::rest) ρ P:=by
 refine dH (M:=λρ'=>ρ'=ρ.set n (some (.lst l (ds++gs)))) (PS.imp (ps_expr (pe_bm PySem.F.plainAttrs_list PySem.F.slot_list_extend PySem.F.type_list_extend mt_extend (pe_var hN hv hd hcd) (pa_cons he pa_nil hstar) hbase hfew hline hstar rfl) hs) ?_) (λ_ z=>z▸h)
 rintro D σ H ⟨r,q1,q2,q3,q4⟩
 obtain⟨v,e1,h1,h2⟩:=r.val n _ hρ
 obtain⟨rfl,xs,hT,hA⟩:=h1.lst_inv
 have fds:∀e∈ds,Fz e:=by
  rcases h2 with z|z|z
  ·cases z
  ·obtain⟨_,ys,z,_⟩:=z.lst_inv
   rw[r.own l ⟨n,_,hρ,rfl⟩]at z
   cases z
  ·cases z with|lst f=>exact f
 refine⟨_,e1,.inl ⟨rfl,xs,.of hT⟩,r.e,λb zs H2 hfr s2 hB h3=> ?_⟩
 have hT2:=s2 _ _ hT
 have lx:xs.length=ds.length:=hA.length
 have lz:zs.length=gs.length:=h3.length
 refine⟨l,b,xs,zs,rfl,rfl,hT2,hB,by rw[sizeLine_eq];omega,?_⟩
 have kt:KT H2 (upd H2 l (.lst (xs++zs))):=
  ⟨λb xs h=>by rw[upd_ne (ne_of h hT2 (by intro z;cases z))];exact h,λb o u h=>by rw[upd_ne (ne_of h hT2 (by intro z;cases z))];exact h⟩
 have r2:=r.mono s2
 have h0:X.H₀ l=none:=r.own l ⟨n,_,hρ,rfl⟩
 have same:Same X.H₀ (upd H2 l (.lst (xs++zs))):=λb o h=>by
  rw[upd_ne (ne_of_none h h0)]
  exact r2.same b o h
 have hnl:n<ρ.length:=(List.getElem?_eq_some_iff.mp hρ).1
 have go:Go ρ H (ρ.set n (some (.lst l (ds++gs)))) (upd H2 l (.lst (xs++zs))):=by
  refine⟨λb o h nm=> ?_,?_⟩
  ·have:b≠l:=λz=>nm (z▸⟨n,_,hρ,rfl⟩)
   rw[upd_ne this]
   exact s2 _ _ h
  ·rintro a ⟨j,es,hj,hw⟩
   rcases dQ hj with⟨rfl,rfl,_⟩|⟨_,hj⟩
   ·cases hw
    exact .inl ⟨_,_,hρ,rfl⟩
   ·exact .inl ⟨j,es,hj,hw⟩
 have own:∀a,Mu (ρ.set n (some (.lst l (ds++gs)))) a→X.H₀ a=none:=by
  rintro a ⟨j,es,hj,hw⟩
  rcases dQ hj with⟨rfl,rfl,_⟩|⟨_,hj⟩
  ·cases hw
   exact h0
  ·exact r.own a ⟨j,es,hj,hw⟩
 refine q1 _ _ _ go ⟨same,by simp[r.len],λj e' hj=> ?_,own⟩ rfl
 rcases dQ hj with⟨rfl,rfl,_⟩|⟨hne,hj⟩
 ·refine⟨.ref l,e1,.lst upd_same ?_,.inr (.inr (.lst λe' he'=> ?_))⟩
  ·exact((hA.mono s2).keep kt fds).append (h3.keep kt hz)
  ·rcases List.mem_append.mp he' with z|z
   ·exact fds _ z
   ·exact hz _ z
 ·obtain⟨u,f1,f2,f3⟩:=r2.val j e' hj
  refine⟨u,f1,?_,f3⟩
  rcases f3 with z|z|z
  ·exact f2.keep kt z
  ·exact z.mono same
  ·exact z.keep f2 kt λa ha=>upd_ne (r8 f2 ha hT2 λes ez=>hothers j es hne (ez▸hj))
end
theorem u7{cl cells:List (Str×Addr)}(h:∀p∈cl,cells.lookup p.1=some p.2): ∀y c,cl.lookup y=some c→cells.lookup y=some c:=λy c e=>h (y,c) (PySem.mem_of_lookup e)
theorem u6{scope:Scope}{env:Env}{cl:List (Str×Addr)}(h1:∀p∈scope.names,p.2≠.cell)(h2:∀p∈scope.names,p.2 = .free→∃c,cl.lookup p.1=some c):
  ∀y,(relabel scope env).names.lookup y=some .cell∨(relabel scope env).names.lookup y=some .free→∃c,cl.lookup y=some c:=by
 have key:∀p∈(relabel scope env).names,(p.2 = .cell∨p.2 = .free)→∃c,cl.lookup p.1=some c:=by
  intro p hp hk'
  obtain⟨⟨n,k⟩,hm,e⟩:=List.mem_map.mp (show p∈scope.names.map _ from hp)
  have hk:=h1 _ hm
  by_cases hf:k = .free
  ·have h3:=h2 _ hm hf
   have e1:p.1=n:=by
    rw[← e]
    dsimp only
    split<;>rfl
   rw[e1]
   exact h3
  ·have hf':(k==NameKind.free)=false:=by simpa using hf
   simp only[hf',Bool.false_and,Bool.false_eq_true,if_false]at e
   subst e
   rcases hk' with z|z
   ·exact absurd z hk
   ·exact absurd z hf
 intro y z
 rcases z with z|z
 ·exact key _ (PySem.mem_of_lookup z) (.inl rfl)
 ·exact key _ (PySem.mem_of_lookup z) (.inr rfl)
end FL
namespace FL
open PySem PySem.Spec PyProof.Rows L2
section
variable {X : Cx} {e a b c f : Expr} {es : List Expr} {ρ : Ro} {d d' : D} {ds gs : List D} {pos : Pos} {i j k l : Int} {rest : List Stmt} {P : Po}
def yL(_ j:Int): Prop:=j≠0∧Builtin.Int.intBits j≤9000
theorem vn:OpR X (binaryOp .FloorDiv) (rI yL λi j=>.int (i.fdiv j)):=opI λi j _ _ _ _ _ hc q=>by
 have h1:j≠0:=hc.1
 refine floordiv_int h1 q (.inl (PyProof.noPylong_of_log2 ?_))
 have h2:=intBits_le_iff.mp hc.2
 exact(Nat.log2_lt (by omega)).mpr h2
theorem rN{m:Nat}(ha:Ev X a ρ (.int i))(hb:Ev X b ρ (.int j))(h:j≠0)(hj:Bd j m)(hm:m≤9000:=by decide): Ev X (.BinOp a .FloorDiv b pos) ρ (.int (i.fdiv j)):=
 kU vn ha hb (pO ⟨h,Nat.le_trans hj.lt hm⟩ λ_=>.int _)
theorem kW{p:Pos}(hm:X.mg "tuple"=none)(ha:Ev X a ρ d')(hl:qW d'=some ds)(hg:Gl X "tuple":= by rfl)(he:starEach [a] X.env=[(false,eval a X.env)]:=by rfl): Ev X (.Call (.Name "tuple" p) [a] [] pos) ρ (.tup ds):=
 PE.imp (pe_callTy call_tuple_of hg hm dW (ad ha ae he) (by decide) (by decide) he rfl) λσ H Q ⟨r,q⟩=>⟨r,λvs H1 s1 h1=>by
  obtain⟨v,rfl,h⟩:=eO h1
  obtain⟨a,xs,rfl,h3,h4⟩:=h.lsD_inv hl
  exact⟨a,xs,rfl,.inl ⟨h3,λl hl=>q _ _ (s1.trans (bA hl)) (.tup upd_same (h4.mono (bA hl)))⟩⟩⟩
theorem iL{α β:Type}{g h:α→β}: ∀ {xs:List α},xs.map g=xs.map h→∀x∈xs,g x=h x
 | [],_,x,hx=>by cases hx
 | y::ys,e,x,hx=>by
  simp only[List.map_cons,List.cons.injEq]at e
  rcases List.mem_cons.mp hx with rfl|hx
  ·exact e.1
  ·exact iL e.2 x hx
theorem mF{elt iter:Expr}{x:Str}{px:Pos}{ifs:List Expr}{scope:Scope}(cl:List (Str×Addr))(ys:List Str)(js:List Nat)(p:D→Bool)(f:D→D)
  (hi:yD X (.Name x px) iter ρ ds) (hz:ds.length≤1000000) (hfz:∀d∈ds,p d=true→Fz (f d))
  (ht:∀C s₀ H₀ fp,∀d∈ds,yN (kR X scope cl (x::ys) C s₀ H₀ fp) ifs (some d::bP js ρ) (p d))
  (he:∀C s₀ H₀ fp,∀d∈ds,p d=true→Ev (kR X scope cl (x::ys) C s₀ H₀ fp) elt (some d::bP js ρ) (f d))
  (hc:X.calm=true:=by rfl) (hclos:closureFor scope X.env=pure cl:=by rfl) (hcell:scope.names.all (λy=> !(y.2 == .cell))=true:=by rfl) (hkind:scope.kind = .function:=by rfl)
  (hnames:scope.names.all (λy=> !(y.2 == .local) || (scope.names.lookup y.1==some .local))=true:=by rfl) (hx:scope.names.lookup x=some .local:=by rfl) (hnd:(x::ys).Nodup:=by decide)
  (hcl:cl.map (λp=>X.env.cells.lookup p.1)=cl.map (λp=>some p.2):=by rfl) (hhas:scope.names.all (λy=> !(y.2 == .free) || (cl.lookup y.1).isSome)=true:=by rfl)
  (hjs:js.length=ys.length:=by rfl) (hN:js.map (λj=>X.N[j]?)=ys.map some:=by rfl) (hK:ys.map (λy=>X.env.scope.names.lookup y)=ys.map (λ_=>some .cell):=by rfl) (hR:ys.map (λy=>(relabel scope X.env).names.lookup y)=ys.map (λ_=>some .cell):=by rfl)
  (hs:∀x,foldedSetIterable iter X.env x=pure x:=by intro _;rfl):iS X (.ListComp elt [⟨.Name x px,iter,ifs,0⟩] scope pos) ρ ((ds.filter p).map f):=by
 have hcell':∀y∈scope.names,y.2≠.cell:=λy hy z=>by
  have:=List.all_eq_true.mp hcell y hy
  rw[z]at this
  cases this
 refine oU (cl:=cl) (ys:=ys) (js:=js) p f hc hi hz hfz ht he hclos hcell' hkind (λy hy z=> ?_) hx hnd (u7 λq hq=>iL hcl q hq) (u6 hcell' λq hq z=> ?_) hjs (λi j y hj hy=> ?_) hs
 ·have:=List.all_eq_true.mp hnames y hy
  rw[z]at this
  simpa using this
 ·have:=List.all_eq_true.mp hhas q hq
  rw[z]at this
  have h2:(cl.lookup q.1).isSome=true:=by simpa using this
  exact Option.isSome_iff_exists.mp h2
 ·have my:y∈ys:=List.mem_of_getElem? hy
  have e1:X.N[j]?=some y:=by
   have:(js.map (λj=>X.N[j]?))[i]?=(ys.map some)[i]?:=by rw[hN]
   rw[List.getElem?_map,List.getElem?_map,hj,hy]at this
   simpa using this
  have e2:=iL hK y my
  have e3:=iL hR y my
  exact⟨e1,.inr (.inl e2),.inl e2,.inl e3⟩
theorem kZ{elt iter:Expr}{x:Str}{px:Pos}{scope:Scope}(f:D→D)(hi:yD X (.Name x px) iter ρ ds)(hz:ds.length≤1000000)(hfz:∀d∈ds,Fz (f d))
  (he:∀C s₀ H₀ fp,∀d∈ds,Ev (kR X scope [] [x] C s₀ H₀ fp) elt [some d] (f d))
  (hc:X.calm=true:=by rfl) (hclos:closureFor scope X.env=pure []:=by rfl) (hcell:scope.names.all (λy=> !(y.2 == .cell))=true:=by rfl) (hkind:scope.kind = .function:=by rfl)
  (hnames:scope.names.all (λy=> !(y.2 == .local) || (scope.names.lookup y.1==some .local))=true:=by rfl) (hx:scope.names.lookup x=some .local:=by rfl) (hhas:scope.names.all (λy=> !(y.2 == .free))=true:=by rfl)
  (hs:∀x,foldedSetIterable iter X.env x=pure x:=by intro _;rfl):iS X (.ListComp elt [⟨.Name x px,iter,[],0⟩] scope pos) ρ (ds.map f):=by
 have h:=mF (X:=X) (ρ:=ρ) (pos:=pos) (ds:=ds) (elt:=elt) (iter:=iter) (x:=x) (px:=px) (ifs:=[]) (scope:=scope) [] [] [] (λ_=>true) f hi hz (λd hd _=>hfz d hd) (λ_ _ _ _ _ _=>kE) (λC s₀ H₀ fp d hd _=>he C s₀ H₀ fp d hd) hc hclos hcell hkind hnames hx (by simp) rfl (by
  rw[List.all_eq_true]
  intro y hy
  rw[List.all_eq_true.mp hhas y hy]
  rfl) rfl rfl rfl rfl hs
 rwa [List.filter_eq_self.mpr (λ_ _=>rfl)]at h
end
end FL
namespace FL
open PySem PySem.Spec PyProof.Rows L2
section
variable {P : Program} {w : World} {K : PySem.W.Frag} {mg : Str → Option Value} {base : Heap} {k : Nat} {x : Str}
end
end FL
namespace FL
open PySem PySem.Spec PyProof.Rows L2
theorem tj{X:Cx}{elt iter:Expr}{x:Str}{px:Pos}{ifs:List Expr}{scope:Scope}{cl:List (Str×Addr)}{pos:Pos}{ys:List Str}{js:List Nat}{wi:TI}{tt:Cx→TT}{te:Cx→TE}
  (hc:X.calm=true) (hi:PI X (.Name x px) iter wi)
  (ht:∀C s₀ H₀ fp,xp (kR X scope cl (x::ys) C s₀ H₀ fp) ifs (tt (kR X scope cl (x::ys) C s₀ H₀ fp)))
  (he:∀C s₀ H₀ fp,PE (kR X scope cl (x::ys) C s₀ H₀ fp) elt (te (kR X scope cl (x::ys) C s₀ H₀ fp)))
  (hclos:closureFor scope X.env=pure cl) (hcell:∀y∈scope.names,y.2≠.cell) (hkind:scope.kind = .function)
  (hnames:∀y∈scope.names,y.2 = .local→scope.names.lookup y.1=some .local) (hx:scope.names.lookup x=some .local) (hnd:(x::ys).Nodup)
  (hcl:∀y c,cl.lookup y=some c→X.env.cells.lookup y=some c)
  (hhas:∀y,(relabel scope X.env).names.lookup y=some .cell∨(relabel scope X.env).names.lookup y=some .free→∃c,cl.lookup y=some c)
  (hjs:js.length=ys.length) (hjy:∀(i j:Nat) (y:Str),js[i]?=some j→ys[i]?=some y→X.N[j]?=some y∧Vis X.env.scope y∧(X.env.kindOf y=some .cell∨X.env.kindOf y=some .free)∧((relabel scope X.env).names.lookup y=some .cell∨(relabel scope X.env).names.lookup y=some .free))
  (hs:∀x,foldedSetIterable iter X.env x=pure x)
  {use:Option (Value→Sem Unit)} {R:Value→Shared→Prop} {pins:List (Addr×Obj)} {s:Shared} {σ:L2.St} {H:Hp} {Q:VK} {pos2:Pos} (I:Inv X pins σ H s) (h:sM X js wi tt te σ H Q)
  (hend:∀D C s5 H4,Q (.ref D) H4→H4 C=none→(∃m,s5.heap.Ns C m)→(∀h6,Heap.SameBut C s5.heap h6→Inv X pins σ H4 { s5 with heap:=h6 })→
   (X.s₀.heap.objs.size≤C∧C≠X.env.locals∧(∀x c,X.env.cells.lookup x=some c→c≠C)∧∀p∈X.pn++pins,p.1≠C)→compPost (model X.prog X.w) X.A X.xe use R (.ref D) C (.ok .next) s5) :
  wpAny (model X.prog X.w) X.A (comprehension (.ListComp elt [⟨.Name x px,iter,ifs,0⟩] scope pos) scope X.env pos2 (newList []) false (eval iter X.env) use) R X.xe s:=by
 refine wpAny_comprehension_free (use:=use) rfl hs hclos hkind hnames (thn (hi pins s σ H _ I h) λv s1 h1=>thn h1 λitv s2 h2=> ?_)
 obtain⟨it,fp,tn,J,H2,e,I2,T,st2,f2,h2⟩:=h2
 subst e
 refine wpAny_newObj_type (wpAny_newFunctionEnv hcell (by intro y hy;simp at hy) (λh₁ hns₁ hsb₁=> ?_) hkind)
 dsimp only at hns₁ hsb₁ ⊢
 have hD:H2 s2.heap.objs.size=none:=I2.hok.fresh (Nat.le_refl _)
 generalize eD:s2.heap.objs.size=D at hD hns₁ hsb₁ ⊢
 generalize eH:s2.heap.push { cls:=.type "list",dict:=none,data:=.seq ([]:List Value).toArray }=P3 at hns₁ hsb₁ ⊢
 have k23:∀b o,s2.heap.get? b=some o→P3.get? b=some o:=λb o q=>by rw[← eH];exact Heap.get?_push_of_some _ q
 have hDo:P3.get? D=some { cls:=.type "list",dict:=none,data:=.seq ([]:List Value).toArray }:=by rw[← eH,← eD];exact Heap.get?_push_size _ rfl
 have I3:Inv X pins σ (upd H2 D (.lst [])) { s2 with heap:=P3,toks:=s2.toks }:=I2.laid (t':=s2.toks) k23 (Nat.le_of_eq eD) ⟨Nat.zero_le _,[],0,.nil,hDo⟩
 have hCs:P3.objs.size=D+1:=by rw[← eH,Heap.size_push,eD]
 generalize eC:P3.objs.size=C at hns₁ hsb₁ hCs ⊢
 have k34:∀b o,P3.get? b=some o→h₁.get? b=some o:=λb o q=>hsb₁.extBut b o (by rw[← eC];exact Nat.ne_of_lt (Heap.lt_size q)) (Heap.get?_push_of_some _ q)
 have fpD:∀b∈fp,b<D:=λb hb=>by
  obtain⟨o,q,_⟩:=T.obj 0 _ st2 b hb
  rw[← eD]
  exact Heap.lt_size q
 have hC0:upd H2 D (.lst []) C=none:=I3.hok.fresh (by show P3.objs.size≤C;rw[eC];exact Nat.le_refl _)
 have okY:(kR X scope cl (x::ys) C { s2 with heap:=P3,toks:=s2.toks } (upd H2 D (.lst [])) fp).Ok:=by
  refine⟨I3.ok.mod,hkind,I3.ok.glob,I3.ok.blt,by show P3.objs.size≤C;rw[eC];exact Nat.le_refl _,λy z c h1 h2=>I3.ok.inj y z c (hcl y c h1) (hcl z c h2),λy hy=>hhas y hy,λy c hf _=>(by cases hf),
   I3.ok.hd,I3.ok.frames,.inl rfl,λb hb=>⟨(by show b≠C;rw[hCs];exact Nat.ne_of_lt (Nat.lt_succ_of_lt (fpD b hb))),λy c hy=>(f2 b hb).2.2.2.2.1 y c (hcl y c hy)⟩,λb o q=> ?_,?_,λb o q hb=> ?_,λb hb z=> ?_,I3.stack,I3.stkFree⟩
  ·exact I3.bs b o q
  ·exact Nat.le_trans I3.ok.bsz I3.sz
  ·rcases(f2 b hb).2.2.2.1 with z|z
   ·exact I3.ok.noex b o q z
   ·exact absurd (Nat.lt_of_lt_of_le (Heap.lt_size (I3.ok.bs b o q).1) z) (Nat.lt_irrefl _)
  ·rcases List.mem_cons.mp (I3.stkSub b z)with z|z
   ·exact(f2 b hb).2.1 z
   ·exact(f2 b hb).2.2.1 z
 generalize eY:kR X scope cl (x::ys) C { s2 with heap:=P3,toks:=s2.toks } (upd H2 D (.lst [])) fp=Y at okY
 have IY:Inv Y [] (none::cq js σ) (upd H2 D (.lst [])) { s2 with heap:=h₁,toks:=s2.toks+([]:List (Str×Value)).length }:=by
  subst eY
  refine⟨okY,I3.os.trans I3.os.symm |>.trans rfl,I3.bare,Un.kept k34,⟨_,hns₁,λi y v h1 h2 h3=> ?_⟩,λy c hy=> ?_,hC0,λy c hy=>I3.freeC y c (hcl y c hy),λp hp=>absurd (show p∈([]:List (Addr×Obj))from hp) (by simp),I3.hok.kept k34,?_⟩
  ·cases i with
   | zero=>cases h2
   | succ i=>
    have h1':ys[i]?=some y:=h1
    have h2':(cq js σ)[i]?=some (some v):=h2
    unfold cq at h2'
    rw[List.getElem?_map]at h2'
    cases q:js[i]? with
    | none=>rw[q]at h2';cases h2'
    | some j=>
     rw[q]at h2'
     have h4:(σ[j]?).join=some v:=Option.some.inj h2'
     have h5:σ[j]?=some (some v):=by
      cases z:σ[j]? with
      | none=>rw[z]at h4;cases h4
      | some o=>rw[z]at h4;have h4':o=some v:=h4;rw[h4']
     obtain⟨n1,n2,n3,n4⟩:=hjy i j y q h1'
     obtain⟨m,_,hl⟩:=I3.loc
     obtain⟨u,ru,lk⟩:=hl j y v n1 h5 n2
     refine⟨u,ru,.inr ⟨n4,?_⟩⟩
     obtain⟨c,hc'⟩:=hhas y n4
     rcases lk with⟨z,_⟩|⟨_,c',e1,e2⟩
     ·rcases n3 with n3|n3<;>(rw[n3]at z;cases z)
     ·have:c'=c:=Option.some.inj (e1.symm.trans (hcl y c hc'))
      subst this
      obtain⟨o,ho,hod⟩:=e2
      exact⟨c',hc',o,k34 _ _ ho,hod⟩
  ·obtain⟨v,o,ho,hod⟩:=I3.cell y c (hcl y c hy)
   exact⟨v,o,k34 _ _ ho,hod⟩
  ·show(cq js σ).length+1=(x::ys).length
   unfold cq
   simp[hjs]
 have eYA:Y.A=X.A:=by rw[← eY];rfl
 have eYp:Y.prog=X.prog:=by rw[← eY];rfl
 have eYw:Y.w=X.w:=by rw[← eY];rfl
 have eYK:Y.K=X.K:=by rw[← eY];rfl
 have eYe:Y.env=compEnvC scope cl C X.env:=by rw[← eY];rfl
 have eYH:Y.H₀=upd H2 D (.lst []):=by rw[← eY];rfl
 have eYc:Y.calm=true:=by rw[← eY];exact hc
 have eYx:Y.xe=λ_ _=>False:=by rw[← eY];rfl
 have eYex:Y.ex=fp:=by rw[← eY];rfl
 have eYfs:Y.fs=frs X.stack:=by rw[← eY];rfl
 have eYs:Y.s₀={ s2 with heap:=P3,toks:=s2.toks }:=by rw[← eY];rfl
 have eYl:Y.env.locals=C:=by rw[eYe];rfl
 have ht':xp Y ifs (tt Y):=by rw[← eY];exact ht C _ _ fp
 have he':PE Y elt (te Y):=by rw[← eY];exact he C _ _ fp
 have hg':PG Y (.Name x px) (gName 0):=by
  rw[← eY]
  exact pg_name hnd rfl (.inl (lookup_relabel_local hx)) (.inr (lookup_relabel_local hx))
 have T':Turn Y.prog Y.w Y.K (.Name x px) J fp it tn:=by rw[eYp,eYw,eYK];exact T
 obtain⟨W,⟨m0,w0⟩,turn⟩:=h2 D hD Y eYH eYK
 have stat:∀ {H':Hp},(∀b∈fp,H' b=none)→∀b∈fp,FpOk Y [] H' b:=λ{H'} hn b hb=>by
  obtain⟨_,g1,g2,g3,g4,g5⟩:=f2 b hb
  refine⟨hn b hb,(by rw[eYl,hCs];exact Nat.ne_of_lt (Nat.lt_succ_of_lt (fpD b hb))),λz=> ?_,.inl (by rw[eYex];exact hb),λy c hy=> ?_,λp hp=> ?_⟩
  ·rw[eYfs]at z
   rcases List.mem_cons.mp (I3.stkSub b z)with z|z
   ·exact g1 z
   ·exact g2 z
  ·rw[eYe]at hy
   exact g4 y c (hcl y c hy)
  ·have e0:Y.pn=[]:=by rw[← eY];rfl
   rw[e0]at hp
   exact absurd (show p∈([]:List (Addr×Obj))from hp) (by simp)
 have loop:∀s₃:Shared,s₃={ s2 with heap:=h₁,toks:=s2.toks+([]:List (Str×Value)).length }→
   codeAny (model X.prog X.w) X.A (.compLoop (.ListComp elt [⟨.Name x px,iter,ifs,0⟩] scope pos) 0 (.ref it) (.ref D) (compEnvC scope cl C X.env))
    (compPost (model X.prog X.w) X.A X.xe use R (.ref D) C) s₃:=by
  rintro s₃ rfl
  rw[← eYe,← eYA,← eYp,← eYw]
  refine iU (λn s'=>∃i z H' zs,Inv Y [] (z::cq js σ) H' s'∧tn i s'.heap∧(∀b∈fp,H' b=none)∧H' D=some (.lst zs)∧W i n zs H') ?_ m0
   ⟨0,none,_,[],IY,T.keep 0 _ _ st2 (λb _ o q=>k34 b o (k23 b o q)),λb hb=> ?_,upd_same,w0⟩
  ·rintro n s4 ⟨i,z,H4,zs,I4,st4,fr4,hz4,w4⟩
   rcases turn i n zs H4 hz4 w4 with⟨stop,qn⟩|⟨go,step⟩
   ·refine thn (T'.done Y rfl rfl rfl eYc i [] s4 _ H4 _ I4 (stat fr4) st4 stop) λr s5 ⟨hr,I5⟩=> ?_
    subst hr
    obtain⟨m,hm,_⟩:=id I5.loc
    rw[eYl]at hm
    have hC5:H4 C=none:=by rw[← eYl];exact I5.free
    have hC3:P3.objs.size=C:=eC
    show compPost (model Y.prog Y.w) Y.A X.xe use R (.ref D) C (.ok .next) s5
    rw[eYp,eYw,eYA]
    refine hend D C s5 H4 qn hC5 ⟨m,hm⟩ (λh6 sb=> ?_) ⟨?_,?_,?_,?_⟩
    ·have un5:=I5.base
     rw[eYfs,eYex,eYH,eYs]at un5
     have un6:Un (frs X.stack) fp (upd H2 D (.lst [])) H4 P3 h6:=by
      have nC:∀b o,P3.get? b=some o→b≠C:=λb o q=>by rw[← eC];exact Nat.ne_of_lt (Heap.lt_size q)
      refine⟨λb o q n hb hx=>(sb.2 b (nC b o q)).trans (un5.keep b o q n hb hx),λb o q n hb hx=> ?_,un5.free,λb o q hx=> ?_,un5.tups,un5.frzs,un5.tbls⟩
      ·obtain⟨sl,q2⟩:=un5.slot b o q n hb hx
       exact⟨sl,(sb.2 b (nC b o q)).trans q2⟩
      ·obtain⟨o',q2⟩:=un5.there b o q hx
       exact⟨o',(sb.2 b (nC b o q)).trans q2⟩
     have hok6:HOk X.prog X.w H4 h6:=λb ob q=>by
      have q5:=I5.hok b ob q
      rw[eYp,eYw]at q5
      refine q5.stay (λc w' hc' q'=>(sb.2 c ?_).trans q') (λ_ q'=>q') λ_ _ q'=>q'
      rintro rfl
      rcases hc' with rfl|hc'
      ·rw[hC5]at q;cases q
      ·rw[hC5]at hc';cases hc'
     have os5:s5.os=s2.os:=by have:=I5.os;rw[eYs]at this;exact this
     refine I3.call' (s':={ s5 with heap:=h6 }) (ch:=fp) os5 un6 hok6 I5.bare λb hb=> ?_
     obtain⟨_,g1,g2,g3,g4,g5⟩:=f2 b hb
     exact⟨g3,g1,g4,g5⟩
    ·rw[← hC3]
     exact I3.sz
    ·obtain⟨m',⟨oL,_,_,hoL,_⟩,_⟩:=I3.loc
     rw[← hC3]
     exact(Nat.ne_of_lt (Heap.lt_size hoL)).symm
    ·intro y c hy
     obtain⟨_,o,ho,_⟩:=I3.cell y c hy
     rw[← hC3]
     exact Nat.ne_of_lt (Heap.lt_size ho)
    ·intro p hp
     rw[← hC3]
     exact Nat.ne_of_lt (Heap.lt_size (I3.pin p hp).1)
   ·refine thn (T'.item Y rfl rfl rfl eYc i [] s4 _ H4 _ I4 (stat fr4) st4 go) λr s5 ⟨u,hr,h5⟩=> ?_
    subst hr
    refine thn h5 λ_ s6 ⟨y,H6,I6,r6,y6,st6,fr6⟩=> ?_
    have I6':=I6.pinned (stat fr6) (T.obj _ _ st6)
    have q6:=step y H6 y6
    have back:∀ {σ7:L2.St} {H7:Hp} {s7:Shared},Inv Y ([]++pinsAt fp s6.heap) σ7 H7 s7→tn (i+1) s7.heap∧∀b∈fp,H7 b=none:=λ{σ7 H7 s7} I7=>
     ⟨T.keep _ _ _ st6 λb hb o e=>(I7.pin (b,o) (List.mem_append_right _ (List.mem_append_right _ (mem_pinsAt hb e)))).1,λb hb=>by
      obtain⟨o,e,_⟩:=T.obj _ _ st6 b hb
      exact(I7.pin (b,o) (List.mem_append_right _ (List.mem_append_right _ (mem_pinsAt hb e)))).2.1⟩
    refine wpAny_mono (hg' _ s6 _ H6 y u (λσ' H'=>σ'=some y::cq js σ∧H'=H6) I6' r6 ⟨rfl,rfl⟩) (λ_ s7 ⟨σ7,H7,I7,e7,e7'⟩=> ?_) λ_ _ z=>by rw[eYx]at z;exact z
    subst e7 e7'
    refine wpAny_mono (ht' _ s7 _ H7 _ I7 q6) (λok s8 ⟨H8,I8,q8⟩=> ?_) λ_ _ z=>by rw[eYx]at z;exact z
    cases ok with
    | false=>
     rw[if_neg Bool.false_ne_true]at q8 ⊢
     obtain⟨zs',m',hz',hm',w'⟩:=q8
     obtain⟨b1,b2⟩:=back I8
     exact⟨m',hm',i+1,some y,H8,zs',I8.unpinned,b1,b2,hz',w'⟩
    | true=>
     rw[if_pos rfl]at q8 ⊢
     refine wpAny_mono (he' _ s8 _ H8 _ I8 q8) (λu9 s9 ⟨v9,H9,I9,r9,zs9,hz9,hl9,m9,hm9,w9⟩=> ?_) λ_ _ z=>by rw[eYx]at z;exact z
     refine wpAny_mono (mt_append (X:=Y) _ s9 _ H9 (.ref D) [v9] (.ref D) [u9] (λ_ H'=>H'=upd H9 D (.lst (zs9++[v9]))) I9 rfl (.cons r9 .nil) ⟨D,zs9,v9,rfl,rfl,hz9,hl9,rfl⟩) (λ_ s10 ⟨_,H10,I10,_,e10⟩=> ?_) λ_ _ z=>by rw[eYx]at z;exact z
     subst e10
     obtain⟨b1,b2⟩:=back I10
     exact⟨m9,hm9,i+1,some y,_,zs9++[v9],I10.unpinned,b1,b2,upd_same,w9⟩
  ·rw[upd_ne (Nat.ne_of_lt (fpD b hb))]
   exact(f2 b hb).1
 exact codeAny_compStart_list (loop _ rfl) (T.self _ 0 _ _ _ (T.keep 0 _ _ st2 (λb _ o q=>k34 b o (k23 b o q))) (loop _ rfl))
theorem nI{X:Cx}{js:List Nat}{ρ:Ro}{ds:List D}(p:D→Bool)(f:D→D)(hz:ds.length≤1000000)(hfz:∀d∈ds,p d=true→Fz (f d)):
  ∀σ H Q,tN X ρ ((ds.filter p).map f) σ H Q→sM X js (yt X ρ ds) (λY σ H Q=>∃d,d∈ds∧tB Y (some d::bP js ρ) (p d) σ H Q) (λY σ H Q=>∃d,d∈ds∧p d=true∧tD Y (some d::bP js ρ) (f d) σ H Q) σ H Q:=by
 rintro σ H Q ⟨r,q⟩
 refine⟨r,λJ H2 s2 ok D hD Y eH eK=> ?_⟩
 have fzs:∀(i:Nat),∀d∈((ds.take i).filter p).map f,Fz d:=λi d hd=>by
  obtain⟨d',h1,rfl⟩:=List.mem_map.mp hd
  obtain⟨h2,h3⟩:=List.mem_filter.mp h1
  exact hfz d' (List.mem_of_mem_take h2) h3
 refine⟨λi m zs H3=>m=ds.length-i∧i≤ds.length∧(∀b o,H2 b=some o→H3 b=some o)∧IsAll X.K H3 zs (((ds.take i).filter p).map f),⟨ds.length,by simp,Nat.zero_le _,bA hD,?_⟩,?_⟩
 ·simpa using IsAll.nil
 ·rintro i m zs H3 hzs ⟨rfl,hil,k3,hA⟩
  obtain⟨stop,go⟩:=ok H3 k3
  by_cases hlt:i<ds.length
  ·obtain⟨g,y⟩:=go i ds[i] (by simp[hlt])
   refine .inr ⟨g,λv H4 hy=> ?_⟩
   obtain⟨rfl,hv⟩:=y v H4 hy
   have hmem:ds[i]∈ds:=List.getElem_mem hlt
   have r3:RelE X H4 σ ρ:=r.mono (s2.trans k3)
   refine⟨ds[i],hmem,jf eK r3 hv,λH5 s5=> ?_⟩
   have etake:ds.take (i+1)=ds.take i++[ds[i]]:=by rw[List.take_succ_eq_append_getElem hlt]
   cases hp:p ds[i]with
   | false=>
    refine iteF ⟨zs,ds.length-(i+1),s5 _ _ hzs,by omega,rfl,hlt,λb o h=>s5 _ _ (k3 b o h),?_⟩
    rw[etake,List.filter_append]
    simpa [hp] using hA.mono s5
   | true=>
    refine iteT ⟨ds[i],hmem,hp,(jf eK r3 hv).mono s5,λy H6 s6 hy6=>⟨zs,s6 _ _ (s5 _ _ hzs),?_,ds.length-(i+1),by omega,rfl,hlt,λb o h=> ?_,?_⟩⟩
    ·have e1:=hA.length
     rw[List.length_map]at e1
     have e2:=List.length_filter_le p (ds.take i)
     rw[List.length_take]at e2
     rw[sizeLine_eq]
     omega
    ·rw[upd_ne (ne_of_none h hD)]
     exact s6 _ _ (s5 _ _ (k3 b o h))
    ·have hD6:H6 D=some (.lst zs):=s6 _ _ (s5 _ _ hzs)
     have kt:KT H6 (upd H6 D (.lst (zs++[y]))):=
      ⟨λb xs h=>by rw[upd_ne (ne_of h hD6 (by intro z;cases z))];exact h,λb o u h=>by rw[upd_ne (ne_of h hD6 (by intro z;cases z))];exact h⟩
     rw[etake,List.filter_append,List.map_append]
     refine IsAll.append ((hA.mono (s5.trans s6)).keep kt (fzs i)) ?_
     rw[eK]at hy6
     simpa [hp] using IsAll.cons (hy6.keep kt (hfz _ hmem hp)) .nil
  ·refine .inl ⟨stop i (by omega),q D zs H3 (s2.free hD) (s2.trans k3) hzs ?_⟩
   have:ds.take i=ds:=List.take_of_length_le (by omega)
   rw[this]at hA
   exact hA
theorem re{X:Cx}{elt iter:Expr}{x:Str}{px:Pos}{ifs:List Expr}{scope:Scope}{cl:List (Str×Addr)}{pos:Pos}{ys:List Str}{js:List Nat}{wi:TI}{tt:Cx→TT}{te:Cx→TE}{i:Nat}{y:Str}{py spos:Pos}
  (hN:X.N.Nodup) (hi0:X.N[i]?=some y) (hy:X.env.scope.names.lookup y=some .local) (hsw:swapsWith (.ListComp elt [⟨.Name x px,iter,ifs,0⟩] scope pos) (some (.Name y py)) spos.line X.env=pure true)
  (hc:X.calm=true) (hi:PI X (.Name x px) iter wi)
  (ht:∀C s₀ H₀ fp,xp (kR X scope cl (x::ys) C s₀ H₀ fp) ifs (tt (kR X scope cl (x::ys) C s₀ H₀ fp)))
  (he:∀C s₀ H₀ fp,PE (kR X scope cl (x::ys) C s₀ H₀ fp) elt (te (kR X scope cl (x::ys) C s₀ H₀ fp)))
  (hclos:closureFor scope X.env=pure cl) (hcell:∀y∈scope.names,y.2≠.cell) (hkind:scope.kind = .function)
  (hnames:∀y∈scope.names,y.2 = .local→scope.names.lookup y.1=some .local) (hx:scope.names.lookup x=some .local) (hnd:(x::ys).Nodup)
  (hcl:∀y c,cl.lookup y=some c→X.env.cells.lookup y=some c)
  (hhas:∀y,(relabel scope X.env).names.lookup y=some .cell∨(relabel scope X.env).names.lookup y=some .free→∃c,cl.lookup y=some c)
  (hjs:js.length=ys.length) (hjy:∀(i j:Nat) (y:Str),js[i]?=some j→ys[i]?=some y→X.N[j]?=some y∧Vis X.env.scope y∧(X.env.kindOf y=some .cell∨X.env.kindOf y=some .free)∧((relabel scope X.env).names.lookup y=some .cell∨(relabel scope X.env).names.lookup y=some .free))
  (hs:∀x,foldedSetIterable iter X.env x=pure x) :
  PS X (.Assign [.Name y py] (.ListComp elt [⟨.Name x px,iter,ifs,0⟩] scope pos) spos) (tAsg (sM X js wi tt te) (gName i)):=by
 intro pins s σ H Dn I h
 rw[exec_Assign_Name_used _ _ _ _ hsw]
 refine wpAny_bind (wpAny_standAt (wpAny_bind ?_))
 show wpAny _ X.A (do let _ ← comprehension (.ListComp elt [⟨.Name x px,iter,ifs,0⟩] scope pos) scope X.env _ (newList []) false (eval iter X.env) (some (assign (.Name y py) X.env))) _ _ s
 refine wpAny_bind (wpAny_mono (tj (use:=some (assign (.Name y py) X.env)) (R:=λ_ s'=>SP X pins Dn .next s') hc hi ht he hclos hcell hkind hnames hx hnd hcl hhas hjs hjy hs I h (λD C s5 H4 q hC ns inv cc=> ?_)) (λ_ s' hq=>wpAny_pure (wpAny_pure hq)) λ_ _ e=>e)
 show wpAny _ X.A (assign (.Name y py) X.env (.ref D)) _ _ s5
 have I5:Inv X pins σ H4 s5:=inv s5.heap (Heap.SameBut.refl _ _)
 refine wpAny_assign_Name (store_ok2 (v:=.ref D) I5 hN hi0 (.inl hy) rfl (λs6 I6 ⟨a,sb,ha⟩=> ?_) (.inr hy))
 obtain⟨m,hm⟩:=ns
 have aC:C≠a:=by
  rcases ha with rfl|ha
  ·exact cc.2.1
  ·exact λz=>cc.2.2.1 _ _ ha z.symm
 refine⟨m,hm.sameBut sb aC,λh7 sb7=>⟨_,H4,?_,q⟩⟩
 have un:Un (frs X.stack) [C] H4 H4 s6.heap h7:=by
  have nC:∀b,b∉[C]→b≠C:=λb hb z=>hb (z▸List.mem_cons_self)
  exact⟨λb o q n hb hx=>(sb7.2 b (nC b hx)).trans q,λb o q n hb hx=>⟨o.slots,(sb7.2 b (nC b hx)).trans q⟩,λb o q n hx=>n,λb o q hx=>⟨o,(sb7.2 b (nC b hx)).trans q⟩,λ_ _ q=>q,λ_ _ _ q=>q,λ_ ps q=>⟨#[],by rw[Array.append_empty];exact q⟩⟩
 have hok7:HOk X.prog X.w H4 h7:=λb ob q=>by
  refine(I6.hok b ob q).stay (λc w' hc' q'=>(sb7.2 c ?_).trans q') (λ_ q'=>q') λ_ _ q'=>q'
  rintro rfl
  rcases hc' with rfl|hc'
  ·rw[hC]at q;cases q
  ·rw[hC]at hc';cases hc'
 refine I6.call' (s':={ s6 with heap:=h7 }) (ch:=[C]) rfl un hok7 I6.bare λb hb=> ?_
 obtain rfl:b=C:=List.mem_singleton.mp hb
 exact⟨.inr cc.1,cc.2.1,cc.2.2.1,cc.2.2.2⟩
section
variable {X : Cx} {ρ : Ro} {ds : List D} {pos spos py : Pos} {rest : List Stmt} {P : Po}
theorem rK(n:Nat){elt iter:Expr}{x y:Str}{px:Pos}{ifs:List Expr}{scope:Scope}(cl:List (Str×Addr))(ys:List Str)(js:List Nat)(p:D→Bool)(f:D→D)
  (hi:yD X (.Name x px) iter ρ ds) (hz:ds.length≤1000000) (hfz:∀d∈ds,p d=true→Fz (f d))
  (ht:∀C s₀ H₀ fp,∀d∈ds,yN (kR X scope cl (x::ys) C s₀ H₀ fp) ifs (some d::bP js ρ) (p d))
  (he:∀C s₀ H₀ fp,∀d∈ds,p d=true→Ev (kR X scope cl (x::ys) C s₀ H₀ fp) elt (some d::bP js ρ) (f d))
  (h:∀l,¬Mu ρ l→Do X rest (ρ.set n (some (.lst l ((ds.filter p).map f)))) P) (hN:X.N.Nodup) (hi0:X.N[n]?=some y:=by rfl) (hy:X.env.scope.names.lookup y=some .local:=by rfl)
  (hsw:swapsWith (.ListComp elt [⟨.Name x px,iter,ifs,0⟩] scope pos) (some (.Name y py)) spos.line X.env=pure true:=by rfl)
  (hc:X.calm=true:=by rfl) (hclos:closureFor scope X.env=pure cl:=by rfl) (hcell:scope.names.all (λy=> !(y.2 == .cell))=true:=by rfl) (hkind:scope.kind = .function:=by rfl)
  (hnames:scope.names.all (λy=> !(y.2 == .local) || (scope.names.lookup y.1==some .local))=true:=by rfl) (hx:scope.names.lookup x=some .local:=by rfl) (hnd:(x::ys).Nodup:=by decide)
  (hcl:cl.map (λp=>X.env.cells.lookup p.1)=cl.map (λp=>some p.2):=by rfl) (hhas:scope.names.all (λy=> !(y.2 == .free) || (cl.lookup y.1).isSome)=true:=by rfl)
  (hjs:js.length=ys.length:=by rfl) (hNj:js.map (λj=>X.N[j]?)=ys.map some:=by rfl) (hK:ys.map (λy=>X.env.scope.names.lookup y)=ys.map (λ_=>some .cell):=by rfl) (hR:ys.map (λy=>(relabel scope X.env).names.lookup y)=ys.map (λ_=>some .cell):=by rfl)
  (hs:∀x,foldedSetIterable iter X.env x=pure x:=by intro _;rfl):Do X (.Assign [.Name y py] (.ListComp elt [⟨.Name x px,iter,ifs,0⟩] scope pos) spos::rest) ρ P:=by
 have hcell':∀y∈scope.names,y.2≠.cell:=λy hy z=>by
  have:=List.all_eq_true.mp hcell y hy
  rw[z]at this
  cases this
 have hz':∀d∈(ds.filter p).map f,Fz d:=λd hd=>by
  obtain⟨d',h1,rfl⟩:=List.mem_map.mp hd
  exact hfz d' (List.mem_filter.mp h1).1 (List.mem_filter.mp h1).2
 refine dH (M:=λρ'=>∃l,¬Mu ρ l∧ρ'=ρ.set n (some (.lst l ((ds.filter p).map f)))) (PS.imp (re (cl:=cl) (ys:=ys) (js:=js) (wi:=yt X ρ ds) (tt:=λY σ H Q=>∃d,d∈ds∧tB Y (some d::bP js ρ) (p d) σ H Q) (te:=λY σ H Q=>∃d,d∈ds∧p d=true∧tD Y (some d::bP js ρ) (f d) σ H Q) hN hi0 hy hsw hc hi
  (λC s₀ H₀ fp pins s σ H Q I ⟨d,hd,q⟩=>ht C s₀ H₀ fp d hd pins s σ H Q I q) (λC s₀ H₀ fp pins s σ H Q I ⟨d,hd,hp,q⟩=>he C s₀ H₀ fp d hd hp pins s σ H Q I q) hclos hcell' hkind (λy hy z=> ?_) hx hnd (u7 λq hq=>iL hcl q hq) (u6 hcell' λq hq z=> ?_) hjs (λi j y hj hy=> ?_) hs) ?_) (λ_ ⟨l,z,e⟩=>e▸h l z)
 ·have:=List.all_eq_true.mp hnames y hy
  rw[z]at this
  simpa using this
 ·have:=List.all_eq_true.mp hhas q hq
  rw[z]at this
  have h2:(cl.lookup q.1).isSome=true:=by simpa using this
  exact Option.isSome_iff_exists.mp h2
 ·have my:y∈ys:=List.mem_of_getElem? hy
  have e1:X.N[j]?=some y:=by
   have:(js.map (λj=>X.N[j]?))[i]?=(ys.map some)[i]?:=by rw[hNj]
   rw[List.getElem?_map,List.getElem?_map,hj,hy]at this
   simpa using this
  have e2:=iL hK y my
  have e3:=iL hR y my
  exact⟨e1,.inr (.inl e2),.inl e2,.inl e3⟩
 ·rintro D σ H ⟨r,q1,q2,q3,q4⟩
  refine nI p f hz hfz σ H _ ⟨r.e,λl vs H' hl s e1 h'=>q1 _ H' _ (Go.set s λa z=> ?_) ((r.mono s).set (.lst e1 h') n (.inr (.inr (.lst hz'))) λa z=> ?_) ⟨l,λm=> ?_,rfl⟩⟩
  ·cases z
   exact .inr hl
  ·cases z
   exact r.same.free hl
  ·obtain⟨ys,z,_⟩:=r.mu m
   rw[hl]at z
   cases z
end
end FL
namespace M
theorem emod_gcd(a b:Int): Int.gcd b (a%b)=Int.gcd a b:=by
 rw[Int.emod_def,Int.gcd_sub_mul_left_right,Int.gcd_comm]
theorem zH(a:Int){b:Int}(h:b≠0): (a.fmod b).natAbs<b.natAbs:=by
 rcases Int.lt_or_gt_of_ne h with h|h
 ·have e:a.fmod b = -((-a).fmod (-b)):=by rw[Int.neg_fmod_neg];omega
  have h1:=Int.fmod_nonneg_of_pos (-a) (show 0 < -b by omega)
  have h2:=Int.fmod_lt_of_pos (-a) (show 0 < -b by omega)
  omega
 ·have h1:=Int.fmod_nonneg_of_pos a h
  have h2:=Int.fmod_lt_of_pos a h
  omega
theorem gcd_abs(a b:Int): Int.gcd (a.natAbs:Int) (b.natAbs:Int)=Int.gcd a b:=by
 simp[Int.gcd]
theorem zF{a b g:Int}(ha:0<a)(hg:0≤g): b*b-4*a*(b*b/(4*a)+1+g)<0:=by
 have h4:0<4*a:=by omega
 have h1:=Int.lt_mul_ediv_self_add (x:=b*b) h4
 have h2:4*a*(b*b/(4*a)+1+g)=4*a*(b*b/(4*a))+4*a+4*a*g:=by
  rw[Int.mul_add,Int.mul_add,Int.mul_one]
 have h3:0≤4*a*g:=Int.mul_nonneg (by omega) hg
 omega
end M
namespace MT
def Wo(a b c x y:Int): Int:=a*x*x+b*x*y+c*y*y
structure Least(a b c:Int): Prop where
 lo:-a<b
 hi:b≤a
 ac:a≤c
 eq:a=c→0≤b
theorem iP{x:Int}(h:x≠0): 1≤x*x:=by
 rcases Int.lt_or_gt_of_ne h with h|h
 ·have:=Int.mul_pos (show 0 < -x by omega) (show 0 < -x by omega)
  grind
 ·have:=Int.mul_pos h h
  omega
theorem sq_nonneg(x:Int): 0≤x*x:=by
 by_cases h:x=0
 ·subst h;decide
 ·have:=iP h;omega
theorem qb{a b c x y:Int}(ha:0<a)(L:Least a b c)(hx:x≠0)(hy:y≠0):
  ∃m e:Int,1≤m∧0≤e∧(x*y=m∧e=a+b∨x*y = -m∧e=a-b)∧m≤x*x+y*y-m∧Wo a b c x y=a*(x*x+y*y-m)+e*m+(c-a)*(y*y):=by
 have h0:x*y≠0:=Int.mul_ne_zero hx hy
 have h1:=sq_nonneg (x-y)
 have h2:=sq_nonneg (x+y)
 have lo:=L.lo
 have hi:=L.hi
 rcases Int.lt_or_gt_of_ne h0 with h|h
 ·refine⟨-(x*y),a-b,by omega,by omega,.inr ⟨by omega,rfl⟩,by grind,?_⟩
  unfold Wo;grind
 ·refine⟨x*y,a+b,by omega,by omega,.inl ⟨rfl,rfl⟩,by grind,?_⟩
  unfold Wo;grind
theorem Ad{u v w:Int}(hu:0≤u)(hv:0≤v)(hw:0≤w)(h:u+v+w=0): u=0∧v=0∧w=0:=by omega
theorem zx{u v:Int}(hu:0≤u)(hv:0≤v)(h:u+4*v=0): u=0:=by omega
theorem mul_nn{x y:Int}(hx:0≤x)(hy:0≤y): 0≤x*y:=Int.mul_nonneg hx hy
theorem rq{a b c x y:Int}(ha:0<a)(L:Least a b c)(h:x≠0∨y≠0): a≤Wo a b c x y:=by
 have ac:=L.ac
 by_cases hy:y=0
 ·subst hy
  have hx:x≠0:=by omega
  have:=Int.mul_le_mul_of_nonneg_left (iP hx) (Int.le_of_lt ha)
  unfold Wo;grind
 ·by_cases hx:x=0
  ·subst hx
   have:=Int.mul_le_mul_of_nonneg_left (iP hy) (show 0≤c by omega)
   unfold Wo;grind
  ·obtain⟨m,e,h1,h2,_,h4,h5⟩:=qb ha L hx hy
   have t1:=mul_nn (Int.le_of_lt ha) (show 0≤x*x+y*y-m-1 by omega)
   have t2:=mul_nn h2 (show 0≤m by omega)
   have t3:=mul_nn (show 0≤c-a by omega) (sq_nonneg y)
   rw[h5]
   grind
theorem ro{a b c x y:Int}(ha:0<a)(L:Least a b c)(hx:x≠0)(hy:y≠0)(h:Wo a b c x y=a): a=c∧b=a∧x*y = -1:=by
 obtain⟨m,e,h1,h2,h3,h4,h5⟩:=qb ha L hx hy
 have ac:=L.ac
 have lo:=L.lo
 have t1:=mul_nn (Int.le_of_lt ha) (show 0≤x*x+y*y-m-1 by omega)
 have t2:=mul_nn h2 (show 0≤m by omega)
 have t3:=mul_nn (show 0≤c-a by omega) (sq_nonneg y)
 rw[h5]at h
 obtain⟨s1,s2,s3⟩:=Ad t1 t2 t3 (by grind)
 have e0:e=0:=by
  rcases Int.mul_eq_zero.mp s2 with z|z
  ·exact z
  ·omega
 have c0:c-a=0:=by
  rcases Int.mul_eq_zero.mp s3 with z|z
  ·exact z
  ·have:=iP hy;omega
 have q0:x*x+y*y-m-1=0:=by
  rcases Int.mul_eq_zero.mp s1 with z|z
  ·omega
  ·exact z
 have m1:m=1:=by omega
 rcases h3 with⟨g1,g2⟩|⟨g1,g2⟩
 ·omega
 ·exact⟨by omega,by omega,by omega⟩
theorem pw{a b b' k:Int}(ha:0<a)(h:b'=b+2*a*k)(l1:-a<b)(l2:b≤a)(l3:-a<b')(l4:b'≤a): k=0:=by
 have h1:a*(2*k)=b'-b:=by grind
 rcases(show k=0∨1≤k∨k≤-1 by omega)with z|z|z
 ·exact z
 ·have:=Int.mul_le_mul_of_nonneg_left (show(2:Int)≤2*k by omega) (Int.le_of_lt ha)
  omega
 ·have:=Int.mul_le_mul_of_nonneg_left (show 2*k≤(-2:Int)by omega) (Int.le_of_lt ha)
  omega
theorem pj{a b c a' b' c' p q r s:Int}(ha:0<a)(ha':0<a')(L:Least a b c)(L':Least a' b' c')(det:p*s-q*r=1)
   (e1:a'=Wo a b c p r) (e2:b'=2*a*p*q+b*(p*s+q*r)+2*c*r*s) (e3:c'=Wo a b c q s) (le:a'≤a):a'=a∧b'=b∧c'=c:=by
 have bar:b'*b'-4*a'*c'=b*b-4*a*c:=by rw[e1,e2,e3];unfold Wo;grind
 have lo:=L.lo
 have hi:=L.hi
 have ac:=L.ac
 have lo':=L'.lo
 have hi':=L'.hi
 have ac':=L'.ac
 have ge:a≤a':=by
   rw[e1]
   refine rq ha L ?_
   by_cases hp:p=0
   · refine .inr λhr=> ?_
     rw[hp,hr]at det
     simp at det
   · exact .inl hp
 have ea:a'=a:=by omega
 subst ea
 have fin:b'=b→a'=a'∧b'=b∧c'=c:=λz=>⟨rfl,z,by
   subst z
   have:a'*(4*(c'-c))=0:=by grind
   rcases Int.mul_eq_zero.mp this with w|w<;>omega⟩
 by_cases hr:r=0
 ·
   subst hr
   have ps:p*s=1:=by omega
   have e2':b'=b+2*a'*(p*q):=by grind
   have:=pw ha e2' lo hi lo' hi'
   exact fin (by rw[e2',this];omega)
 · by_cases hp:p=0
   ·
     subst hp
     have qr:q*r = -1:=by omega
     have rr:r*r=1:=by
       have h1:q*q*(r*r)=1:=by grind
       have h2:=iP hr
       have h3:=sq_nonneg q
       have h4:q*q≠0:=by intro z;rw[z]at h1;simp at h1
       have h5:0≤(q*q-1)*(r*r):=mul_nn (by omega) (by omega)
       have h6:0≤(r*r-1)*(q*q):=mul_nn (by omega) h3
       grind
     have ca:c=a':=by unfold Wo at e1;grind
     have b0:0≤b:=L.eq ca.symm
     have e2':b' = -b+2*a'*(r*s):=by grind
     by_cases hb:b=a'
     ·
       have:b'*b'-4*a'*c'=a'*a'-4*a'*a':=by rw[bar,hb,ca]
       have t1:=mul_nn (show 0≤a'-b' by omega) (show 0≤a'+b' by omega)
       have t2:=mul_nn (Int.le_of_lt ha) (show 0≤c'-a' by omega)
       have s1:(a'-b')*(a'+b')=0:=zx t1 t2 (by grind)
       rcases Int.mul_eq_zero.mp s1 with w|w
       ·exact fin (by omega)
       ·omega
     · have:=pw ha e2' (by omega) (by omega) lo' hi'
       rw[this]at e2'
       have e4:b' = -b:=by omega
       have:a'*(4*(c'-c))=0:=by rw[e4]at bar;grind
       have ec:c'=c:=by rcases Int.mul_eq_zero.mp this with w|w<;>omega
       have b0':=L'.eq (by omega)
       exact fin (by omega)
   ·
     obtain⟨g1,g2,g3⟩:=ro ha L hp hr e1.symm
     have:b'*b'-4*a'*c'=a'*a'-4*a'*a':=by rw[bar,g2,← g1]
     have t1:=mul_nn (show 0≤a'-b' by omega) (show 0≤a'+b' by omega)
     have t2:=mul_nn (Int.le_of_lt ha) (show 0≤c'-a' by omega)
     have s1:(a'-b')*(a'+b')=0:=zx t1 t2 (by grind)
     rcases Int.mul_eq_zero.mp s1 with w|w
     · exact fin (by omega)
     · omega
theorem least_unique{a b c a' b' c' p q r s:Int}(ha:0<a)(ha':0<a')(L:Least a b c)(L':Least a' b' c')(det:p*s-q*r=1)
   (e1:a'=Wo a b c p r) (e2:b'=2*a*p*q+b*(p*s+q*r)+2*c*r*s) (e3:c'=Wo a b c q s):a'=a∧b'=b∧c'=c:=by
 by_cases h:a'≤a
 · exact pj ha ha' L L' det e1 e2 e3 h
 ·
   have det':s*p-(-q)*(-r)=1:=by grind
   have f1:a=Wo a' b' c' s (-r):=by rw[e1,e2,e3];unfold Wo;grind
   have f2:b=2*a'*s*(-q)+b'*(s*p+(-q)*(-r))+2*c'*(-r)*p:=by rw[e1,e2,e3];unfold Wo;grind
   have f3:c=Wo a' b' c' (-q) p:=by rw[e1,e2,e3];unfold Wo;grind
   obtain⟨g1,g2,g3⟩:=pj ha' ha L' L det' f1 f2 f3 (by omega)
   exact⟨g1.symm,g2.symm,g3.symm⟩
end MT
namespace MT
theorem Af{a b c x y:Int}(ha:0<a)(hd:b*b-4*a*c<0)(h:x≠0∨y≠0): 0<Wo a b c x y:=by
 have e:4*(a*Wo a b c x y)=(2*a*x+b*y)*(2*a*x+b*y)+(4*a*c-b*b)*(y*y):=by unfold Wo;grind
 have s1:=sq_nonneg (2*a*x+b*y)
 have key:0<a*Wo a b c x y:=by
  by_cases hy:y=0
  ·subst hy
   have hx:x≠0:=by omega
   have h1:=iP hx
   have h2:0<a*(x*x):=Int.mul_pos ha (by omega)
   have h3:0<a*(a*(x*x)):=Int.mul_pos ha h2
   unfold Wo
   grind
  ·have h1:=iP hy
   have h2:0<(4*a*c-b*b)*(y*y):=Int.mul_pos (by omega) (by omega)
   omega
 by_cases z:0<Wo a b c x y
 ·exact z
 ·have:a*Wo a b c x y≤0:=Int.mul_nonpos_of_nonneg_of_nonpos (Int.le_of_lt ha) (by omega)
  omega
theorem least_small{a b c:Int}(ha:0<a)(L:Least a b c): a≤4*a*c-b*b∧c≤4*a*c-b*b∧b.natAbs≤(4*a*c-b*b).natAbs:=by
 have lo:=L.lo
 have hi:=L.hi
 have ac:=L.ac
 have h1:=mul_nn (show 0≤a-b by omega) (show 0≤a+b by omega)
 have h2:=mul_nn (Int.le_of_lt ha) (show 0≤c-a by omega)
 have h3:=mul_nn (show 0≤a-1 by omega) (show 0≤c by omega)
 have h4:3*(a*c)≤4*a*c-b*b:=by grind
 have h5:c≤a*c:=by grind
 omega
theorem turn_small{a b c x y v:Int}(ha:0<a)(hd:b*b-4*a*c<0)(e:v=Wo a b c x y): y*y≤4*(a*v)∧(2*a*x+b*y)*(2*a*x+b*y)≤4*(a*v):=by
 have e1:4*(a*v)=(2*a*x+b*y)*(2*a*x+b*y)+(4*a*c-b*b)*(y*y):=by rw[e];unfold Wo;grind
 have s1:=sq_nonneg (2*a*x+b*y)
 have s2:=mul_nn (show 0≤4*a*c-b*b-1 by omega) (sq_nonneg y)
 have s3:(4*a*c-b*b)*(y*y)=(4*a*c-b*b-1)*(y*y)+y*y:=by grind
 have s4:=sq_nonneg y
 omega
end MT
namespace MT
theorem z_small{x y z:Int}(hx:0<x)(h1:-x≤y)(h2:y≤x)(hd:y*y-4*x*z<0): 0<z∧4*z≤x-(y*y-4*x*z):=by
 have t1:=mul_nn (show 0≤x-y by omega) (show 0≤x+y by omega)
 have t2:=mul_nn (show 0≤x-1 by omega) (show 0≤-(y*y-4*x*z)by omega)
 constructor
 ·by_cases hz:0<z
  ·exact hz
  ·have:=mul_nn (Int.le_of_lt hx) (show 0≤-z by omega)
   have:=sq_nonneg y
   grind
 ·refine Int.le_of_mul_le_mul_left (a:=x) ?_ hx
  grind
def meas(x y z:Int): Nat:=3*x.natAbs+(if -x<y∧y≤x then(if x=z∧y<0 then 1 else 0)else 2)
end MT
namespace MT
end MT
namespace CM
open PySem PySem.Spec L2 FL
def fM(ds:List D)(d:D): Prop:=∃i:Int,ds=[.int i]∧d = .bl true
def dt(ds:List D)(d:D): Prop:=∃ns:List Int,ds=[.tup (ns.map D.int),.int (ns.length:Int)]∧ns.length≤1000∧d = .bl true
def dq(ds:List D)(d:D): Prop:=∃a b:Int,ds=[.int a,.int b]∧d = .int (Int.gcd a b:Int)
def bU(ds:List D)(d:D): Prop:=∃a b c:Int,ds=[.int a,.int b,.int c]∧Bd a 8000∧Bd b 8000∧Bd c 8000∧d = .int (b*b-4*a*c)
structure FormN(a b c:Int): Prop where
 pos:0<a
 bar:b*b-4*a*c<0
 sa:Bd a 8000
 sb:Bd b 8000
 sc:Bd c 8000
abbrev ar(a b c:Int): D:=.tup [.int a,.int b,.int c]
def mO(ds:List D)(d:D): Prop:=∃a b c:Int,ds=[ar a b c]∧FormN a b c∧d = .bl true
def aB(ds:List D)(d:D): Prop:=∃a b c:Int,ds=[ar a b c]∧FormN a b c∧d = .non
def bE(ds:List D)(d:D): Prop:=∃a b c:Int,ds=[ar a b c]∧FormN a b c∧d = .int (b*b-4*a*c)
def sB(ds:List D)(d:D): Prop:=∃a b c x y:Int,ds=[ar a b c,.tup [.int x,.int y]]∧FormN a b c∧Bd x 8000∧Bd y 8000∧d = .int (a*x*x+b*x*y+c*y*y)
def fc(ds:List D)(d:D): Prop:=∃a b c:Int,ds=[ar a b c]∧FormN a b c∧d = .bl (decide ((Int.gcd (Int.gcd a b) c:Int)=1))
abbrev cell(ns:List Int)(k:Nat): Int:=ns.getD k 0
abbrev yo(ns:List Int): D:=.ls (ns.map D.int)
def iu(ds:List D)(d:D): Prop:=∃(ns:List Int) (k:Nat),ds=[yo ns,.int (k:Int)]∧d = .int (cell ns k)
def xq(ns:List Int): Prop:=∀k:Nat,Bd (cell ns k) 1048576
theorem cR(ns:List Int): Fz (.tup (ns.map D.int)):=.tup λd hd=>by
 obtain⟨z,_,rfl⟩:=List.mem_map.mp hd
 exact .int z
theorem xX(a b c:Int): Fz (ar a b c):=cR [a,b,c]
theorem fz2(a b:Int): Fz (.tup [.int a,.int b]):=cR [a,b]
def zq(ds:List D)(d:D): Prop:=∃ns:List Int,ds=[yo ns]∧ns.length≤63∧xq ns∧d = .bl true
theorem x6(ns:List Int)(hl:ns.length≤63)(hb:∀z∈ns,Builtin.Int.intBits z≤1048576): zq [.ls (ns.map D.int)] (.bl true):=by
 refine⟨ns,rfl,hl,λk=>⟨?_⟩,rfl⟩
 by_cases h:k<ns.length
 ·have e:cell ns k=ns[k]:=by simp[cell,List.getD,List.getElem?_eq_getElem h]
  rw[e]
  exact hb _ (List.getElem_mem h)
 ·have e:cell ns k=0:=by simp[cell,List.getD,List.getElem?_eq_none (Nat.le_of_not_lt h)]
  rw[e]
  exact Nat.le_trans (bd_0).lt (by decide)
structure Tx(mg:Str→Option Value): Prop where
 abs:mg "abs"=none
 all:mg "all"=none
 any:mg "any"=none
 bool:mg "bool"=none
 dict:mg "dict"=none
 enumerate:mg "enumerate"=none
 int:mg "int"=none
 isi:mg "isinstance"=none
 len:mg "len"=none
 list:mg "list"=none
 max:mg "max"=none
 min:mg "min"=none
 range:mg "range"=none
 reversed:mg "reversed"=none
 set:mg "set"=none
 sorted:mg "sorted"=none
 str:mg "str"=none
 sum:mg "sum"=none
 tuple:mg "tuple"=none
 zip:mg "zip"=none
abbrev dj(p q r s:Int): D:=.tup [.int p,.int q,.int r,.int s]
abbrev mx(x y:Int): D:=.tup [.int x,.int y]
def lD(ds:List D)(d:D): Prop:=∃p q r s x y:Int,ds=[dj p q r s,mx x y]∧Bd p 8000∧Bd q 8000∧Bd r 8000∧Bd s 8000∧Bd x 8000∧Bd y 8000∧d=mx (p*x+q*y) (r*x+s*y)
abbrev wo(a b c x y:Int): Int:=a*x*x+b*x*y+c*y*y
theorem gL(ns:List Int): ∀d∈ns.map D.int,Fz d:=λd hd=>by
 obtain⟨z,_,rfl⟩:=List.mem_map.mp hd
 exact .int z
structure TurnN(p q r s:Int): Prop where
 det:p*s-q*r=1
 sp:Bd p 7000
 sq:Bd q 7000
 sr:Bd r 7000
 ss:Bd s 7000
def jc(ds:List D)(d:D): Prop:=∃p q r s:Int,ds=[dj p q r s]∧TurnN p q r s∧d = .bl true
def cT(ds:List D)(d:D): Prop:=∃p q r s:Int,ds=[dj p q r s]∧TurnN p q r s∧d = .non
theorem xh(a b c p q r s x y:Int): wo (wo a b c p r) (2*a*p*q+b*(p*s+q*r)+2*c*r*s) (wo a b c q s) x y=wo a b c (p*x+q*y) (r*x+s*y):=by grind
def lE(ds:List D)(d:D): Prop:=∃p q r s:Int,ds=[dj p q r s]∧TurnN p q r s∧d=dj s (-q) (-r) p
structure FormS(a b c:Int): Prop where
 pos:0<a
 bar:b*b-4*a*c<0
 sa:Bd a 3000
 sb:Bd b 3000
 sc:Bd c 3000
 sd:Bd (b*b-4*a*c) 1200
theorem FormS.n{a b c:Int}(h:FormS a b c): FormN a b c:=⟨h.pos,h.bar,h.sa.up _ (by decide),h.sb.up _ (by decide),h.sc.up _ (by decide)⟩
structure Leads(a b c p q r s a' b' c':Int): Prop where
 det:p*s-q*r=1
 e1:a'=MT.Wo a b c p r
 e2:b'=2*a*p*q+b*(p*s+q*r)+2*c*r*s
 e3:c'=MT.Wo a b c q s
theorem Leads.bar{a b c p q r s a' b' c':Int}(h:Leads a b c p q r s a' b' c'): b'*b'-4*a'*c'=b*b-4*a*c:=by
 rw[h.e1,h.e2,h.e3]
 have:=h.det
 unfold MT.Wo
 grind
theorem Leads.trans{a b c p q r s a' b' c' x y z v a2 b2 c2:Int}(h:Leads a b c p q r s a' b' c')(g:Leads a' b' c' x y z v a2 b2 c2): Leads a b c (p*x+q*z) (p*y+q*v) (r*x+s*z) (r*y+s*v) a2 b2 c2:=by
 have d1:=h.det
 have d2:=g.det
 refine⟨by grind,?_,?_,?_⟩
 ·rw[g.e1,h.e1,h.e2,h.e3];unfold MT.Wo;grind
 ·rw[g.e2,h.e1,h.e2,h.e3];unfold MT.Wo;grind
 ·rw[g.e3,h.e1,h.e2,h.e3];unfold MT.Wo;grind
theorem uB{a b c x y v:Int}{n k:Nat}(ha:0<a)(hd:b*b-4*a*c<0)(sa:Bd a 3000)(sb:Bd b 3000)(sv:Bd v n)(e:v=MT.Wo a b c x y)(hk:3003+n≤k+k): Bd y k∧Bd x (3002+k):=by
 obtain⟨h1,h2⟩:=MT.turn_small ha hd e
 have s4:Bd (4*(a*v)) (k+k):=Bd.mul bd_4 (Bd.mul sa sv (3000+n) (Nat.le_refl _)) _ (by omega)
 have by':Bd y k:=Bd.sqrt h1 s4
 have bz:Bd (2*a*x+b*y) k:=Bd.sqrt h2 s4
 refine⟨by',Bd.factor ha ?_⟩
 have e2:2*a*x=(2*a*x+b*y)-b*y:=by omega
 rw[e2]
 exact Bd.sub bz (Bd.mul sb by' (3000+k) (Nat.le_refl _)) _ (by omega)
def pM(ds:List D): Prop:=∃a b c:Int,ds=[ar a b c]∧FormS a b c
def eW(ds:List D)(d:D): Prop:=∀a b c:Int,ds=[ar a b c]→∃a' b' c' p q r s:Int,d = .tup [ar a' b' c',dj p q r s]∧MT.Least a' b' c'∧FormS a' b' c'∧TurnN p q r s∧Leads a b c p q r s a' b' c'
theorem vd{a b c:Int}(ha:0<a)(L:MT.Least a b c)(hd:b*b-4*a*c<0)(sd:Bd (b*b-4*a*c) 1200): FormS a b c:=by
 obtain⟨h1,h2,h3⟩:=MT.least_small ha L
 have ac:=L.ac
 have up:∀ {z:Int},z.natAbs≤(b*b-4*a*c).natAbs→Bd z 3000:=λh=>(sd.le h).up _ (by decide)
 exact⟨ha,hd,up (by omega),up (by omega),up (by omega),sd⟩
theorem wF{d e:D}(h1:Fz d)(h2:Fz e): Fz (.tup [d,e]):=.tup λx hx=>by
 simp only[List.mem_cons,List.not_mem_nil,or_false]at hx
 rcases hx with rfl|rfl
 ·exact h1
 ·exact h2
theorem wG{ds:List D}{d:D}{a b c:Int}(hd:ds=[ar a b c])(h:eW ds d): Fz d:=by
 obtain⟨a',b',c',p,q,r,s,rfl,_⟩:=h a b c hd
 exact wF (xX _ _ _) (cR [_,_,_,_])
def zX(ρ:Ro)(i:Nat): Nat:=match ρ[i]? with
 | some (some (.tup [.int x,.int y,.int z]))=>MT.meas x y z
 | _=>0
theorem Leads.turn{a b c p q r s x y z:Int}(h:Leads a b c p q r s x y z)(f:FormS a b c)(g:FormS x y z): TurnN p q r s:=by
 obtain⟨h1,h2⟩:=uB (k:=3002) f.pos f.bar f.sa f.sb g.sa h.e1 (by decide)
 obtain⟨h3,h4⟩:=uB (k:=3002) f.pos f.bar f.sa f.sb g.sc h.e3 (by decide)
 exact⟨h.det,h2.up _ (by decide),h4.up _ (by decide),h1.up _ (by decide),h3.up _ (by decide)⟩
theorem qz{z w:Int}{k:Nat}(hz:0<z)(h:4*z≤w)(hw:Bd w (k+1)): Bd z k:=by
 refine .of_lt ?_
 have h1:=intBits_le_iff.mp hw.lt
 rw[Nat.pow_succ]at h1
 generalize 2^k=m at *
 omega
theorem vK{x y z:Int}(f:FormS x y z): ∃y' z':Int,y'=y+2*x*((x-y)/(2*x))∧-x<y'∧y'≤x∧Leads x y z 1 ((x-y)/(2*x)) 0 1 x y' z'∧FormS x y' z':=by
 have hx:=f.pos
 generalize hk:(x-y)/(2*x)=k
 have h1:(x-y)=2*x*k+(x-y)%(2*x):=by rw[← hk];exact(Int.mul_ediv_add_emod (x-y) (2*x)).symm
 have h2:=Int.emod_nonneg (x-y) (show 2*x≠0 by omega)
 have h3:=Int.emod_lt_of_pos (x-y) (show 0<2*x by omega)
 have lo:-x<y+2*x*k:=by omega
 have hi:y+2*x*k≤x:=by omega
 have L:Leads x y z 1 k 0 1 x (y+2*x*k) (x*k*k+y*k+z):=by
  refine⟨by omega,?_,?_,?_⟩<;>(try unfold MT.Wo)<;>grind
 have bar:=L.bar
 refine⟨_,_,rfl,lo,hi,L,hx,by rw[bar];exact f.bar,f.sa,f.sa.le (by omega),?_,by rw[bar];exact f.sd⟩
 obtain⟨z0,z1⟩:=MT.z_small hx (by omega) hi (by rw[bar];exact f.bar)
 rw[bar]at z1
 exact qz z0 z1 (Bd.sub f.sa (f.sd.up 3000 (by decide)) _ (by decide))
theorem xa{x y z:Int}(f:FormS x y z)(hz:0<z): Leads x y z 0 (-1) 1 0 z (-y) x∧FormS z (-y) x:=by
 have L:Leads x y z 0 (-1) 1 0 z (-y) x:=by
  refine⟨by omega,?_,?_,?_⟩<;>(try unfold MT.Wo)<;>grind
 have bar:=L.bar
 exact⟨L,hz,by rw[bar];exact f.bar,f.sc,⟨intBits_neg_le f.sb.lt⟩,f.sa,by rw[bar];exact f.sd⟩
theorem FormS.zpos{x y z:Int}(f:FormS x y z): 0<z:=by
 have h1:=f.pos
 have h2:=f.bar
 by_cases hz:0<z
 ·exact hz
 ·have:=MT.mul_nn (Int.le_of_lt h1) (show 0≤-z by omega)
  have:=MT.sq_nonneg y
  grind
theorem u3{d e f:D}(h1:Fz d)(h2:Fz e)(h3:Fz f): Fz (.tup [d,e,f]):=.tup λx hx=>by
 simp only[List.mem_cons,List.not_mem_nil,or_false]at hx
 rcases hx with rfl|rfl|rfl
 ·exact h1
 ·exact h2
 ·exact h3
end CM
namespace CM
open PySem PySem.Spec L2 FL FT
end CM
namespace CM
open PySem PySem.Spec L2 FL FT
end CM
namespace CM
open PySem PySem.Spec L2 FL FT
def isL:Option D→Bool
 | some (.lst _ _)=>true
 | _=>false
theorem dU{ρ:Ro}{n:Nat}(h:(ρ.set n none).any isL=false){l:Addr}: ∀(j:Nat) (es:List D),j≠n→ρ[j]?≠some (some (.lst l es)):=λj es hj e=>by
 have:(ρ.set n none)[j]?=some (some (.lst l es)):=by rw[List.getElem?_set_ne (λz=>hj z.symm)];exact e
 have m:=List.mem_of_getElem? this
 rw[List.any_eq_false]at h
 exact absurd rfl (h _ m)
end CM
namespace CM
open PySem PySem.Spec L2 FL FT
end CM
namespace CM
open PySem PySem.Spec L2 FL FT
end CM
namespace CM
open PySem PySem.Spec L2 FL FT
def mQ(ds:List D)(d:D): Prop:=∃a b c k:Int,ds=[ar a b c,.int k]∧Bd a 8000∧Bd b 8000∧Bd k 8000∧d=ar a (b+2*a*k) (c+k*(b+a*k))
def ip(ds:List D)(d:D): Prop:=∃p q r s k:Int,ds=[.kt [.int p,.int q,.int r,.int s],.int k]∧Bd p 8000∧Bd r 8000∧Bd k 8000∧d=dj p (q+p*k) r (s+r*k)
def mR(ds:List D)(d:D): Prop:=∃a b c:Int,ds=[ar a b c]∧d=ar c (-b) a
def iq(ds:List D)(d:D): Prop:=∃p q r s:Int,ds=[dj p q r s]∧d=dj q (-p) s (-r)
def fe(ds:List D)(d:D): Prop:=∃a b c:Int,ds=[ar a b c]∧0<a∧Bd a 8000∧d = .int ((a-b)/(2*a))
theorem Leads.stepK{a b c p q r s x y z:Int}(h:Leads a b c p q r s x y z)(k:Int): Leads a b c p (q+p*k) r (s+r*k) x (y+2*x*k) (z+k*(y+x*k)):=by
 have d:=h.det
 refine⟨by grind,h.e1,?_,?_⟩
 ·rw[h.e2,h.e1];unfold MT.Wo;grind
 ·rw[h.e3,h.e2,h.e1];unfold MT.Wo;grind
theorem Leads.swapK{a b c p q r s x y z:Int}(h:Leads a b c p q r s x y z): Leads a b c q (-p) s (-r) z (-y) x:=by
 have d:=h.det
 refine⟨by grind,h.e3,?_,?_⟩
 ·rw[h.e2];grind
 ·rw[h.e1];unfold MT.Wo;grind
theorem sK{x y z:Int}(f:FormS x y z): -x<y+2*x*((x-y)/(2*x))∧y+2*x*((x-y)/(2*x))≤x∧FormS x (y+2*x*((x-y)/(2*x))) (z+((x-y)/(2*x))*(y+x*((x-y)/(2*x))))∧Bd ((x-y)/(2*x)) 7000:=by
 obtain⟨y',z',ey,lo,hi,L,g⟩:=vK f
 have t:=L.turn f g
 generalize (x-y)/(2*x)=k at *
 have ez:z'=z+k*(y+x*k):=by rw[L.e3];unfold MT.Wo;grind
 subst ey ez
 exact⟨lo,hi,g,t.sq⟩
def hJ(x y:Int): Nat:=(2*x+if y<0 then 1 else 0).toNat
def ze(ρ:Ro)(i:Nat): Nat:=match ρ[i]? with
 | some (some (.tup [.int x,.int y,.int _]))=>hJ x y
 | _=>0
theorem ve{x y z:Int}(hz:0<z)(hlo:-x<y)(hk:z<x∨x=z∧y<0): hJ z (-y+2*z*((z - -y)/(2*z)))<hJ x y:=by
 unfold hJ
 rcases hk with h|⟨rfl,h⟩
 ·generalize -y+2*z*((z - -y)/(2*z))=w
  have h1:(if w<0 then(1:Int)else 0)≤1:=by split<;>omega
  have h2:(0:Int)≤if y<0 then(1:Int)else 0:=by split<;>omega
  omega
 ·have e:(x - -y)/(2*x)=0:=Int.ediv_eq_zero_of_lt (by omega) (by omega)
  rw[e,if_pos h,if_neg (by omega)]
  omega
theorem TurnN.back{p q r s:Int}(h:TurnN p q r s): TurnN s (-q) (-r) p:=
 ⟨by have:=h.det;grind,h.ss,⟨intBits_neg_le h.sq.lt⟩,⟨intBits_neg_le h.sr.lt⟩,h.sp⟩
end CM
namespace CM
open PySem PySem.Spec L2 FL FT
end CM
namespace CM
open PySem PySem.Spec L2 FL FT
theorem kL{x y z:Int}(hx:0<x)(hd:y*y-4*x*z<0): 0<z:=by
 refine Int.not_le.mp λh=> ?_
 have h1:=Int.mul_nonpos_of_nonneg_of_nonpos (show 0≤4*x by omega) h
 have h2:=MT.sq_nonneg y
 omega
theorem mK:∀(n:Nat) (a b c:Int),a.toNat≤n→0<a→b*b-4*a*c<0→∃p q r s x y z:Int,Leads a b c p q r s x y z∧MT.Least x y z∧0<x:=by
 intro n
 induction n with
 | zero=>intro a b c h ha;omega
 | succ n ih=>
  intro a b c hn ha hd
  have L0:Leads a b c 1 0 0 1 a b c:=by
   refine⟨by omega,?_,?_,?_⟩<;>(try unfold MT.Wo)<;>grind
  have L1:=L0.stepK ((a-b)/(2*a))
  have h1:(a-b)=2*a*((a-b)/(2*a))+(a-b)%(2*a):=(Int.mul_ediv_add_emod (a-b) (2*a)).symm
  have h2:=Int.emod_nonneg (a-b) (show 2*a≠0 by omega)
  have h3:=Int.emod_lt_of_pos (a-b) (show 0<2*a by omega)
  generalize (a-b)/(2*a)=k at *
  have lo:-a<b+2*a*k:=by omega
  have hi:b+2*a*k≤a:=by omega
  have bar:=L1.bar
  generalize b+2*a*k=y at *
  generalize c+k*(b+a*k)=z at *
  have hd':y*y-4*a*z<0:=by omega
  have z0:=kL ha hd'
  by_cases h:a<z∨(a=z∧0≤y)
  ·exact⟨_,_,_,_,a,y,z,L1,⟨lo,hi,by omega,λe=>by omega⟩,ha⟩
  ·have L2:=L1.swapK
   by_cases e:a=z
   ·exact⟨_,_,_,_,z,-y,a,L2,⟨by omega,by omega,by omega,λ_=>by omega⟩,z0⟩
   ·have hd2:-y * -y-4*z*a<0:=by
     have:-y * -y-4*z*a=y*y-4*a*z:=by grind
     omega
    obtain⟨p,q,r,s,x',y',z',l,L,px⟩:=ih z (-y) a (by omega) z0 hd2
    exact⟨_,_,_,_,x',y',z',L2.trans l,L,px⟩
end CM
namespace ME
theorem u4(a b t:Int): Int.gcd b (a-t*b)=Int.gcd a b:=by
 refine Nat.dvd_antisymm (Int.dvd_gcd ?_ ?_) (Int.dvd_gcd ?_ ?_)
 ·have h1:=Int.gcd_dvd_left b (a-t*b)
  have h2:=Int.gcd_dvd_right b (a-t*b)
  have:=Int.dvd_add h2 (Int.dvd_mul_of_dvd_right h1 (b:=t))
  have e:a-t*b+t*b=a:=by omega
  rwa [e]at this
 ·exact Int.gcd_dvd_left _ _
 ·exact Int.gcd_dvd_right _ _
 ·exact Int.dvd_sub (Int.gcd_dvd_left a b) (Int.dvd_mul_of_dvd_right (Int.gcd_dvd_right a b))
theorem zV(n m:Nat): ∃x y:Int,x*n+y*m=(Nat.gcd n m:Nat):=by
 induction n,m using Nat.gcd.induction with
 | H0 n=>exact⟨0,1,by simp⟩
 | H1 m n hm ih=>
  obtain⟨x,y,h⟩:=ih
  refine⟨y-x*(n/m:Nat),x,?_⟩
  rw[Nat.gcd_rec,← h]
  have e:=Nat.div_add_mod n m
  have e':(n:Int)=(m:Int)*(n/m:Nat)+(n%m:Nat):=by exact_mod_cast e.symm
  generalize ((n/m:Nat):Int)=q at *
  generalize ((n%m:Nat):Int)=r at *
  rw[e']
  grind
theorem bez(a b:Int): ∃x y:Int,x*a+y*b=(Int.gcd a b:Nat):=by
 obtain⟨x,y,h⟩:=zV a.natAbs b.natAbs
 have e:(Int.gcd a b:Nat)=Nat.gcd a.natAbs b.natAbs:=rfl
 rw[e,← h]
 rcases Int.natAbs_eq a with ha|ha<;>rcases Int.natAbs_eq b with hb|hb
 ·exact⟨x,y,by rw[← ha,← hb]⟩
 ·refine⟨x,-y,?_⟩
  have:((b.natAbs:Nat):Int) = -b:=by omega
  rw[this,← ha]
  grind
 ·refine⟨-x,y,?_⟩
  have:((a.natAbs:Nat):Int) = -a:=by omega
  rw[this,← hb]
  grind
 ·refine⟨-x,-y,?_⟩
  have h1:((a.natAbs:Nat):Int) = -a:=by omega
  have h2:((b.natAbs:Nat):Int) = -b:=by omega
  rw[h1,h2]
  grind
theorem uo{x y:Int}(h:x*y≤0): x.natAbs≤(x-y).natAbs:=by
 have h1:¬(0<x∧0<y):=λ⟨p,q⟩=>by have:=Int.mul_pos p q;omega
 have h2:¬(x<0∧y<0):=λ⟨p,q⟩=>by have:=Int.mul_pos_of_neg_of_neg p q;omega
 omega
theorem fmod_facts{a b:Int}(hb:b≠0): (a-a.fdiv b*b).natAbs<b.natAbs∧0≤b*(a-a.fdiv b*b):=by
 have e:a-a.fdiv b*b=a.fmod b:=by
  have:=Int.fmod_def a b
  rw[this,Int.mul_comm]
 rw[e]
 rcases Int.lt_or_gt_of_ne hb with h|h
 ·have h1:=Int.fmod_eq_emod (a:=a) (b:=b)
  have h2:=Int.emod_nonneg a hb
  have h3:a%b < -b:=by
   have:=Int.emod_lt_of_pos a (show 0 < -b by omega)
   rwa [Int.emod_neg]at this
  by_cases hd:b ∣ a
  ·rw[if_pos (.inr hd)]at h1
   have:a%b=0:=Int.emod_eq_zero_of_dvd hd
   rw[h1,this]
   simp
   omega
  ·rw[if_neg (by
    intro z
    rcases z with z|z
    ·omega
    ·exact hd z)]at h1
   have hne:a%b≠0:=λz=>hd (Int.dvd_of_emod_eq_zero z)
   have k1:a.fmod b≤0:=by omega
   refine⟨by omega,?_⟩
   exact Int.mul_nonneg_of_nonpos_of_nonpos (by omega) k1
 ·have h1:=Int.fmod_nonneg_of_pos a h
  have h2:=Int.fmod_lt_of_pos a h
  exact⟨by omega,Int.mul_nonneg (by omega) h1⟩
theorem nR{a b:Int}(hb:b≠0)(h:0≤a*b): 0≤a.fdiv b:=by
 obtain⟨h1,h2⟩:=fmod_facts (a:=a) hb
 refine Int.not_lt.mp λz=> ?_
 generalize a.fdiv b=t at *
 rcases Int.lt_or_gt_of_ne hb with hn|hp
 ·have ha:a≤0:=by
   refine Int.not_lt.mp λw=> ?_
   have:=Int.mul_neg_of_pos_of_neg w hn
   omega
  have:b*(t+1)≥0:=Int.mul_nonneg_of_nonpos_of_nonpos (by omega) (by omega)
  grind
 ·have ha:0≤a:=by
   refine Int.not_lt.mp λw=> ?_
   have:=Int.mul_neg_of_neg_of_pos w hp
   omega
  have:b*(-(t+1))≥0:=Int.mul_nonneg (by omega) (by omega)
  grind
structure EG(one other dv sh rs rsh:Int): Prop where
 lin:∃V W:Int,dv=sh*one+V*other∧rs=rsh*one+W*other
 gcd:Int.gcd dv rs=Int.gcd one other
 ph:(dv=one∧sh=1∧rs=other∧rsh=0)∨(0≤dv*rs∧sh*rsh≤0∧dv≠0∧(dv*rsh-rs*sh).natAbs=other.natAbs∧dv.natAbs≤other.natAbs∧rs.natAbs≤other.natAbs)
 b1:sh.natAbs≤other.natAbs+1
 b2:rsh.natAbs≤other.natAbs+1
theorem EG.start(one other:Int): EG one other one 1 other 0:=⟨⟨0,1,by omega,by omega⟩,rfl,.inl ⟨rfl,rfl,rfl,rfl⟩,by omega,by omega⟩
theorem EG.step{one other dv sh rs rsh:Int}(h:EG one other dv sh rs rsh)(hr:rs≠0): EG one other rs rsh (dv-dv.fdiv rs*rs) (sh-dv.fdiv rs*rsh)∧(dv-dv.fdiv rs*rs).natAbs<rs.natAbs:=by
 obtain⟨lt,sg⟩:=fmod_facts (a:=dv) hr
 refine⟨?_,lt⟩
 obtain⟨⟨V,W,e1,e2⟩,g,ph,b1,b2⟩:=h
 have lin:∃V' W':Int,rs=rsh*one+V'*other∧dv-dv.fdiv rs*rs=(sh-dv.fdiv rs*rsh)*one+W'*other:=by
  generalize dv.fdiv rs=t at *
  exact⟨W,V-t*W,e2,by rw[e1,e2];grind⟩
 have gg:=(u4 dv rs (dv.fdiv rs)).trans g
 rcases ph with⟨rfl,rfl,rfl,rfl⟩|⟨p1,p2,p3,p4,p5,p6⟩
 ·refine⟨lin,gg,.inr ⟨sg,by omega,hr,?_,by omega,by omega⟩,by omega,by omega⟩
  generalize dv.fdiv rs=t at *
  have:rs*(1-t*0)-(dv-t*rs)*0=rs:=by grind
  rw[this]
 ·have t0:=nR hr p1
  generalize dv.fdiv rs=t at *
  have q2:rsh*(sh-t*rsh)≤0:=by
   have k:0≤t*(rsh*rsh):=Int.mul_nonneg t0 (by
    rcases Int.le_total 0 rsh with z|z
    ·exact Int.mul_nonneg z z
    ·exact Int.mul_nonneg_of_nonpos_of_nonpos z z)
   grind
  have q4:(rs*(sh-t*rsh)-(dv-t*rs)*rsh).natAbs=other.natAbs:=by
   have:rs*(sh-t*rsh)-(dv-t*rs)*rsh = -(dv*rsh-rs*sh):=by grind
   rw[this,Int.natAbs_neg,p4]
  refine⟨lin,gg,.inr ⟨sg,q2,hr,q4,p6,by omega⟩,b2,?_⟩
  have k1:(rs*(sh-t*rsh))*((dv-t*rs)*rsh)≤0:=by
   have e:(rs*(sh-t*rsh))*((dv-t*rs)*rsh)=(rs*(dv-t*rs))*(rsh*(sh-t*rsh)):=by grind
   rw[e]
   have:=Int.mul_nonneg sg (show 0≤-(rsh*(sh-t*rsh))by omega)
   grind
  have k2:=uo k1
  rw[q4,Int.natAbs_mul]at k2
  have k3:(sh-t*rsh).natAbs≤rs.natAbs*(sh-t*rsh).natAbs:=Nat.le_mul_of_pos_left _ (by omega)
  omega
theorem EG.fin{one other dv sh:Int}{rsh:Int}(h:EG one other dv sh 0 rsh): ∃V:Int,dv=sh*one+V*other∧dv.natAbs=Int.gcd one other:=by
 obtain⟨V,W,e1,_⟩:=h.lin
 refine⟨V,e1,?_⟩
 rw[← h.gcd]
 simp
end ME
namespace MJ
abbrev W(a b c x y:Int): Int:=a*x*x+b*x*y+c*y*y
abbrev S(R0 R1 R2 R3 x y u v:Int): Int:=R0*x*u+R1*x*v+R2*y*u+R3*y*v
structure Comp(a b c d e f A B C X0 X1 X2 X3 Y0 Y1 Y2 Y3:Int): Prop where
 prod:∀x y u v:Int,W a b c x y*W d e f u v=W A B C (S X0 X1 X2 X3 x y u v) (S Y0 Y1 Y2 Y3 x y u v)
 m01:X0*Y1-X1*Y0=a
 m02:X0*Y2-X2*Y0=d
structure Pre(a b c d e f g a' d' h' m C s t z:Int): Prop where
 ea:a=g*a'
 ed:d=g*d'
 eb:b=m-2*a'*s
 ee:e=m-2*d'*t
 eh:m-a'*s-d'*t=g*h'
 ec:g*c=a'*s*s-s*m+d'*C
 ef:g*f=d'*t*t-t*m+a'*C
 ez:s*t-C=g*z
theorem aW{g x y:Int}(hg:g≠0)(h:g*x=g*y): x=y:=Int.eq_of_mul_eq_mul_left hg h
theorem wk{a b c d e f g a' d' h' m C s t z:Int}(hg:g≠0)(p:Pre a b c d e f g a' d' h' m C s t z):
  Comp a b c d e f (a'*d') m C g (-t) (-s) z 0 a' d' h':=by
 obtain⟨rfl,rfl,rfl,rfl,eh,ec,ef,ez⟩:=p
 have k1:g*a'*f=a'*(d'*t*t-t*m+a'*C):=by rw[← ef];grind
 have k2:g*d'*c=d'*(a'*s*s-s*m+d'*C):=by rw[← ec];grind
 have k3:(m-2*a'*s)*f = -2*a'*d'*t*z+m*(-t*h'+z*a')+2*C*a'*h':=by
  refine aW hg ?_
  have e1:g*((m-2*a'*s)*f)=(m-2*a'*s)*(g*f):=by grind
  have e2:g*(-2*a'*d'*t*z+m*(-t*h'+z*a')+2*C*a'*h') = -2*a'*d'*t*(g*z)+m*(-t*(g*h')+(g*z)*a')+2*C*a'*(g*h'):=by grind
  rw[e1,e2,ef,← ez,← eh]
  grind
 have k4:c*(m-2*d'*t) = -2*a'*d'*s*z+m*(-s*h'+z*d')+2*C*d'*h':=by
  refine aW hg ?_
  have e1:g*(c*(m-2*d'*t))=(m-2*d'*t)*(g*c):=by grind
  have e2:g*(-2*a'*d'*s*z+m*(-s*h'+z*d')+2*C*d'*h') = -2*a'*d'*s*(g*z)+m*(-s*(g*h')+(g*z)*d')+2*C*d'*(g*h'):=by grind
  rw[e1,e2,ec,← ez,← eh]
  grind
 have k5:c*f=a'*d'*z*z+m*z*h'+C*h'*h':=by
  refine aW hg (aW hg ?_)
  have e1:g*(g*(c*f))=(g*c)*(g*f):=by grind
  have e2:g*(g*(a'*d'*z*z+m*z*h'+C*h'*h'))=a'*d'*(g*z)*(g*z)+m*(g*z)*(g*h')+C*(g*h')*(g*h'):=by grind
  rw[e1,e2,ec,ef,← ez,← eh]
  grind
 have k6:(m-2*a'*s)*(m-2*d'*t)=2*a'*d'*(g*z+s*t)+m*(g*h'-t*d'-s*a')+2*C*a'*d':=by
  rw[← ez,← eh]
  grind
 refine⟨λx y u v=> ?_,by grind,by grind⟩
 unfold W S
 have l:(g*a'*x*x+(m-2*a'*s)*x*y+c*y*y)*(g*d'*u*u+(m-2*d'*t)*u*v+f*v*v)
   = (g*a')*(g*d')*(x*x*u*u)+(g*a')*(m-2*d'*t)*(x*x*u*v)+(g*a'*f)*(x*x*v*v)+(m-2*a'*s)*(g*d')*(x*y*u*u)+((m-2*a'*s)*(m-2*d'*t))*(x*y*u*v)+((m-2*a'*s)*f)*(x*y*v*v)
    + (g*d'*c)*(y*y*u*u)+(c*(m-2*d'*t))*(y*y*u*v)+(c*f)*(y*y*v*v):=by grind
 rw[l,k1,k2,k3,k4,k5,k6]
 grind
theorem yk{a b c d e f g a' d' h' u v w k:Int}(hg:g≠0)(ea:a=g*a')(ed:d=g*d')(eh:b+e=2*(g*h'))(hD:b*b-4*a*c=e*e-4*d*f)(hs:u*a'+v*d'+w*h'=1):
   Pre a b c d e f g a' d' h' (b+2*a'*(u*(g*h'-b)-c*w)-2*a'*d'*k) ((u*(g*h'-b)-c*w-d'*k)*(v*(g*h'-e)-f*w-a'*k)-g*(k*h'-(u*f+v*c)))
    (u*(g*h'-b)-c*w-d'*k) (v*(g*h'-e)-f*w-a'*k) (k*h'-(u*f+v*c))∧
   u*a*e+v*d*b+w*(b*(g*h')-2*a*c)=g*(b+2*a'*(u*(g*h'-b)-c*w)):=by
 subst ea ed
 have ee:e=2*(g*h')-b:=by omega
 subst ee
 have q:g*h'*(g*h'-b)=g*d'*f-g*a'*c:=by grind
 have q':h'*(g*h'-b)=d'*f-a'*c:=by
   refine aW hg ?_
   grind
 have B:b+2*a'*(u*(g*h'-b)-c*w)=2*(g*h')-b+2*d'*(v*(g*h'-(2*(g*h')-b))-f*w):=by
   have z:(g*h'-b)*(u*a'+v*d'+w*h')=g*h'-b:=by rw[hs];grind
   have z2:w*(h'*(g*h'-b))=w*(d'*f-a'*c):=by rw[q']
   grind
 have hc:c = -((u*(g*h'-b)-c*w)*h')+d'*(u*f+v*c):=by
   have z:c*(u*a'+v*d'+w*h')=c:=by rw[hs];grind
   have z2:u*(h'*(g*h'-b))=u*(d'*f-a'*c):=by rw[q']
   grind
 have hf:f = -((v*(g*h'-(2*(g*h')-b))-f*w)*h')+a'*(u*f+v*c):=by
   have z:f*(u*a'+v*d'+w*h')=f:=by rw[hs];grind
   have z2:v*(h'*(g*h'-b))=v*(d'*f-a'*c):=by rw[q']
   grind
 generalize hS:u*(g*h'-b)-c*w=s0 at *
 generalize hT:v*(g*h'-(2*(g*h')-b))-f*w=t0 at *
 generalize hZ:u*f+v*c=z0 at *
 refine⟨⟨rfl,rfl,by grind,by grind,by grind,?_,?_,by grind⟩,?_⟩
 ·
   have e1:(b+2*a'*s0-2*a'*d'*k)-a'*(s0-d'*k)-d'*(t0-a'*k)=g*h':=by grind
   grind
 · have e1:(b+2*a'*s0-2*a'*d'*k)-a'*(s0-d'*k)-d'*(t0-a'*k)=g*h':=by grind
   grind
 · subst hS
   have z:(u*a'+v*d'+w*h')*b=b:=by rw[hs];grind
   grind
theorem sF{a b c d e f g a' d' h' m C s t z:Int}(p:Pre a b c d e f g a' d' h' m C s t z): m*m-(b*b-4*a*c)=4*(a'*d')*C:=by
 obtain⟨rfl,rfl,rfl,rfl,eh,ec,ef,ez⟩:=p
 grind
theorem vC{a b c d e f g a' d' h' m C s t z:Int}(p:Pre a b c d e f g a' d' h' m C s t z): g*(b*e+(b*b-4*a*c)-m*(b+e))=4*a*d*z:=by
 have h:=sF p
 obtain⟨rfl,rfl,rfl,rfl,eh,ec,ef,ez⟩:=p
 grind
structure Minors(a b c d e f X0 X1 X2 X3 Y0 Y1 Y2 Y3:Int): Prop where
 m01:X0*Y1-X1*Y0=a
 m02:X0*Y2-X2*Y0=d
 m03:(X0*Y3-X3*Y0)+(X1*Y2-X2*Y1)=e
 m12:(X0*Y3-X3*Y0)-(X1*Y2-X2*Y1)=b
 m13:X1*Y3-X3*Y1=f
 m23:X2*Y3-X3*Y2=c
theorem zt{d e f E F:Int}(hd:d≠0)(h:∀u v:Int,W d E F u v*W d E F u v=W d e f u v*W d e f u v): E=e∧F=f:=by
 have h1:=h 1 1
 have h2:=h 1 (-1)
 have h3:=h 0 1
 have h4:=h 2 1
 unfold W at h1 h2 h3 h4
 have k1:d*(E-e)=0:=by grind
 have e1:E=e:=by
  rcases Int.mul_eq_zero.mp k1 with z|z
  ·exact absurd z hd
  ·omega
 subst e1
 have k2:d*(F-f)=0:=by grind
 rcases Int.mul_eq_zero.mp k2 with z|z
 ·exact absurd z hd
 ·exact⟨rfl,by omega⟩
theorem Comp.swap{a b c d e f A B C X0 X1 X2 X3 Y0 Y1 Y2 Y3:Int}(h:Comp a b c d e f A B C X0 X1 X2 X3 Y0 Y1 Y2 Y3): Comp d e f a b c A B C X0 X2 X1 X3 Y0 Y2 Y1 Y3:=by
 refine⟨λx y u v=> ?_,h.m02,h.m01⟩
 have e1:S X0 X2 X1 X3 x y u v=S X0 X1 X2 X3 u v x y:=by unfold S;grind
 have e2:S Y0 Y2 Y1 Y3 x y u v=S Y0 Y1 Y2 Y3 u v x y:=by unfold S;grind
 rw[e1,e2,← h.prod,Int.mul_comm]
theorem Comp.half{a b c d e f A B C X0 X1 X2 X3 Y0 Y1 Y2 Y3:Int}(h:Comp a b c d e f A B C X0 X1 X2 X3 Y0 Y1 Y2 Y3)(hd:d≠0)(hD:b*b-4*a*c≠0)(e1:B*B-4*A*C=b*b-4*a*c):
  (X0*Y3-X3*Y0)+(X1*Y2-X2*Y1)=e∧X1*Y3-X3*Y1=f:=by
 refine zt (d:=d) hd λu v=> ?_
 have p1:=h.prod 1 0 u v
 have p2:=h.prod 0 1 u v
 have p3:=h.prod 1 1 u v
 generalize hg:W d e f u v=g at *
 have hm:W d (X0*Y3-X3*Y0+(X1*Y2-X2*Y1)) (X1*Y3-X3*Y1) u v=(X0*u+X1*v)*(Y2*u+Y3*v)-(X2*u+X3*v)*(Y0*u+Y1*v):=by
  unfold W
  rw[← h.m02]
  grind
 rw[hm]
 have a1:S X0 X1 X2 X3 1 0 u v=X0*u+X1*v:=by unfold S;grind
 have a2:S Y0 Y1 Y2 Y3 1 0 u v=Y0*u+Y1*v:=by unfold S;grind
 have a3:S X0 X1 X2 X3 0 1 u v=X2*u+X3*v:=by unfold S;grind
 have a4:S Y0 Y1 Y2 Y3 0 1 u v=Y2*u+Y3*v:=by unfold S;grind
 have a5:S X0 X1 X2 X3 1 1 u v=(X0*u+X1*v)+(X2*u+X3*v):=by unfold S;grind
 have a6:S Y0 Y1 Y2 Y3 1 1 u v=(Y0*u+Y1*v)+(Y2*u+Y3*v):=by unfold S;grind
 rw[a1,a2]at p1
 rw[a3,a4]at p2
 rw[a5,a6]at p3
 generalize X0*u+X1*v=P at *
 generalize X2*u+X3*v=Q at *
 generalize Y0*u+Y1*v=R at *
 generalize Y2*u+Y3*v=T at *
 refine aW hD ?_
 have f1:a*g=W A B C P R:=by rw[← p1];unfold W;grind
 have f2:c*g=W A B C Q T:=by rw[← p2];unfold W;grind
 have f3:b*g=2*A*P*Q+B*(P*T+Q*R)+2*C*R*T:=by
  have:(a+b+c)*g=W A B C (P+Q) (R+T):=by rw[← p3];unfold W;grind
  unfold W at *
  grind
 have f4:(b*b-4*a*c)*(g*g)=(b*g)*(b*g)-4*(a*g)*(c*g):=by grind
 rw[f4,f1,f2,f3,← e1]
 unfold W
 grind
theorem Comp.minors{a b c d e f A B C X0 X1 X2 X3 Y0 Y1 Y2 Y3:Int}(h:Comp a b c d e f A B C X0 X1 X2 X3 Y0 Y1 Y2 Y3)(ha:a≠0)(hd:d≠0)(hD:b*b-4*a*c≠0)(hE:e*e-4*d*f=b*b-4*a*c)(e1:B*B-4*A*C=b*b-4*a*c):
  Minors a b c d e f X0 X1 X2 X3 Y0 Y1 Y2 Y3:=by
 obtain⟨h1,h2⟩:=h.half hd hD e1
 obtain⟨h3,h4⟩:=h.swap.half ha (by rw[hE];exact hD) (by rw[hE];exact e1)
 exact⟨h.m01,h.m02,h1,by rw[← h3];grind,h2,h4⟩
structure Led(a b c p q r s a' b' c':Int): Prop where
 det:p*s-q*r=1
 e1:a'=W a b c p r
 e2:b'=2*a*p*q+b*(p*s+q*r)+2*c*r*s
 e3:c'=W a b c q s
theorem Led.at{a b c p q r s a' b' c':Int}(h:Led a b c p q r s a' b' c')(x y:Int): W a' b' c' x y=W a b c (p*x+q*y) (r*x+s*y):=by
 rw[h.e1,h.e2,h.e3]
 unfold W
 grind
theorem Comp.pull{a b c d e f A B C X0 X1 X2 X3 Y0 Y1 Y2 Y3 p q r s a' b' c':Int}(h:Comp a b c d e f A B C X0 X1 X2 X3 Y0 Y1 Y2 Y3)(m:Minors a b c d e f X0 X1 X2 X3 Y0 Y1 Y2 Y3)(l:Led a b c p q r s a' b' c'):
  Comp a' b' c' d e f A B C (X0*p+X2*r) (X1*p+X3*r) (X0*q+X2*s) (X1*q+X3*s) (Y0*p+Y2*r) (Y1*p+Y3*r) (Y0*q+Y2*s) (Y1*q+Y3*s):=by
 refine⟨λx y u v=> ?_,?_,?_⟩
 ·rw[l.at,h.prod]
  have e1:S X0 X1 X2 X3 (p*x+q*y) (r*x+s*y) u v=S (X0*p+X2*r) (X1*p+X3*r) (X0*q+X2*s) (X1*q+X3*s) x y u v:=by unfold S;grind
  have e2:S Y0 Y1 Y2 Y3 (p*x+q*y) (r*x+s*y) u v=S (Y0*p+Y2*r) (Y1*p+Y3*r) (Y0*q+Y2*s) (Y1*q+Y3*s) x y u v:=by unfold S;grind
  rw[e1,e2]
 ·rw[l.e1,← m.m01,← m.m12,← m.m23]
  unfold W
  grind
 ·have d:=l.det
  rw[← m.m02]
  grind
theorem Comp.target{a b c d e f A B C X0 X1 X2 X3 Y0 Y1 Y2 Y3 p q r s A' B' C':Int}(h:Comp a b c d e f A B C X0 X1 X2 X3 Y0 Y1 Y2 Y3)(l:Led A B C p q r s A' B' C'):
  Comp a b c d e f A' B' C' (s*X0 + -q*Y0) (s*X1 + -q*Y1) (s*X2 + -q*Y2) (s*X3 + -q*Y3) (-r*X0+p*Y0) (-r*X1+p*Y1) (-r*X2+p*Y2) (-r*X3+p*Y3):=by
 have d:=l.det
 refine⟨λx y u v=> ?_,?_,?_⟩
 ·rw[l.at,h.prod]
  have e1:p*S (s*X0 + -q*Y0) (s*X1 + -q*Y1) (s*X2 + -q*Y2) (s*X3 + -q*Y3) x y u v+q*S (-r*X0+p*Y0) (-r*X1+p*Y1) (-r*X2+p*Y2) (-r*X3+p*Y3) x y u v=(p*s-q*r)*S X0 X1 X2 X3 x y u v:=by unfold S;grind
  have e2:r*S (s*X0 + -q*Y0) (s*X1 + -q*Y1) (s*X2 + -q*Y2) (s*X3 + -q*Y3) x y u v+s*S (-r*X0+p*Y0) (-r*X1+p*Y1) (-r*X2+p*Y2) (-r*X3+p*Y3) x y u v=(p*s-q*r)*S Y0 Y1 Y2 Y3 x y u v:=by unfold S;grind
  rw[e1,e2,d,Int.one_mul,Int.one_mul]
 ·rw[← h.m01]
  have:(s*X0 + -q*Y0)*(-r*X1+p*Y1)-(s*X1 + -q*Y1)*(-r*X0+p*Y0)=(p*s-q*r)*(X0*Y1-X1*Y0):=by grind
  rw[this,d,Int.one_mul]
 ·rw[← h.m02]
  have:(s*X0 + -q*Y0)*(-r*X2+p*Y2)-(s*X2 + -q*Y2)*(-r*X0+p*Y0)=(p*s-q*r)*(X0*Y2-X2*Y0):=by grind
  rw[this,d,Int.one_mul]
theorem nK{Xi Xj Xk Yi Yj Yk Xi' Xj' Xk' Yi' Yj' Yk':Int}(h1:Xi*Yj-Xj*Yi=Xi'*Yj'-Xj'*Yi')(h2:Xi*Yk-Xk*Yi=Xi'*Yk'-Xk'*Yi')(h3:Xj*Yk-Xk*Yj=Xj'*Yk'-Xk'*Yj'):
  (Xi*Yj-Xj*Yi)*Xk'=(Xi'*Yj-Xj'*Yi)*Xk+(Xi*Xj'-Xj*Xi')*Yk:=by
 have e:(Xi*Yj-Xj*Yi)*Xk'-((Xi'*Yj-Xj'*Yi)*Xk+(Xi*Xj'-Xj*Xi')*Yk)=Xk'*(Xi*Yj-Xj*Yi)-Xj'*(Xi*Yk-Xk*Yi)+Xi'*(Xj*Yk-Xk*Yj):=by grind
 rw[h1,h2,h3]at e
 grind
theorem tI{α β γ X0 Y0 X1 Y1 a:Int}(ha:a≠0)(hm:X0*Y1-X1*Y0=a)(h0:W α β γ X0 Y0=0)(h1:W α β γ X1 Y1=0)(h2:W α β γ (X0+X1) (Y0+Y1)=0): α=0∧β=0∧γ=0:=by
 have hB:2*α*X0*X1+β*(X0*Y1+X1*Y0)+2*γ*Y0*Y1=0:=by
  unfold W at *
  grind
 have key:∀x y:Int,a*a*W α β γ x y=0:=λx y=>by
  have:a*a*W α β γ x y=(x*Y1-y*X1)*(x*Y1-y*X1)*W α β γ X0 Y0+(x*Y1-y*X1)*(y*X0-x*Y0)*(2*α*X0*X1+β*(X0*Y1+X1*Y0)+2*γ*Y0*Y1)+(y*X0-x*Y0)*(y*X0-x*Y0)*W α β γ X1 Y1:=by
   rw[← hm]
   unfold W
   grind
  rw[this,h0,h1,hB]
  grind
 have z:∀x y:Int,W α β γ x y=0:=λx y=>by
  rcases Int.mul_eq_zero.mp (key x y)with q|q
  ·rcases Int.mul_eq_zero.mp q with q|q<;>exact absurd q ha
  ·exact q
 have z1:=z 1 0
 have z2:=z 0 1
 have z3:=z 1 1
 unfold W at z1 z2 z3
 omega
theorem xg{X0 X1 X2 X3 Y0 Y1 Y2 Y3 X0' X1' X2' X3' Y0' Y1' Y2' Y3' Xk Yk Xk' Yk' l1 l2 l3:Int}
  (k01:X0*Y1-X1*Y0=X0'*Y1'-X1'*Y0') (k03:X0*Y3-X3*Y0=X0'*Y3'-X3'*Y0') (k12:X1*Y2-X2*Y1=X1'*Y2'-X2'*Y1') (k23:X2*Y3-X3*Y2=X2'*Y3'-X3'*Y2')
  (g0:X0*Yk-Xk*Y0=X0'*Yk'-Xk'*Y0') (g1:X1*Yk-Xk*Y1=X1'*Yk'-Xk'*Y1') (g2:X2*Yk-Xk*Y2=X2'*Yk'-Xk'*Y2') (g3:X3*Yk-Xk*Y3=X3'*Yk'-Xk'*Y3')
  (one:l1*(X0*Y1-X1*Y0)+l2*(X0*Y3-X3*Y0)-l2*(X1*Y2-X2*Y1)+l3*(X2*Y3-X3*Y2)=1) :
  Xk'=(l1*(X0'*Y1-X1'*Y0)+l2*(X0'*Y3-X3'*Y0)-l2*(X1'*Y2-X2'*Y1)+l3*(X2'*Y3-X3'*Y2))*Xk+(l1*(X0*X1'-X1*X0')+l2*(X0*X3'-X3*X0')-l2*(X1*X2'-X2*X1')+l3*(X2*X3'-X3*X2'))*Yk:=by
 have c1:=nK k01 g0 g1
 have c2:=nK k03 g0 g3
 have c3:=nK k12 g1 g2
 have c4:=nK k23 g2 g3
 have e:Xk'=(l1*(X0*Y1-X1*Y0)+l2*(X0*Y3-X3*Y0)-l2*(X1*Y2-X2*Y1)+l3*(X2*Y3-X3*Y2))*Xk':=by rw[one,Int.one_mul]
 have e2:(l1*(X0*Y1-X1*Y0)+l2*(X0*Y3-X3*Y0)-l2*(X1*Y2-X2*Y1)+l3*(X2*Y3-X3*Y2))*Xk'=l1*((X0*Y1-X1*Y0)*Xk')+l2*((X0*Y3-X3*Y0)*Xk')-l2*((X1*Y2-X2*Y1)*Xk')+l3*((X2*Y3-X3*Y2)*Xk'):=by grind
 rw[e2,c1,c2,c3,c4]at e
 rw[e]
 grind
theorem uC{a b c d e f A B C X0 X1 X2 X3 Y0 Y1 Y2 Y3 A' B' C' X0' X1' X2' X3' Y0' Y1' Y2' Y3' l1 l2 l3:Int}
  (h:Comp a b c d e f A B C X0 X1 X2 X3 Y0 Y1 Y2 Y3) (h':Comp a b c d e f A' B' C' X0' X1' X2' X3' Y0' Y1' Y2' Y3') (m:Minors a b c d e f X0 X1 X2 X3 Y0 Y1 Y2 Y3) (m':Minors a b c d e f X0' X1' X2' X3' Y0' Y1' Y2' Y3')
  (ha:a≠0) (hl:l1*a+l2*b+l3*c=1):∃p q r s:Int,Led A' B' C' p q r s A B C:=by
 obtain⟨m01,m02,m03,m12,m13,m23⟩:=m
 obtain⟨n01,n02,n03,n12,n13,n23⟩:=m'
 have k03:X0*Y3-X3*Y0=X0'*Y3'-X3'*Y0':=by omega
 have k12:X1*Y2-X2*Y1=X1'*Y2'-X2'*Y1':=by omega
 have k01:=m01.trans n01.symm
 have k02:=m02.trans n02.symm
 have k13:=m13.trans n13.symm
 have k23:=m23.trans n23.symm
 have one:l1*(X0*Y1-X1*Y0)+l2*(X0*Y3-X3*Y0)-l2*(X1*Y2-X2*Y1)+l3*(X2*Y3-X3*Y2)=1:=by rw[m01,m23,← hl,← m12];grind
 have x0:=xg (Xk:=X0) (Yk:=Y0) (Xk':=X0') (Yk':=Y0') k01 k03 k12 k23 (by omega) (by omega) (by omega) (by omega) one
 have x1:=xg (Xk:=X1) (Yk:=Y1) (Xk':=X1') (Yk':=Y1') k01 k03 k12 k23 (by omega) (by omega) (by omega) (by omega) one
 have j01:X0*Y1-X1*Y0=Y0' * -X1'-Y1' * -X0':=by rw[k01];grind
 have j03:X0*Y3-X3*Y0=Y0' * -X3'-Y3' * -X0':=by rw[k03];grind
 have j12:X1*Y2-X2*Y1=Y1' * -X2'-Y2' * -X1':=by rw[k12];grind
 have j23:X2*Y3-X3*Y2=Y2' * -X3'-Y3' * -X2':=by rw[k23];grind
 have j02:X0*Y2-X2*Y0=Y0' * -X2'-Y2' * -X0':=by rw[k02];grind
 have j13:X1*Y3-X3*Y1=Y1' * -X3'-Y3' * -X1':=by rw[k13];grind
 have y0:=xg (Xk:=X0) (Yk:=Y0) (Xk':=Y0') (Yk':=-X0') j01 j03 j12 j23 (by omega) (by omega) (by omega) (by omega) one
 have y1:=xg (Xk:=X1) (Yk:=Y1) (Xk':=Y1') (Yk':=-X1') j01 j03 j12 j23 (by omega) (by omega) (by omega) (by omega) one
 generalize l1*(X0'*Y1-X1'*Y0)+l2*(X0'*Y3-X3'*Y0)-l2*(X1'*Y2-X2'*Y1)+l3*(X2'*Y3-X3'*Y2)=p at *
 generalize l1*(X0*X1'-X1*X0')+l2*(X0*X3'-X3*X0')-l2*(X1*X2'-X2*X1')+l3*(X2*X3'-X3*X2')=q at *
 generalize l1*(Y0'*Y1-Y1'*Y0)+l2*(Y0'*Y3-Y3'*Y0)-l2*(Y1'*Y2-Y2'*Y1)+l3*(Y2'*Y3-Y3'*Y2)=r at *
 generalize l1*(X0*Y1'-X1*Y0')+l2*(X0*Y3'-X3*Y0')-l2*(X1*Y2'-X2*Y1')+l3*(X2*Y3'-X3*Y2')=s at *
 have det:p*s-q*r=1:=by
  refine aW ha ?_
  have e1:X0'*Y1'-X1'*Y0'=(p*s-q*r)*(X0*Y1-X1*Y0):=by rw[x0,x1,y0,y1];grind
  rw[n01,m01]at e1
  grind
 have at_:∀u v:Int,W A B C (X0*u+X1*v) (Y0*u+Y1*v)=W A' B' C' (p*(X0*u+X1*v)+q*(Y0*u+Y1*v)) (r*(X0*u+X1*v)+s*(Y0*u+Y1*v)):=λu v=>by
  have p1:=(h.prod 1 0 u v).symm.trans (h'.prod 1 0 u v)
  have a1:S X0 X1 X2 X3 1 0 u v=X0*u+X1*v:=by unfold S;grind
  have a2:S Y0 Y1 Y2 Y3 1 0 u v=Y0*u+Y1*v:=by unfold S;grind
  have a3:S X0' X1' X2' X3' 1 0 u v=p*(X0*u+X1*v)+q*(Y0*u+Y1*v):=by unfold S;rw[x0,x1];grind
  have a4:S Y0' Y1' Y2' Y3' 1 0 u v=r*(X0*u+X1*v)+s*(Y0*u+Y1*v):=by unfold S;rw[y0,y1];grind
  rw[a1,a2,a3,a4]at p1
  exact p1
 have z:∀x y:Int,W (A-W A' B' C' p r) (B-(2*A'*p*q+B'*(p*s+q*r)+2*C'*r*s)) (C-W A' B' C' q s) x y=W A B C x y-W A' B' C' (p*x+q*y) (r*x+s*y):=λx y=>by unfold W;grind
 have z0:=at_ 1 0
 have z1:=at_ 0 1
 have z2:=at_ 1 1
 simp only[Int.mul_one,Int.mul_zero,Int.add_zero,Int.zero_add]at z0 z1 z2
 obtain⟨e1,e2,e3⟩:=tI (α:=A-W A' B' C' p r) (β:=B-(2*A'*p*q+B'*(p*s+q*r)+2*C'*r*s)) (γ:=C-W A' B' C' q s) ha m01 (by rw[z];omega) (by rw[z];omega) (by rw[z];omega)
 exact⟨p,q,r,s,det,by omega,by omega,by omega⟩
theorem uS{b e a c d f:Int}(hD:b*b-4*a*c=e*e-4*d*f): ∃h,b+e=2*h:=by
 rcases Int.emod_two_eq b with h1|h1<;>rcases Int.emod_two_eq e with h2|h2
 ·exact⟨(b+e)/2,by omega⟩
 ·exfalso
  have e1:b=2*(b/2):=by omega
  have e2:e=2*(e/2)+1:=by omega
  generalize b/2=x at *
  generalize e/2=y at *
  subst e1 e2
  have:4*(x*x-a*c-y*y-y+d*f)=1:=by grind
  omega
 ·exfalso
  have e1:b=2*(b/2)+1:=by omega
  have e2:e=2*(e/2):=by omega
  generalize b/2=x at *
  generalize e/2=y at *
  subst e1 e2
  have:4*(y*y-d*f-x*x-x+a*c)=1:=by grind
  omega
 ·exact⟨(b+e)/2,by omega⟩
theorem fE{x y z:Int}(hy:y≠0)(h:x=y*z): x/y=z:=by rw[h];exact Int.mul_ediv_cancel_left z hy
theorem j1{g u v w a' d' h':Int}(hs:g=u*(g*a')+v*(g*d')+w*(g*h')): g*(u*a'+v*d'+w*h')=g*1:=by grind
theorem j2{b e g h':Int}(eh:b+e=2*(g*h')): b+e=2*g*h':=by grind
theorem j3{b e g h' X:Int}(eh:b+e=2*(g*h')): b*e+(b*b-4*X)=2*(b*(g*h')-2*X):=by
 have:e=2*(g*h')-b:=by omega
 rw[this]
 grind
theorem j4{g e m d' t:Int}(h:e=m-2*d'*t): g*(e-m)=2*(g*d') * -t:=by subst h;grind
theorem j5(B a' d' k:Int): B-2*(a'*d')*k=B-2*a'*d'*k:=by grind
theorem joint{a b c d e f g u v w:Int}(ha:0<a)(hd:0<d)(hD:b*b-4*a*c=e*e-4*d*f)(hg:0<g)(ga:g ∣ a)(gd:g ∣ d)(gh:g ∣ (b+e)/2)(hs:g=u*a+v*d+w*((b+e)/2))(m first C:Int)(e1:first=a/g*(d/g))
  (e2:m=(u*a*e+v*d*b+w*((b*e+(b*b-4*a*c))/2))/g%(2*first)) (e3:C=(m*m-(b*b-4*a*c))/(4*first)) :
  0<first∧0≤m∧m<2*first∧m*m-4*first*C=b*b-4*a*c∧
  Comp a b c d e f first m C g (g*(e-m)/(2*d)) (g*(b-m)/(2*a)) (g*(b*e+(b*b-4*a*c)-m*(b+e))/(4*a*d)) 0 (a/g) (d/g) ((b+e)/(2*g)):=by
 obtain⟨h,eh⟩:=uS hD
 have eh2:(b+e)/2=h:=by omega
 rw[eh2]at gh hs
 obtain⟨a',ea⟩:=ga
 obtain⟨d',ed⟩:=gd
 obtain⟨h',ehh⟩:=gh
 have g0:g≠0:=by omega
 have a1:a/g=a':=fE g0 ea
 have d1:d/g=d':=fE g0 ed
 have h1:(b+e)/(2*g)=h':=fE (by omega) (j2 (by rw[eh,ehh]))
 have apos:0<a':=by
  refine Int.not_le.mp λz=> ?_
  have:=Int.mul_nonpos_of_nonneg_of_nonpos (show 0≤g by omega) z
  omega
 have dpos:0<d':=by
  refine Int.not_le.mp λz=> ?_
  have:=Int.mul_nonpos_of_nonneg_of_nonpos (show 0≤g by omega) z
  omega
 have shares:u*a'+v*d'+w*h'=1:=by
  refine aW g0 (j1 ?_)
  rw[← ea,← ed,← ehh]
  exact hs
 rw[a1,d1]at e1
 have fpos:0<first:=by rw[e1];exact Int.mul_pos apos dpos
 have hX:(b*e+(b*b-4*a*c))/2=b*(g*h')-2*a*c:=by
  refine fE (by decide) ?_
  have:=j3 (X:=a*c) (show b+e=2*(g*h')by rw[eh,ehh])
  have r1:4*a*c=4*(a*c):=Int.mul_assoc 4 a c
  have r2:2*a*c=2*(a*c):=Int.mul_assoc 2 a c
  rw[r1,r2]
  exact this
 obtain⟨P,tot⟩:=yk (a:=a) (b:=b) (c:=c) (d:=d) (e:=e) (f:=f) (k:=(b+2*a'*(u*(g*h'-b)-c*w))/(2*first)) g0 ea ed (by rw[eh,ehh]) hD shares
 rw[hX,fE g0 tot]at e2
 have em:m=b+2*a'*(u*(g*h'-b)-c*w)-2*a'*d'*((b+2*a'*(u*(g*h'-b)-c*w))/(2*first)):=by
  rw[e2,Int.emod_def]
  conv=>lhs;arg 2;arg 1;rw[e1]
  exact j5 _ _ _ _
 rw[← em]at P
 generalize (u*(g*h'-b)-c*w-d'*((b+2*a'*(u*(g*h'-b)-c*w))/(2*first)))=s at P
 generalize (v*(g*h'-e)-f*w-a'*((b+2*a'*(u*(g*h'-b)-c*w))/(2*first)))=t at P
 generalize ((b+2*a'*(u*(g*h'-b)-c*w))/(2*first))*h'-(u*f+v*c)=z at P
 have hbar:=sF P
 have eC:C=s*t-g*z:=by
  rw[e3]
  refine fE (by omega) ?_
  rw[e1,hbar]
 have hlast:=vC P
 have x1:g*(e-m)/(2*d) = -t:=fE (by omega) (by rw[ed];exact j4 P.ee)
 have x2:g*(b-m)/(2*a) = -s:=fE (by omega) (by rw[ea];exact j4 P.eb)
 have x3:g*(b*e+(b*b-4*a*c)-m*(b+e))/(4*a*d)=z:=fE (by
  have:=Int.mul_pos (show 0<4*a by omega) hd
  omega) hlast
 rw[x1,x2,x3,a1,d1,h1]
 have cm:=wk g0 P
 rw[← eC,← e1]at cm
 have m0:0≤m:=by rw[e2];exact Int.emod_nonneg _ (by omega)
 have m1:m<2*first:=by rw[e2];exact Int.emod_lt_of_pos _ (by omega)
 refine⟨fpos,m0,m1,?_,cm⟩
 rw[← eC,← e1]at hbar
 omega
theorem qF(a b d k:Int): Comp a b (d*k) d b (a*k) (a*d) b k 1 0 0 (-k) 0 a d b:=by
 refine⟨λx y u v=> ?_,by grind,by grind⟩
 unfold W S
 grind
end MJ
namespace MJ
structure Fm(D a b c:Int): Prop where
 pos:0<a
 bar:b*b-4*a*c=D
def eL(a b c d e f A B C:Int): Prop:=∃X0 X1 X2 X3 Y0 Y1 Y2 Y3:Int,Comp a b c d e f A B C X0 X1 X2 X3 Y0 Y1 Y2 Y3
theorem eL.swap{a b c d e f A B C:Int}(h:eL a b c d e f A B C): eL d e f a b c A B C:=by
 obtain⟨X0,X1,X2,X3,Y0,Y1,Y2,Y3,h⟩:=h
 exact⟨_,_,_,_,_,_,_,_,h.swap⟩
theorem eL.pull{D a b c d e f A B C p q r s a' b' c':Int}(hD:D<0)(h:eL a b c d e f A B C)(f1:Fm D a b c)(f2:Fm D d e f)(f3:Fm D A B C)(l:Led a b c p q r s a' b' c'): eL a' b' c' d e f A B C:=by
 obtain⟨X0,X1,X2,X3,Y0,Y1,Y2,Y3,h⟩:=h
 have p1:=f1.pos
 have p2:=f2.pos
 have m:=h.minors (by omega) (by omega) (by rw[f1.bar];omega) (by rw[f1.bar,f2.bar]) (by rw[f1.bar,f3.bar])
 exact⟨_,_,_,_,_,_,_,_,h.pull m l⟩
theorem eL.one{D a b c d e f A B C A' B' C' l1 l2 l3:Int}(hD:D<0)(h:eL a b c d e f A B C)(h':eL a b c d e f A' B' C')(f1:Fm D a b c)(f2:Fm D d e f)(f3:Fm D A B C)(f4:Fm D A' B' C')(hl:l1*a+l2*b+l3*c=1):
  ∃p q r s:Int,Led A' B' C' p q r s A B C:=by
 obtain⟨X0,X1,X2,X3,Y0,Y1,Y2,Y3,h⟩:=h
 obtain⟨X0',X1',X2',X3',Y0',Y1',Y2',Y3',h'⟩:=h'
 have p1:=f1.pos
 have p2:=f2.pos
 have m:=h.minors (by omega) (by omega) (by rw[f1.bar];omega) (by rw[f1.bar,f2.bar]) (by rw[f1.bar,f3.bar])
 have m':=h'.minors (by omega) (by omega) (by rw[f1.bar];omega) (by rw[f1.bar,f2.bar]) (by rw[f1.bar,f4.bar])
 exact uC h h' m m' (by omega) hl
theorem Led.bar{a b c p q r s a' b' c':Int}(h:Led a b c p q r s a' b' c'): b'*b'-4*a'*c'=b*b-4*a*c:=by
 obtain⟨d,rfl,rfl,rfl⟩:=h
 unfold W
 have:(2*a*p*q+b*(p*s+q*r)+2*c*r*s)*(2*a*p*q+b*(p*s+q*r)+2*c*r*s)-4*(a*p*p+b*p*r+c*r*r)*(a*q*q+b*q*s+c*s*s)=(b*b-4*a*c)*((p*s-q*r)*(p*s-q*r)):=by grind
 rw[this,d]
 omega
theorem comp_bare{a b c d e f A B C n:Int}(h:eL a b c d e f A B C){l1 l2 l3 m1 m2 m3:Int}(hl:l1*a+l2*b+l3*c=1)(hm:m1*d+m2*e+m3*f=1)(hA:n ∣ A)(hB:n ∣ B)(hC:n ∣ C): n ∣ 1:=by
 obtain⟨X0,X1,X2,X3,Y0,Y1,Y2,Y3,h⟩:=h
 have all:∀x y u v:Int,n ∣ W a b c x y*W d e f u v:=λx y u v=>by
  rw[h.prod]
  generalize S X0 X1 X2 X3 x y u v=X
  generalize S Y0 Y1 Y2 Y3 x y u v=Y
  unfold W
  exact Int.dvd_add (Int.dvd_add (Int.dvd_mul_of_dvd_left (Int.dvd_mul_of_dvd_left hA)) (Int.dvd_mul_of_dvd_left (Int.dvd_mul_of_dvd_left hB))) (Int.dvd_mul_of_dvd_left (Int.dvd_mul_of_dvd_left hC))
 have one:(1:Int)=(l1*a+l2*b+l3*c)*(m1*d+m2*e+m3*f):=by rw[hl,hm];rfl
 have ea:∀g:Int,n ∣ W a b c 1 0*g→n ∣ W a b c 0 1*g→n ∣ W a b c 1 1*g→n ∣ (l1*a+l2*b+l3*c)*g:=λg h1 h2 h3=>by
  have e1:(l1*a+l2*b+l3*c)*g=(l1-l2)*(W a b c 1 0*g)+l2*(W a b c 1 1*g)+(l3-l2)*(W a b c 0 1*g):=by unfold W;grind
  rw[e1]
  exact Int.dvd_add (Int.dvd_add (Int.dvd_mul_of_dvd_right h1) (Int.dvd_mul_of_dvd_right h3)) (Int.dvd_mul_of_dvd_right h2)
 have eb:∀g:Int,n ∣ g*W d e f 1 0→n ∣ g*W d e f 0 1→n ∣ g*W d e f 1 1→n ∣ g*(m1*d+m2*e+m3*f):=λg h1 h2 h3=>by
  have e1:g*(m1*d+m2*e+m3*f)=(m1-m2)*(g*W d e f 1 0)+m2*(g*W d e f 1 1)+(m3-m2)*(g*W d e f 0 1):=by unfold W;grind
  rw[e1]
  exact Int.dvd_add (Int.dvd_add (Int.dvd_mul_of_dvd_right h1) (Int.dvd_mul_of_dvd_right h3)) (Int.dvd_mul_of_dvd_right h2)
 rw[one]
 refine ea _ ?_ ?_ ?_
 ·exact eb _ (all 1 0 1 0) (all 1 0 0 1) (all 1 0 1 1)
 ·exact eb _ (all 0 1 1 0) (all 0 1 0 1) (all 0 1 1 1)
 ·exact eb _ (all 1 1 1 0) (all 1 1 0 1) (all 1 1 1 1)
end MJ
namespace CM
open PySem PySem.Spec L2 FL FT
structure FormJ(a b c:Int): Prop where
 pos:0<a
 bar:b*b-4*a*c<0
 sa:Bd a 1450
 sb:Bd b 1450
 sc:Bd c 1450
 sd:Bd (b*b-4*a*c) 1200
 bare:Int.gcd (Int.gcd a b) c=1
theorem FormJ.s{a b c:Int}(h:FormJ a b c): FormS a b c:=⟨h.pos,h.bar,h.sa.up _ (by decide),h.sb.up _ (by decide),h.sc.up _ (by decide),h.sd⟩
theorem FormJ.n{a b c:Int}(h:FormJ a b c): FormN a b c:=h.s.n
theorem FormJ.bez{a b c:Int}(h:FormJ a b c): ∃l1 l2 l3:Int,l1*a+l2*b+l3*c=1:=by
 obtain⟨x,y,e1⟩:=ME.bez a b
 obtain⟨z,w,e2⟩:=ME.bez (Int.gcd a b) c
 refine⟨z*x,z*y,w,?_⟩
 rw[h.bare,← e1]at e2
 have:(1:Int)=z*(x*a+y*b)+w*c:=e2.symm
 rw[this]
 grind
def sG(ds:List D): Prop:=∃one other:Int,ds=[.int one,.int other]∧Bd one 1460∧Bd other 1460
def lG(ds:List D)(d:D): Prop:=∀one other:Int,ds=[.int one,.int other]→∃g u v:Int,d = .tup [.int g,.int u,.int v]∧g=(Int.gcd one other:Nat)∧g=u*one+v*other∧Bd u 1461∧Bd v 2925
theorem u0{ds:List D}{d:D}{one other:Int}(hd:ds=[.int one,.int other])(h:lG ds d): Fz d:=by
 obtain⟨g,u,v,rfl,_⟩:=h one other hd
 exact cR [g,u,v]
theorem nB{x y:Int}{m:Nat}(hy:Bd y m)(h:x.natAbs≤y.natAbs+1): Bd x (m+1):=by
 refine .of_lt ?_
 have h1:=intBits_le_iff.mp hy.lt
 rw[Nat.pow_succ]
 have:1≤2^m:=Nat.one_le_two_pow
 omega
theorem xw{one other dv sh rs rsh:Int}(h:ME.EG one other dv sh rs rsh)(h1:Bd one 1460)(h2:Bd other 1460): Bd dv 1460∧Bd rs 1460∧Bd sh 1461∧Bd rsh 1461:=by
 refine⟨?_,?_,nB h2 h.b1,nB h2 h.b2⟩
 ·rcases h.ph with⟨e,_⟩|⟨_,_,_,_,e,_⟩
  ·rw[e];exact h1
  ·exact h2.le e
 ·rcases h.ph with⟨_,_,e,_⟩|⟨_,_,_,_,_,e⟩
  ·rw[e];exact h2
  ·exact h2.le e
theorem vQ{dv rs:Int}{m:Nat}(hr:rs≠0)(h:Bd dv m): Bd (dv.fdiv rs) (m+1):=by
 refine nB h ?_
 obtain⟨h1,_⟩:=ME.fmod_facts (a:=dv) hr
 generalize dv.fdiv rs=t at *
 refine Nat.not_lt.mp λz=> ?_
 have k1:(dv.natAbs+2)*rs.natAbs≤t.natAbs*rs.natAbs:=Nat.mul_le_mul_right _ z
 rw[← Int.natAbs_mul]at k1
 have k2:dv.natAbs≤dv.natAbs*rs.natAbs:=Nat.le_mul_of_pos_right _ (by omega)
 rw[Nat.add_mul]at k1
 omega
def cM(ds:List D): Prop:=∃a b c d e f:Int,ds=[ar a b c,ar d e f]∧FormJ a b c∧FormJ d e f∧b*b-4*a*c=e*e-4*d*f
def cL(ds:List D)(r:D): Prop:=∀a b c d e f:Int,ds=[ar a b c,ar d e f]→∃g u v w:Int,r = .tup [.int g,.int u,.int v,.int w]∧0<g∧g ∣ a∧g ∣ d∧g ∣ (b+e)/2∧g=u*a+v*d+w*((b+e)/2)∧Bd g 1450∧Bd u 2922∧Bd v 4386∧Bd w 2925
def gN(ds:List D)(r:D): Prop:=∃a b c d e f g u v w:Int,ds=[ar a b c,ar d e f,.tup [.int g,.int u,.int v,.int w]]∧FormJ a b c∧FormJ d e f∧0<g∧Bd g 1450∧Bd u 2922∧Bd v 4386∧Bd w 2925∧
 r = .int ((u*a*e+v*d*b+w*((b*e+(b*b-4*a*c))/2))/g)
def jd(ds es:List D): Prop:=∃a b c d e f g m:Int,ds=[ar a b c,ar d e f,.int g,.int m]∧FormJ a b c∧FormJ d e f∧0<g∧Bd g 1450∧Bd m 2901∧
 es=[mx g 0,mx (g*(e-m)/(2*d)) (a/g),mx (g*(b-m)/(2*a)) (d/g),mx (g*(b*e+(b*b-4*a*c)-m*(b+e))/(4*a*d)) ((b+e)/(2*g))]
structure Joint(a b c d e f A B C X0 X1 X2 X3 Y0 Y1 Y2 Y3:Int): Prop where
 least:MT.Least A B C
 s:FormS A B C
 bar:B*B-4*A*C=b*b-4*a*c
 comp:MJ.Comp a b c d e f A B C X0 X1 X2 X3 Y0 Y1 Y2 Y3
 x0:Bd X0 13000
 x1:Bd X1 13000
 x2:Bd X2 13000
 x3:Bd X3 13000
 y0:Bd Y0 13000
 y1:Bd Y1 13000
 y2:Bd Y2 13000
 y3:Bd Y3 13000
def cN(ds:List D)(r:D): Prop:=∀a b c d e f:Int,ds=[ar a b c,ar d e f]→∃A B C X0 X1 X2 X3 Y0 Y1 Y2 Y3:Int,r = .tup [ar A B C,dj X0 X1 X2 X3,dj Y0 Y1 Y2 Y3]∧Joint a b c d e f A B C X0 X1 X2 X3 Y0 Y1 Y2 Y3
theorem tJ{ds:List D}{r:D}{a b c d e f:Int}(hd:ds=[ar a b c,ar d e f])(h:cN ds r): Fz r:=by
 obtain⟨A,B,C,X0,X1,X2,X3,Y0,Y1,Y2,Y3,rfl,_⟩:=h a b c d e f hd
 exact u3 (xX _ _ _) (cR [_,_,_,_]) (cR [_,_,_,_])
theorem y8{ds:List D}{r:D}{a b c d e f:Int}(hd:ds=[ar a b c,ar d e f])(h:cL ds r): Fz r:=by
 obtain⟨g,u,v,w,rfl,_⟩:=h a b c d e f hd
 exact cR [_,_,_,_]
theorem Leads.led{a b c p q r s a' b' c':Int}(h:Leads a b c p q r s a' b' c'): MJ.Led a b c p q r s a' b' c':=⟨h.det,h.e1,h.e2,h.e3⟩
theorem wL{first m C Dd:Int}(f0:0<first)(m0:0≤m)(m1:m<2*first)(hb:m*m-4*first*C=Dd)(hD:Dd<0)(sf:Bd first 2900)(sD:Bd Dd 1200): FormS first m C:=by
 have c0:0<C:=by
  refine Int.not_le.mp λz=> ?_
  have h1:=Int.mul_nonpos_of_nonneg_of_nonpos (show 0≤4*first by omega) z
  have h2:=MT.sq_nonneg m
  omega
 have c1:C<first-Dd:=by
  refine Int.not_le.mp λz=> ?_
  have h1:=Int.mul_le_mul_of_nonneg_left z (show 0≤4*first by omega)
  have h2:m*m<2*first*(2*first):=by
   have k1:=Int.mul_le_mul_of_nonneg_left (Int.le_of_lt m1) m0
   have k2:=Int.mul_lt_mul_of_pos_right m1 (show 0<2*first by omega)
   omega
  have h3:-Dd≤4*first * -Dd:=by
   have:=Int.mul_le_mul_of_nonneg_right (show(1:Int)≤4*first by omega) (show 0≤-Dd by omega)
   omega
  grind
 have sm:Bd m 2901:=by
  have:Bd (2*first) 2902:=Bd.mul bd_2 sf _ (by decide)
  refine .of_lt ?_
  have h1:=intBits_le_iff.mp sf.lt
  have e:2^2901=2^2900*2:=Nat.pow_succ _ _
  rw[e]
  generalize 2^2900=N at *
  omega
 have sC:Bd C 2901:=(Bd.sub sf (sD.up 2900 (by decide)) 2901 (by decide)).le (by omega)
 exact⟨f0,by rw[hb];exact hD,sf.up _ (by decide),sm.up _ (by decide),sC.up _ (by decide),by rw[hb];exact sD⟩
end CM
namespace CM
open PySem PySem.Spec L2 FL FT
def cK(ds:List D)(d:D): Prop:=∃a b c x y z:Int,ds=[ar a b c,ar x y z]∧FormN a b c∧FormN x y z∧b*b-4*a*c=y*y-4*x*z∧d = .non
def aZ(ds:List D)(d:D): Prop:=∃a b c:Int,ds=[ar a b c]∧FormN a b c∧Int.gcd (Int.gcd a b) c=1∧d = .non
def tW:D→Int×Int
 | .tup [.int x,.int y]=>(x,y)
 | _=>(0,0)
end CM
namespace CM
open PySem PySem.Spec L2 FL FT
end CM
namespace CM
open PySem PySem.Spec L2 FL FT
end CM
namespace CM
open PySem PySem.Spec L2 FL FT
theorem rD.ev{X:Cx}{e:Expr}{ρ:Ro}{d:D}(h:rD X e ρ (λx=>x=d)): Ev X e ρ d:=PE.imp h λ_ _ _ ⟨r,q⟩=>⟨r,λd' v H' z s i=>by subst z;exact q v H' s i⟩
theorem qR{a b c:Int}(ha:0<a)(L:MT.Least a b c)(sd:Bd (b*b-4*a*c) 1200): Bd a 1200∧Bd b 1200∧Bd c 1200:=by
 obtain⟨h1,h2,h3⟩:=MT.least_small ha L
 have ac:=L.ac
 exact⟨sd.le (by omega),sd.le (by omega),sd.le (by omega)⟩
theorem rV{a b c:Int}(f:FormS a b c)(L:MT.Least a b c)(bare:Int.gcd (Int.gcd a b) c=1): FormJ a b c:=by
 obtain⟨h1,h2,h3⟩:=qR f.pos L f.sd
 exact⟨f.pos,f.bar,h1.up _ (by decide),h2.up _ (by decide),h3.up _ (by decide),f.sd,bare⟩
def pJ(ds:List D)(d:D): Prop:=∃i:Int,ds=[.int i]∧i<0∧(i%4=0∨i%4=1)∧d = .bl true
def cr(ds:List D)(d:D): Prop:=∃i:Int,ds=[.int i]∧i<0∧(i%4=0∨i%4=1)∧d = .non
def mP(ds:List D)(d:D): Prop:=∃i:Int,ds=[.int i]∧i<0∧(i%4=0∨i%4=1)∧d=ar 1 (i%2) ((i%2-i)/4)
theorem kB(a b c:Int): (b*b-4*a*c)%4=0∨(b*b-4*a*c)%4=1:=by
 rcases Int.emod_two_eq b with h|h
 ·have e:b=2*(b/2):=by omega
  generalize b/2=x at *
  subst e
  have:2*x*(2*x)-4*a*c=4*(x*x-a*c):=by grind
  omega
 ·have e:b=2*(b/2)+1:=by omega
  generalize b/2=x at *
  subst e
  have:(2*x+1)*(2*x+1)-4*a*c=4*(x*x+x-a*c)+1:=by grind
  omega
theorem wa{i:Int}(hi:i<0)(h4:i%4=0∨i%4=1): MT.Least 1 (i%2) ((i%2-i)/4)∧(i%2)*(i%2)-4*1*((i%2-i)/4)=i:=by
 rcases Int.emod_two_eq i with h|h
 ·rw[h]
  exact⟨⟨by omega,by omega,by omega,λ_=>by omega⟩,by omega⟩
 ·rw[h]
  exact⟨⟨by omega,by omega,by omega,λ_=>by omega⟩,by omega⟩
theorem Leads.refl(a b c:Int): Leads a b c 1 0 0 1 a b c:=by
 refine⟨by omega,?_,?_,?_⟩<;>(try unfold MT.Wo)<;>grind
theorem xK{a b c:Int}(h:Int.gcd (Int.gcd a b) c=1): ∃l1 l2 l3:Int,l1*a+l2*b+l3*c=1:=by
 obtain⟨x,y,e1⟩:=ME.bez a b
 obtain⟨z,w,e2⟩:=ME.bez (Int.gcd a b) c
 refine⟨z*x,z*y,w,?_⟩
 rw[h,← e1]at e2
 have:(1:Int)=z*(x*a+y*b)+w*c:=e2.symm
 rw[this]
 grind
theorem Joint.bare{a b c d e f A B C X0 X1 X2 X3 Y0 Y1 Y2 Y3:Int}(J:Joint a b c d e f A B C X0 X1 X2 X3 Y0 Y1 Y2 Y3)(h1:FormJ a b c)(h2:FormJ d e f): Int.gcd (Int.gcd A B) C=1:=by
 obtain⟨l1,l2,l3,hl⟩:=h1.bez
 obtain⟨m1,m2,m3,hm⟩:=h2.bez
 have d1:((Int.gcd (Int.gcd A B) C:Nat):Int) ∣ ((Int.gcd A B:Nat):Int):=Int.gcd_dvd_left _ _
 have:=MJ.comp_bare ⟨_,_,_,_,_,_,_,_,J.comp⟩ hl hm (Int.dvd_trans d1 (Int.gcd_dvd_left A B)) (Int.dvd_trans d1 (Int.gcd_dvd_right A B)) (Int.gcd_dvd_right _ _)
 have:=Int.natCast_dvd_natCast.mp (show((Int.gcd (Int.gcd A B) C:Nat):Int) ∣ ((1:Nat):Int)from this)
 exact Nat.dvd_one.mp this
theorem Joint.J{a b c d e f A B C X0 X1 X2 X3 Y0 Y1 Y2 Y3:Int}(J:Joint a b c d e f A B C X0 X1 X2 X3 Y0 Y1 Y2 Y3)(h1:FormJ a b c)(h2:FormJ d e f): FormJ A B C:=rV J.s J.least (J.bare h1 h2)
end CM
namespace CM
open PySem PySem.Spec L2 FL FT
section
variable {X : Cx} {e1 e2 : Expr} {ρ : Ro} {p0 p1 p2 p3 : Pos} {m : Nat}
end
end CM
namespace MP
theorem za{p:Nat}{z:Int}: (p:Int) ∣ z↔p ∣ z.natAbs:=by
 rw[← Int.natCast_dvd_natCast,Int.dvd_natAbs]
def Pr(p:Nat): Prop:=2≤p∧∀d,d ∣ p→d=1∨d=p
theorem zr:∀n:Nat,2≤n→∃p,Pr p∧p ∣ n:=by
 intro n
 induction n using Nat.strongRecOn with
 | ind n ih=>
  intro hn
  by_cases h:Pr n
  ·exact⟨n,h,Nat.dvd_refl n⟩
  ·have:∃d,d ∣ n∧d≠1∧d≠n:=by
    refine Classical.byContradiction λhc=>h ⟨hn,λd hd=> ?_⟩
    refine Classical.byContradiction λhd'=>hc ⟨d,hd,λe=>hd' (.inl e),λe=>hd' (.inr e)⟩
   obtain⟨d,hd,h1,h2⟩:=this
   have hle:=Nat.le_of_dvd (by omega) hd
   have h0:d≠0:=λz=>by
    subst z
    have:=Nat.eq_zero_of_zero_dvd hd
    omega
   obtain⟨p,hp,hpd⟩:=ih d (by omega) (by omega)
   exact⟨p,hp,Nat.dvd_trans hpd hd⟩
theorem Pr.cop{p a:Nat}(hp:Pr p)(h:¬p ∣ a): Nat.gcd p a=1:=by
 rcases hp.2 _ (Nat.gcd_dvd_left p a)with e|e
 ·exact e
 ·exact absurd (e▸Nat.gcd_dvd_right p a) h
theorem Pr.mul{p a b:Nat}(hp:Pr p)(h:p ∣ a*b): p ∣ a∨p ∣ b:=by
 by_cases ha:p ∣ a
 ·exact .inl ha
 ·exact .inr (Nat.Coprime.dvd_of_dvd_mul_left (hp.cop ha) h)
theorem Pr.imul{p:Nat}{a b:Int}(hp:Pr p)(h:(p:Int) ∣ a*b): (p:Int) ∣ a∨(p:Int) ∣ b:=by
 rw[za,Int.natAbs_mul]at h
 rw[za,za]
 exact hp.mul h
theorem Pr.one{p:Nat}(hp:Pr p)(h:(p:Int) ∣ 1): False:=by
 have:=za.mp h
 have:=Nat.le_of_dvd (by decide) this
 have:=hp.1
 simp at *
 omega
def prodN:List Nat→Nat
 | []=>1
 | x::xs=>x*prodN xs
theorem lj{p:Nat}: ∀ {l:List Nat},p∈l→p ∣ prodN l
 | x::xs,h=>by
  rcases List.mem_cons.mp h with rfl|h
  ·exact Nat.dvd_mul_right _ _
  ·exact Nat.dvd_trans (lj h) (Nat.dvd_mul_left _ _)
theorem Pr.mem{p:Nat}(hp:Pr p): ∀ {l:List Nat},(∀q∈l,Pr q)→p ∣ prodN l→p∈l
 | [],_,h=>by
  have:=Nat.le_of_dvd (by decide) h
  have:=hp.1
  simp[prodN]at *
  omega
 | x::xs,hl,h=>by
  rcases hp.mul h with h|h
  ·rcases(hl x List.mem_cons_self).2 _ h with e|e
   ·have:=hp.1
    omega
   ·exact e▸List.mem_cons_self
  ·exact List.mem_cons_of_mem _ (hp.mem (λq hq=>hl q (List.mem_cons_of_mem _ hq)) h)
theorem pN:∀ {l:List Nat},(∀q∈l,Pr q)→0<prodN l
 | [],_=>by decide
 | x::xs,hl=>Nat.mul_pos (by have:=(hl x List.mem_cons_self).1;omega) (pN λq hq=>hl q (List.mem_cons_of_mem _ hq))
theorem lc{m N:Int}(hN:N≠0)(h:∀p:Nat,Pr p→(p:Int) ∣ N→¬(p:Int) ∣ m): Int.gcd m N=1:=by
 refine Classical.byContradiction λhg=> ?_
 have h0:Int.gcd m N≠0:=λz=>hN (Int.gcd_eq_zero_iff.mp z).2
 obtain⟨p,hp,hd⟩:=zr (Int.gcd m N) (by omega)
 have hd':(p:Int) ∣ ((Int.gcd m N:Nat):Int):=Int.natCast_dvd_natCast.mpr hd
 exact h p hp (Int.dvd_trans hd' (Int.gcd_dvd_right m N)) (Int.dvd_trans hd' (Int.gcd_dvd_left m N))
theorem xc{a b c N x y l1 l2 l3:Int}(hN:N≠0)(hl:l1*a+l2*b+l3*c=1)
  (h1:∀p:Nat,Pr p→(p:Int) ∣ N→((p:Int) ∣ y↔¬(p:Int) ∣ a)) (h2:∀p:Nat,Pr p→(p:Int) ∣ N→((p:Int) ∣ x↔(p:Int) ∣ a∧¬(p:Int) ∣ c)):Int.gcd (a*x*x+b*x*y+c*y*y) N=1:=by
 refine lc hN λp hp hpN hm=> ?_
 have e1:=h1 p hp hpN
 have e2:=h2 p hp hpN
 by_cases pa:(p:Int) ∣ a
 ·have ny:¬(p:Int) ∣ y:=λz=>(e1.mp z) pa
  by_cases pc:(p:Int) ∣ c
  ·have nx:¬(p:Int) ∣ x:=λz=>(e2.mp z).2 pc
   have hb:(p:Int) ∣ b*x*y:=by
    have t1:(p:Int) ∣ a*x*x:=Int.dvd_mul_of_dvd_left (Int.dvd_mul_of_dvd_left pa)
    have t2:(p:Int) ∣ c*y*y:=Int.dvd_mul_of_dvd_left (Int.dvd_mul_of_dvd_left pc)
    have:=Int.dvd_sub (Int.dvd_sub hm t1) t2
    have e:a*x*x+b*x*y+c*y*y-a*x*x-c*y*y=b*x*y:=by omega
    rwa [e]at this
   rcases hp.imul hb with h|h
   ·rcases hp.imul h with h|h
    ·refine hp.one ?_
     rw[← hl]
     exact Int.dvd_add (Int.dvd_add (Int.dvd_mul_of_dvd_right pa) (Int.dvd_mul_of_dvd_right h)) (Int.dvd_mul_of_dvd_right pc)
    ·exact nx h
   ·exact ny h
  ·have px:=e2.mpr ⟨pa,pc⟩
   have hc:(p:Int) ∣ c*y*y:=by
    have t1:(p:Int) ∣ a*x*x:=Int.dvd_mul_of_dvd_right px
    have t2:(p:Int) ∣ b*x*y:=Int.dvd_mul_of_dvd_left (Int.dvd_mul_of_dvd_right px)
    have:=Int.dvd_sub (Int.dvd_sub hm t1) t2
    have e:a*x*x+b*x*y+c*y*y-a*x*x-b*x*y=c*y*y:=by omega
    rwa [e]at this
   rcases hp.imul hc with h|h
   ·rcases hp.imul h with h|h
    ·exact pc h
    ·exact ny h
   ·exact ny h
 ·have py:=e1.mpr pa
  have nx:¬(p:Int) ∣ x:=λz=>pa (e2.mp z).1
  have ha:(p:Int) ∣ a*x*x:=by
   have t1:(p:Int) ∣ c*y*y:=Int.dvd_mul_of_dvd_right py
   have t2:(p:Int) ∣ b*x*y:=Int.dvd_mul_of_dvd_right py
   have:=Int.dvd_sub (Int.dvd_sub hm t1) t2
   have e:a*x*x+b*x*y+c*y*y-c*y*y-b*x*y=a*x*x:=by omega
   rwa [e]at this
  rcases hp.imul ha with h|h
  ·rcases hp.imul h with h|h
   ·exact pa h
   ·exact nx h
  ·exact nx h
open Classical in
theorem worth_cop{a b c N l1 l2 l3:Int}(hN:N≠0)(hl:l1*a+l2*b+l3*c=1): ∃x y:Int,Int.gcd x y=1∧Int.gcd (a*x*x+b*x*y+c*y*y) N=1:=by
 let ps:List Nat:=(List.range (N.natAbs+1)).filter λp=>decide (Pr p∧(p:Int) ∣ N)
 have hps:∀p:Nat,p∈ps↔Pr p∧(p:Int) ∣ N:=λp=>by
  simp only[ps,List.mem_filter,List.mem_range,decide_eq_true_eq]
  refine⟨λh=>h.2,λh=>⟨?_,h⟩⟩
  have:=Nat.le_of_dvd (by omega) (za.mp h.2)
  omega
 let ys:List Nat:=ps.filter λ(p:Nat)=>decide (¬(p:Int) ∣ a)
 let xs:List Nat:=ps.filter λ(p:Nat)=>decide ((p:Int) ∣ a∧¬(p:Int) ∣ c)
 have pry:∀q∈ys,Pr q:=λq hq=>((hps q).mp (List.mem_filter.mp hq).1).1
 have prx:∀q∈xs,Pr q:=λq hq=>((hps q).mp (List.mem_filter.mp hq).1).1
 have hy:∀p:Nat,Pr p→(p:Int) ∣ N→((p:Int) ∣ ((prodN ys:Nat):Int)↔¬(p:Int) ∣ a):=λp hp hpN=>by
  rw[Int.natCast_dvd_natCast]
  constructor
  ·intro h
   have:=(List.mem_filter.mp (hp.mem pry h)).2
   simpa using this
  ·intro h
   exact lj (List.mem_filter.mpr ⟨(hps p).mpr ⟨hp,hpN⟩,by simpa using h⟩)
 have hx:∀p:Nat,Pr p→(p:Int) ∣ N→((p:Int) ∣ ((prodN xs:Nat):Int)↔(p:Int) ∣ a∧¬(p:Int) ∣ c):=λp hp hpN=>by
  rw[Int.natCast_dvd_natCast]
  constructor
  ·intro h
   have:=(List.mem_filter.mp (hp.mem prx h)).2
   simpa using this
  ·intro h
   exact lj (List.mem_filter.mpr ⟨(hps p).mpr ⟨hp,hpN⟩,by simpa using h⟩)
 refine⟨(prodN xs:Nat),(prodN ys:Nat),?_,xc hN hl hy hx⟩
 have py:=pN pry
 refine lc (by omega) λp hp h1 h2=> ?_
 have m1:=hp.mem pry (Int.natCast_dvd_natCast.mp h1)
 have m2:=hp.mem prx (Int.natCast_dvd_natCast.mp h2)
 have t1:=(List.mem_filter.mp m1).2
 have t2:=(List.mem_filter.mp m2).2
 simp only[decide_eq_true_eq]at t1 t2
 exact t1 t2.1
end MP
namespace MG
open MJ
structure Q where
 a:Int
 b:Int
 c:Int
deriving DecidableEq
structure Ok(D:Int)(f:Q): Prop where
 pos:0<f.a
 bar:f.b*f.b-4*f.a*f.c=D
theorem Ok.fm{D:Int}{f:Q}(h:Ok D f): Fm D f.a f.b f.c:=⟨h.pos,h.bar⟩
def fC(f:Q): Prop:=∃l1 l2 l3:Int,l1*f.a+l2*f.b+l3*f.c=1
def fD(f g:Q): Prop:=∃p q r s:Int,Led f.a f.b f.c p q r s g.a g.b g.c
def Cp(f g h:Q): Prop:=eL f.a f.b f.c g.a g.b g.c h.a h.b h.c
theorem fD.refl(f:Q): fD f f:=⟨1,0,0,1,by omega,by unfold W;grind,by grind,by unfold W;grind⟩
theorem fD.symm{f g:Q}(h:fD f g): fD g f:=by
 obtain⟨p,q,r,s,d,e1,e2,e3⟩:=h
 refine⟨s,-q,-r,p,by grind,?_,?_,?_⟩
 ·rw[e1,e2,e3];unfold W;grind
 ·rw[e1,e2,e3];unfold W;grind
 ·rw[e1,e2,e3];unfold W;grind
theorem fD.trans{f g h:Q}(h1:fD f g)(h2:fD g h): fD f h:=by
 obtain⟨p,q,r,s,d,e1,e2,e3⟩:=h1
 obtain⟨x,y,z,v,d',f1,f2,f3⟩:=h2
 refine⟨p*x+q*z,p*y+q*v,r*x+s*z,r*y+s*v,by grind,?_,?_,?_⟩
 ·rw[f1,e1,e2,e3];unfold W;grind
 ·rw[f2,e1,e2,e3];unfold W;grind
 ·rw[f3,e1,e2,e3];unfold W;grind
theorem fD.bar{f g:Q}(h:fD f g): g.b*g.b-4*g.a*g.c=f.b*f.b-4*f.a*f.c:=by
 obtain⟨p,q,r,s,l⟩:=h
 exact l.bar
theorem zC{a b c x y:Int}(ha:0<a)(hd:b*b-4*a*c<0)(h:x≠0∨y≠0): 0<W a b c x y:=by
 have sq:∀z:Int,0≤z*z:=λz=>by
  rcases Int.le_total 0 z with h|h
  ·exact Int.mul_nonneg h h
  ·exact Int.mul_nonneg_of_nonpos_of_nonpos h h
 have e:4*a*W a b c x y=(2*a*x+b*y)*(2*a*x+b*y)+(-(b*b-4*a*c))*(y*y):=by unfold W;grind
 have h1:=sq (2*a*x+b*y)
 have h2:=Int.mul_nonneg (show 0≤-(b*b-4*a*c)by omega) (sq y)
 have key:0<4*a*W a b c x y:=by
  by_cases hy:y=0
  ·subst hy
   have hx:x≠0:=by omega
   have:0<(2*a*x+b*0)*(2*a*x+b*0):=by
    have e2:(2*a*x+b*0)*(2*a*x+b*0)=4*a*a*(x*x):=by grind
    rw[e2]
    refine Int.mul_pos (Int.mul_pos (by omega) ha) ?_
    rcases Int.lt_or_gt_of_ne hx with h|h
    ·exact Int.mul_pos_of_neg_of_neg h h
    ·exact Int.mul_pos h h
   omega
  ·have:0<y*y:=by
    rcases Int.lt_or_gt_of_ne hy with h|h
    ·exact Int.mul_pos_of_neg_of_neg h h
    ·exact Int.mul_pos h h
   have:=Int.mul_pos (show 0 < -(b*b-4*a*c)by omega) this
   omega
 refine Int.not_le.mp λz=> ?_
 have:=Int.mul_nonpos_of_nonneg_of_nonpos (show 0≤4*a by omega) z
 omega
theorem Ok.eqv{D:Int}{f g:Q}(hD:D<0)(h:Ok D f)(e:fD f g): Ok D g:=by
 refine⟨?_,by rw[e.bar];exact h.bar⟩
 obtain⟨p,q,r,s,l⟩:=e
 rw[l.e1]
 refine zC h.pos (by rw[h.bar];exact hD) ?_
 by_cases z:p=0
 ·refine .inr λw=> ?_
  have:=l.det
  rw[z,w]at this
  simp at this
 ·exact .inl z
theorem fC.eqv{f g:Q}(h:fC f)(e:fD f g): fC g:=by
 obtain⟨l1,l2,l3,hl⟩:=h
 obtain⟨p,q,r,s,d,e1,e2,e3⟩:=e.symm
 refine⟨l1*(p*p)+l2*(2*p*q)+l3*(q*q),l1*(p*r)+l2*(p*s+q*r)+l3*(q*s),l1*(r*r)+l2*(2*r*s)+l3*(s*s),?_⟩
 rw[← hl,e1,e2,e3]
 unfold W
 grind
theorem Cp.swap{f g h:Q}(c:Cp f g h): Cp g f h:=eL.swap c
theorem Cp.pull{D:Int}{f f' g h:Q}(hD:D<0)(c:Cp f g h)(o1:Ok D f)(o2:Ok D g)(o3:Ok D h)(e:fD f f'): Cp f' g h:=by
 obtain⟨p,q,r,s,l⟩:=e
 exact eL.pull hD c o1.fm o2.fm o3.fm l
theorem Cp.pull2{D:Int}{f g g' h:Q}(hD:D<0)(c:Cp f g h)(o1:Ok D f)(o2:Ok D g)(o3:Ok D h)(e:fD g g'): Cp f g' h:=(c.swap.pull hD o2 o1 o3 e).swap
theorem Cp.one{D:Int}{f g h h':Q}(hD:D<0)(c:Cp f g h)(c':Cp f g h')(o1:Ok D f)(o2:Ok D g)(o3:Ok D h)(o4:Ok D h')(b:fC f): fD h h':=by
 obtain⟨l1,l2,l3,hl⟩:=b
 obtain⟨p,q,r,s,l⟩:=eL.one hD c' c o1.fm o2.fm o4.fm o3.fm hl
 exact⟨p,q,r,s,l⟩
theorem Cp.target{f g h h':Q}(c:Cp f g h)(e:fD h h'): Cp f g h':=by
 obtain⟨X0,X1,X2,X3,Y0,Y1,Y2,Y3,c⟩:=c
 obtain⟨p,q,r,s,l⟩:=e
 exact⟨_,_,_,_,_,_,_,_,c.target l⟩
theorem dZ(a b d k:Int): Cp ⟨a,b,d*k⟩ ⟨d,b,a*k⟩ ⟨a*d,b,k⟩:=⟨_,_,_,_,_,_,_,_,qF a b d k⟩
theorem nJ{N:Int}{f:Q}(hN:N≠0)(hb:fC f): ∃g:Q,fD f g∧Int.gcd g.a N=1:=by
 obtain⟨l1,l2,l3,hl⟩:=hb
 obtain⟨x,y,hxy,hw⟩:=MP.worth_cop hN hl
 obtain⟨u,v,e⟩:=ME.bez x y
 rw[hxy]at e
 refine⟨⟨W f.a f.b f.c x y,2*f.a*x * -v+f.b*(x*u + -v*y)+2*f.c*y*u,W f.a f.b f.c (-v) u⟩,⟨x,-v,y,u,?_,rfl,rfl,rfl⟩,hw⟩
 have:u*x+v*y=1:=e
 grind
theorem ie(f:Q)(t:Int): fD f ⟨f.a,f.b+2*f.a*t,f.c+t*(f.b+f.a*t)⟩:=by
 refine⟨1,t,0,1,by omega,?_,?_,?_⟩<;>(try unfold W)<;>(dsimp only)<;>grind
theorem crt{a d x y:Int}(h:Int.gcd a d=1): ∃t u:Int,x+a*t=y+d*u:=by
 obtain⟨p,q,e⟩:=ME.bez a d
 rw[h]at e
 have e':p*a+q*d=1:=e
 refine⟨p*(y-x),q*(x-y),?_⟩
 have:(p*a+q*d)*(y-x)=y-x:=by rw[e'];omega
 grind
theorem iE{D:Int}{f:Q}(h:Ok D f): ∃t:Int,f.b=D%2+2*t:=by
 have:=h.bar
 refine⟨f.b/2,?_⟩
 have e:D%2=f.b%2:=by
  rcases Int.emod_two_eq f.b with hb|hb
  ·have e:f.b=2*(f.b/2):=by omega
   generalize f.b/2=x at e
   have:D=2*(2*x*x-2*f.a*f.c):=by rw[← h.bar,e];grind
   omega
  ·have e:f.b=2*(f.b/2)+1:=by omega
   generalize f.b/2=x at e
   have:D=2*(2*x*x+2*x-2*f.a*f.c)+1:=by rw[← h.bar,e];grind
   omega
 omega
theorem wm{a d m:Int}(h:Int.gcd a d=1)(ha:a ∣ m)(hd:d ∣ m): a*d ∣ m:=by
 obtain⟨p,q,e⟩:=ME.bez a d
 rw[h]at e
 have e':p*a+q*d=1:=e
 obtain⟨x,hx⟩:=ha
 obtain⟨y,hy⟩:=hd
 refine⟨p*y+q*x,?_⟩
 have:m=(p*a+q*d)*m:=by rw[e'];omega
 rw[this]
 have k1:p*a*m=a*d*(p*y):=by rw[hy];grind
 have k2:q*d*m=a*d*(q*x):=by rw[hx];grind
 grind
theorem qo{D:Int}{f g:Q}(o1:Ok D f)(o2:Ok D g)(h:Int.gcd f.a g.a=1): ∃b k t:Int,b=f.b+2*f.a*t∧fD f ⟨f.a,b,g.a*k⟩∧fD g ⟨g.a,b,f.a*k⟩:=by
 obtain⟨x,ex⟩:=iE o1
 obtain⟨y,ey⟩:=iE o2
 obtain⟨t,u,e⟩:=crt (x:=x) (y:=y) h
 have s1:=ie f t
 have s2:=ie g u
 have eb:f.b+2*f.a*t=g.b+2*g.a*u:=by rw[ex,ey];grind
 have b1:=s1.bar
 have b2:=s2.bar
 rw[o1.bar]at b1
 rw[o2.bar]at b2
 dsimp only at b1 b2
 rw[← eb]at b2 s2
 generalize hb:f.b+2*f.a*t=b at *
 generalize f.c+t*(f.b+f.a*t)=c1 at *
 generalize g.c+u*(g.b+g.a*u)=c2 at *
 have q:f.a*c1=g.a*c2:=by grind
 have hd:f.a*g.a ∣ f.a*c1:=wm h ⟨c1,rfl⟩ ⟨c2,q⟩
 obtain⟨k,hk⟩:=hd
 have p1:=o1.pos
 have p2:=o2.pos
 have k1:c1=g.a*k:=aW (show f.a≠0 by omega) (by rw[hk];grind)
 have k2:c2=f.a*k:=aW (show g.a≠0 by omega) (by rw[← q,hk];grind)
 rw[k1]at s1
 rw[k2]at s2
 exact⟨b,k,t,hb.symm,s1,s2⟩
theorem yX{D:Int}{f g:Q}(hD:D<0)(o1:Ok D f)(o2:Ok D g)(b1:fC f)(b2:fC g): ∃h:Q,Ok D h∧fC h∧Cp f g h:=by
 have p1:=o1.pos
 obtain⟨g',e,hg⟩:=nJ (N:=f.a) (by omega) b2
 have o2':=o2.eqv hD e
 obtain⟨b,k,_,_,s1,s2⟩:=qo o1 o2' (by rw[Int.gcd_comm];exact hg)
 have a1:=o1.eqv hD s1
 have a2:=o2'.eqv hD s2
 have c:=dZ f.a b g'.a k
 have oh:Ok D ⟨f.a*g'.a,b,k⟩:=⟨Int.mul_pos o1.pos o2'.pos,by have:=a1.bar;dsimp only at *;rw[← this];grind⟩
 have c1:=c.pull hD a1 a2 oh s1.symm
 have c2:=c1.pull2 hD o1 a2 oh (e.trans s2).symm
 refine⟨_,oh,?_,c2⟩
 have bf:=b1.eqv s1
 have bg:=(b2.eqv e).eqv s2
 obtain⟨l1,l2,l3,hl⟩:=bf
 obtain⟨m1,m2,m3,hm⟩:=bg
 obtain⟨x,y,e1⟩:=ME.bez (f.a*g'.a) b
 obtain⟨z,w,e2⟩:=ME.bez (Int.gcd (f.a*g'.a) b) k
 have hn:Int.gcd (Int.gcd (f.a*g'.a) b) k=1:=by
  have d1:((Int.gcd (Int.gcd (f.a*g'.a) b) k:Nat):Int) ∣ ((Int.gcd (f.a*g'.a) b:Nat):Int):=Int.gcd_dvd_left _ _
  have:=comp_bare c hl hm (Int.dvd_trans d1 (Int.gcd_dvd_left _ _)) (Int.dvd_trans d1 (Int.gcd_dvd_right _ _)) (Int.gcd_dvd_right _ _)
  exact Nat.dvd_one.mp (Int.natCast_dvd_natCast.mp (show((Int.gcd (Int.gcd (f.a*g'.a) b) k:Nat):Int) ∣ ((1:Nat):Int)from this))
 refine⟨z*x,z*y,w,?_⟩
 rw[hn]at e2
 show z*x*(f.a*g'.a)+z*y*b+w*k=1
 have e2':z*((Int.gcd (f.a*g'.a) b:Nat):Int)+w*k=1:=e2
 rw[← e1]at e2'
 grind
theorem lT{D a b c b' c' t:Int}(ha:0<a)(h1:b*b-4*a*c=D)(e:b'=b+2*a*t)(h2:b'*b'-4*a*c'=D): fD ⟨a,b,c⟩ ⟨a,b',c'⟩:=by
 have s:=ie ⟨a,b,c⟩ t
 dsimp only at s
 have k:c'=c+t*(b+a*t):=by
  refine aW (show 4*a≠0 by omega) ?_
  subst e
  grind
 rw[← e,← k]at s
 exact s
theorem xJ{D:Int}{f g h:Q}(hD:D<0)(o1:Ok D f)(o2:Ok D g)(o3:Ok D h)(b2:fC g)(b3:fC h): ∃a b d e k:Int,0<a∧0<d∧0<e∧b*b-4*(a*d*e)*k=D∧fD f ⟨a,b,d*e*k⟩∧fD g ⟨d,b,a*e*k⟩∧fD h ⟨e,b,a*d*k⟩:=by
 have p1:=o1.pos
 obtain⟨g',e1,hg⟩:=nJ (N:=f.a) (by omega) b2
 have o2':=o2.eqv hD e1
 have p2:=o2'.pos
 have pp:=Int.mul_pos p1 p2
 obtain⟨h',e2,hh⟩:=nJ (N:=f.a*g'.a) (by omega) b3
 have o3':=o3.eqv hD e2
 obtain⟨b1,k1,_,_,s1,s2⟩:=qo o1 o2' (by rw[Int.gcd_comm];exact hg)
 have a1:=o1.eqv hD s1
 have a2:=o2'.eqv hD s2
 have oF:Ok D ⟨f.a*g'.a,b1,k1⟩:=⟨pp,by have:=a1.bar;dsimp only at *;rw[← this];grind⟩
 obtain⟨b,k,t,eb,s3,s4⟩:=qo oF o3' (by rw[Int.gcd_comm];exact hh)
 have a3:=oF.eqv hD s3
 dsimp only at eb a3 s3 s4
 have hb:b*b-4*(f.a*g'.a*h'.a)*k=D:=by have:=a3.bar;dsimp only at this;rw[← this];grind
 refine⟨f.a,b,g'.a,h'.a,k,p1,p2,o3'.pos,hb,s1.trans ?_,(e1.trans s2).trans ?_,e2.trans ?_⟩
 ·have:=a1.bar
  dsimp only at this
  exact lT (t:=g'.a*t) p1 this (by rw[eb];grind) (by rw[← hb];grind)
 ·have:=a2.bar
  dsimp only at this
  exact lT (t:=f.a*t) p2 this (by rw[eb];grind) (by rw[← hb];grind)
 ·exact s4
theorem uD{D:Int}{f g h x y z w:Q}(hD:D<0)(o1:Ok D f)(o2:Ok D g)(o3:Ok D h)(b1:fC f)(b2:fC g)(b3:fC h)(ox:Ok D x)(oy:Ok D y)(oz:Ok D z)(ow:Ok D w)(bx:fC x)
  (c1:Cp f g x) (c2:Cp x h y) (c3:Cp g h z) (c4:Cp f z w):fD y w:=by
 obtain⟨a,b,d,e,k,pa,pd,pe,hb,ef,eg,eh⟩:=xJ hD o1 o2 o3 b2 b3
 have of:=o1.eqv hD ef
 have og:=o2.eqv hD eg
 have oh:=o3.eqv hD eh
 have pad:=Int.mul_pos pa pd
 have pde:=Int.mul_pos pd pe
 have ox':Ok D ⟨a*d,b,e*k⟩:=⟨pad,by dsimp only;rw[← hb];grind⟩
 have oz':Ok D ⟨d*e,b,a*k⟩:=⟨pde,by dsimp only;rw[← hb];grind⟩
 have oy':Ok D ⟨a*d*e,b,k⟩:=⟨Int.mul_pos pad pe,hb⟩
 have k1:Cp ⟨a,b,d*e*k⟩ ⟨d,b,a*e*k⟩ ⟨a*d,b,e*k⟩:=by
  have:=dZ a b d (e*k)
  rwa [← Int.mul_assoc,← Int.mul_assoc]at this
 have k2:Cp ⟨a*d,b,e*k⟩ ⟨e,b,a*d*k⟩ ⟨a*d*e,b,k⟩:=dZ (a*d) b e k
 have k3:Cp ⟨d,b,a*e*k⟩ ⟨e,b,a*d*k⟩ ⟨d*e,b,a*k⟩:=by
  have:=dZ d b e (a*k)
  have q1:e*(a*k)=a*e*k:=by grind
  have q2:d*(a*k)=a*d*k:=by grind
  rwa [q1,q2]at this
 have k4:Cp ⟨a,b,d*e*k⟩ ⟨d*e,b,a*k⟩ ⟨a*d*e,b,k⟩:=by
  have:=dZ a b (d*e) k
  rwa [← Int.mul_assoc]at this
 have hx:fD x ⟨a*d,b,e*k⟩:=(((c1.pull hD o1 o2 ox ef).pull2 hD of o2 ox eg).one hD k1 of og ox ox' (b1.eqv ef))
 have hz:fD z ⟨d*e,b,a*k⟩:=(((c3.pull hD o2 o3 oz eg).pull2 hD og o3 oz eh).one hD k3 og oh oz oz' (b2.eqv eg))
 have hy:fD y ⟨a*d*e,b,k⟩:=(((c2.pull hD ox o3 oy hx).pull2 hD ox' o3 oy eh).one hD k2 ox' oh oy oy' (bx.eqv hx))
 have hw:fD w ⟨a*d*e,b,k⟩:=(((c4.pull hD o1 oz ow ef).pull2 hD of oz ow hz).one hD k4 of oz' ow oy' (b1.eqv ef))
 exact hy.trans hw.symm
end MG
namespace MG
open MJ
class AbG(G:Type) where
 mul:G→G→G
 one:G
 inv:G→G
 comm:∀x y,mul x y=mul y x
 assoc:∀x y z,mul (mul x y) z=mul x (mul y z)
 mul_one:∀x,mul x one=x
 mul_inv:∀x,mul x (inv x)=one
section
variable {G : Type} [AbG G]
open AbG
end
structure Cls(D:Int)(f:Q): Prop where
 ok:Ok D f
 bare:fC f
 least:MT.Least f.a f.b f.c
theorem Cls.one{D:Int}{f g:Q}(h1:Cls D f)(h2:Cls D g)(e:fD f g): f=g:=by
 obtain⟨p,q,r,s,l⟩:=e
 obtain⟨e1,e2,e3⟩:=MT.least_unique h1.ok.pos h2.ok.pos h1.least h2.least l.det l.e1 l.e2 l.e3
 cases f;cases g
 simp_all
theorem kL{x y z:Int}(hx:0<x)(hd:y*y-4*x*z<0): 0<z:=by
 refine Int.not_le.mp λh=> ?_
 have h1:=Int.mul_nonpos_of_nonneg_of_nonpos (show 0≤4*x by omega) h
 have h2:=MT.sq_nonneg y
 omega
theorem mK{D:Int}(hD:D<0): ∀(n:Nat) (f:Q),f.a.toNat≤n→Ok D f→∃g:Q,fD f g∧MT.Least g.a g.b g.c:=by
 intro n
 induction n with
 | zero=>intro f h o;have:=o.pos;omega
 | succ n ih=>
  intro f hn o
  have L1:=ie f ((f.a-f.b)/(2*f.a))
  have ha:=o.pos
  have h1:(f.a-f.b)=2*f.a*((f.a-f.b)/(2*f.a))+(f.a-f.b)%(2*f.a):=(Int.mul_ediv_add_emod (f.a-f.b) (2*f.a)).symm
  have h2:=Int.emod_nonneg (f.a-f.b) (show 2*f.a≠0 by omega)
  have h3:=Int.emod_lt_of_pos (f.a-f.b) (show 0<2*f.a by omega)
  generalize (f.a-f.b)/(2*f.a)=k at *
  have lo:-f.a<f.b+2*f.a*k:=by omega
  have hi:f.b+2*f.a*k≤f.a:=by omega
  have o1:=o.eqv hD L1
  generalize f.b+2*f.a*k=y at *
  generalize f.c+k*(f.b+f.a*k)=z at *
  have z0:=kL (x:=f.a) (y:=y) (z:=z) ha (by have:=o1.bar;dsimp only at this;omega)
  by_cases h:f.a<z∨(f.a=z∧0≤y)
  ·exact⟨⟨f.a,y,z⟩,L1,⟨lo,hi,by dsimp only;omega,λe=>by dsimp only at *;omega⟩⟩
  ·have sw:fD ⟨f.a,y,z⟩ ⟨z,-y,f.a⟩:=by
    refine⟨0,-1,1,0,by omega,?_,?_,?_⟩<;>(try unfold W)<;>dsimp only<;>grind
   have L2:=L1.trans sw
   by_cases e:f.a=z
   ·exact⟨⟨z,-y,f.a⟩,L2,⟨by dsimp only;omega,by dsimp only;omega,by dsimp only;omega,λ_=>by dsimp only;omega⟩⟩
   ·obtain⟨g,l,L⟩:=ih ⟨z,-y,f.a⟩ (by dsimp only;omega) (o.eqv hD L2)
    exact⟨g,L2.trans l,L⟩
theorem tM{D:Int}(hD:D<0){f:Q}(o:Ok D f): ∃g:Q,fD f g∧MT.Least g.a g.b g.c:=mK hD f.a.toNat f (Nat.le_refl _) o
theorem jB{D:Int}(hD:D<0){f:Q}(o:Ok D f)(b:fC f): ∃g:Q,fD f g∧Cls D g:=by
 obtain⟨g,e,L⟩:=tM hD o
 exact⟨g,e,o.eqv hD e,b.eqv e,L⟩
def C(D:Int): Type:={ f:Q//Cls D f }
theorem cS{D:Int}(hD:D<0)(x y:C D): ∃z:C D,Cp x.1 y.1 z.1:=by
 obtain⟨h,o,b,c⟩:=yX hD x.2.ok y.2.ok x.2.bare y.2.bare
 obtain⟨g,e,k⟩:=jB hD o b
 exact⟨⟨g,k⟩,c.target e⟩
theorem i3{D:Int}(hD:D<0){x y z w:C D}(h1:Cp x.1 y.1 z.1)(h2:Cp x.1 y.1 w.1): z=w:=Subtype.ext (z.2.one w.2 (h1.one hD h2 x.2.ok y.2.ok z.2.ok w.2.ok x.2.bare))
def nt(D:Int): Q:=⟨1,D%2,(D%2-D)/4⟩
theorem jH{D:Int}(hD:D<0)(h4:D%4=0∨D%4=1): Cls D (nt D):=by
 have e:(D%2)*(D%2)-4*1*((D%2-D)/4)=D:=by rcases Int.emod_two_eq D with h|h<;>rw[h]<;>omega
 refine⟨⟨by unfold nt;dsimp only;omega,by unfold nt;exact e⟩,⟨1,0,0,by unfold nt;dsimp only;omega⟩,?_⟩
 unfold nt
 rcases Int.emod_two_eq D with h|h
 ·rw[h];exact⟨by dsimp only;omega,by dsimp only;omega,by dsimp only;omega,λ_=>by dsimp only;omega⟩
 ·rw[h];exact⟨by dsimp only;omega,by dsimp only;omega,by dsimp only;omega,λ_=>by dsimp only;omega⟩
theorem vh{D:Int}{f:Q}(hD:D<0)(h4:D%4=0∨D%4=1)(o:Ok D f): fD (nt D) ⟨1,f.b,f.a*f.c⟩:=by
 obtain⟨t,e⟩:=iE o
 have k:=(jH hD h4).ok.bar
 unfold nt at *
 dsimp only at k ⊢
 exact lT (t:=t) (by decide) k (by rw[e];omega) (by have:=o.bar;rw[← this];grind)
theorem yY{D:Int}{f:Q}(hD:D<0)(h4:D%4=0∨D%4=1)(o:Ok D f): Cp f (nt D) f:=by
 have c:=dZ f.a f.b 1 f.c
 rw[Int.one_mul,Int.mul_one]at c
 have e:=vh hD h4 o
 exact c.pull2 hD o ((jH hD h4).ok.eqv hD e) o e.symm
def op(f:Q): Q:=⟨f.a,-f.b,f.c⟩
theorem lB{D:Int}{f:Q}(o:Ok D f): Ok D (op f):=⟨o.pos,by have:=o.bar;unfold op;dsimp only;rw[← this];grind⟩
theorem jb{f:Q}(b:fC f): fC (op f):=by
 obtain⟨l1,l2,l3,h⟩:=b
 exact⟨l1,-l2,l3,by unfold op;dsimp only;rw[← h];grind⟩
theorem xt{D:Int}{f:Q}(hD:D<0)(h4:D%4=0∨D%4=1)(o:Ok D f): Cp f (op f) (nt D):=by
 have c0:0<f.c:=kL o.pos (by rw[o.bar];exact hD)
 have c:=dZ f.a f.b f.c 1
 rw[Int.mul_one,Int.mul_one]at c
 have sw:∀x y z:Int,fD ⟨x,y,z⟩ ⟨z,-y,x⟩:=λx y z=>by
  refine⟨0,-1,1,0,by omega,?_,?_,?_⟩<;>(try unfold W)<;>dsimp only<;>grind
 have o2:Ok D ⟨f.c,f.b,f.a⟩:=⟨c0,by have:=o.bar;dsimp only;rw[← this];grind⟩
 have o3:Ok D ⟨f.a*f.c,f.b,1⟩:=⟨Int.mul_pos o.pos c0,by have:=o.bar;dsimp only;rw[← this];grind⟩
 have c1:Cp f (op f) ⟨f.a*f.c,f.b,1⟩:=c.pull2 hD o o2 o3 (sw f.c f.b f.a)
 refine c1.target ((sw _ _ _).trans ?_)
 have:=vh hD h4 (lB o)
 exact this.symm
structure BarD(D:Int): Prop where
 neg:D<0
 four:D%4=0∨D%4=1
noncomputable def zJ{D:Int}(h:BarD D): AbG (C D) where
 mul x y:=Classical.choose (cS h.neg x y)
 one:=⟨nt D,jH h.neg h.four⟩
 inv x:=⟨Classical.choose (jB h.neg (lB x.2.ok) (jb x.2.bare)),(Classical.choose_spec (jB h.neg (lB x.2.ok) (jb x.2.bare))).2⟩
 comm x y:=i3 h.neg (Classical.choose_spec (cS h.neg x y)) (Classical.choose_spec (cS h.neg y x)).swap
 assoc x y z:=by
  have c1:=Classical.choose_spec (cS h.neg x y)
  generalize Classical.choose (cS h.neg x y)=xy at *
  have c2:=Classical.choose_spec (cS h.neg xy z)
  generalize Classical.choose (cS h.neg xy z)=xyz at *
  have c3:=Classical.choose_spec (cS h.neg y z)
  generalize Classical.choose (cS h.neg y z)=yz at *
  have c4:=Classical.choose_spec (cS h.neg x yz)
  generalize Classical.choose (cS h.neg x yz)=w at *
  exact Subtype.ext (xyz.2.one w.2 (uD h.neg x.2.ok y.2.ok z.2.ok x.2.bare y.2.bare z.2.bare xy.2.ok xyz.2.ok yz.2.ok w.2.ok xy.2.bare c1 c2 c3 c4))
 mul_one x:=by
  have c1:=Classical.choose_spec (cS h.neg x ⟨nt D,jH h.neg h.four⟩)
  exact i3 h.neg c1 (yY h.neg h.four x.2.ok)
 mul_inv x:=by
  have c1:=Classical.choose_spec (cS h.neg x ⟨Classical.choose (jB h.neg (lB x.2.ok) (jb x.2.bare)),(Classical.choose_spec (jB h.neg (lB x.2.ok) (jb x.2.bare))).2⟩)
  have e:=(Classical.choose_spec (jB h.neg (lB x.2.ok) (jb x.2.bare))).1
  refine i3 h.neg c1 ?_
  exact(xt h.neg h.four x.2.ok).pull2 h.neg x.2.ok (lB x.2.ok) (jH h.neg h.four).ok e
theorem wH{D:Int}(h:BarD D)(x y:C D): Cp x.1 y.1 ((zJ h).mul x y).1:=Classical.choose_spec (cS h.neg x y)
theorem u5{D:Int}(h:BarD D){x y z:C D}(c:Cp x.1 y.1 z.1): (zJ h).mul x y=z:=i3 h.neg (wH h x y) c
end MG
namespace CM
open PySem PySem.Spec L2 FL FT MG
abbrev qD(q:Q): D:=ar q.a q.b q.c
abbrev QJ(q:Q): Prop:=FormJ q.a q.b q.c
theorem uu{q:Q}(h:fC q): Int.gcd (Int.gcd q.a q.b) q.c=1:=by
 obtain⟨l1,l2,l3,hl⟩:=h
 have d1:((Int.gcd (Int.gcd q.a q.b) q.c:Nat):Int) ∣ ((Int.gcd q.a q.b:Nat):Int):=Int.gcd_dvd_left _ _
 have da:=Int.dvd_trans d1 (Int.gcd_dvd_left q.a q.b)
 have db:=Int.dvd_trans d1 (Int.gcd_dvd_right q.a q.b)
 have dc:((Int.gcd (Int.gcd q.a q.b) q.c:Nat):Int) ∣ q.c:=Int.gcd_dvd_right _ _
 have:((Int.gcd (Int.gcd q.a q.b) q.c:Nat):Int) ∣ ((1:Nat):Int):=by
  show _ ∣ (1:Int)
  rw[← hl]
  exact Int.dvd_add (Int.dvd_add (Int.dvd_mul_of_dvd_right da) (Int.dvd_mul_of_dvd_right db)) (Int.dvd_mul_of_dvd_right dc)
 exact Nat.dvd_one.mp (Int.natCast_dvd_natCast.mp this)
structure BarS(i:Int): Prop where
 d:BarD i
 s:Bd i 1200
theorem yV{i:Int}(h:BarS i)(x:C i): QJ x.1:=by
 have e:=x.2.ok.bar
 refine rV (vd x.2.ok.pos x.2.least ?_ ?_) x.2.least (uu x.2.bare)
 ·rw[e];exact h.d.neg
 ·rw[e];exact h.s
section
variable {X : Cx} {e1 e2 : Expr} {ρ : Ro} {p0 p1 p2 p3 : Pos} {m : Nat} {i : Int}
theorem qK{f g:Q}{x y:C i}(hi:BarS i)(Gj:oB X.prog X.w X.K X.mg X.base 8 "joined" cM cN)(hr:Room 8 X.A)(h1:Ev X e1 ρ (qD f))(h2:Ev X e2 ρ (qD g))(J1:QJ f)(J2:QJ g)(c1:fD f x.1)(c2:fD g y.1)
  (hg:Gl X "joined":= by rfl) (he:starEach [e1,e2] X.env=(false,eval e1 X.env)::starEach [e2] X.env:=by rfl) (he2:starEach [e2] X.env=(false,eval e2 X.env)::starEach [] X.env:=by rfl) (hpl:(backTo p1 (starEach [e2] X.env)).any (·.1)=false:=by rfl) :
  Ev X (.Subscript (.Call (.Name "joined" p0) [e1,e2] [] p1) (.Constant (.int 0) m p2) p3) ρ (qD ((zJ hi.d).mul x y).1):=by
 have b1:f.b*f.b-4*f.a*f.c=i:=by have:=c1.symm.bar;rw[this];exact x.2.ok.bar
 have b2:g.b*g.b-4*g.a*g.c=i:=by have:=c2.symm.bar;rw[this];exact y.2.ok.bar
 refine rD.ev (xS (cQ Gj hr (ad h1 (ad h2 ae he2) he) ⟨f.a,f.b,f.c,g.a,g.b,g.c,rfl,J1,J2,by rw[b1,b2]⟩ hg (by decide) he hpl) aa (λc hc=> ?_))
 obtain⟨A2,B2,C2,Z0,Z1,Z2,Z3,W0,W1,W2,W3,rfl,K2⟩:=hc _ _ _ _ _ _ rfl
 have kJ:=K2.J J1 J2
 have okF:Cls i ⟨A2,B2,C2⟩:=⟨⟨K2.s.pos,by rw[← b1];exact K2.bar⟩,xK (K2.bare J1 J2),K2.least⟩
 have cp:Cp f g ⟨A2,B2,C2⟩:=⟨_,_,_,_,_,_,_,_,K2.comp⟩
 have cp2:=(cp.pull hi.d.neg ⟨J1.pos,b1⟩ ⟨J2.pos,b2⟩ okF.ok c1).pull2 hi.d.neg x.2.ok ⟨J2.pos,b2⟩ okF.ok c2
 have e:=u5 hi.d (x:=x) (y:=y) (z:=⟨_,okF⟩) cp2
 exact⟨_,_,rfl,rfl,by rw[e]⟩
end
def dI(ds:List D)(d:D): Prop:=∃n:Int,ds=[.int n]∧d = .non
def du(ds:List D)(d:D): Prop:=∃n l h:Int,ds=[.int n,.int l,.int h]∧l≤n∧n≤h∧d = .non
end CM
namespace CM
open PySem PySem.Spec L2 FL FT MG
end CM
namespace FL
open PySem PySem.Spec PyProof.Rows L2
section
variable {X : Cx} {e a b c tg : Expr} {es : List Expr} {ρ : Ro} {d : D} {ds : List D} {pos : Pos} {i j k : Int} {rest A B : List Stmt} {P : Po}
theorem xO(n:Nat){x:Str}{pos':Pos}(hρ:ρ[n]?=some (some (.int i)))(he:Ev X e ρ (.int j))(h:Do X rest (ρ.set n (some (.int (i+j)))) P)(hN:X.N.Nodup)(hi:X.N[n]?=some x:=by rfl)(hx:Loc X.env.scope x:=by first|exact Or.inl rfl|exact Or.inr rfl)
  (hf:X.fn x=true∨X.env.scope.names.lookup x=some .local:=by first|exact .inl rfl|exact .inr rfl):Do X (.AugAssign (.Name x pos') .Add e pos::rest) ρ P:=by
 refine dH (M:=λρ'=>ρ'=ρ.set n (some (.int (i+j)))) (PS.imp (ps_aug hN hi hx he ip_add hf) ?_) (λ_ z=>z▸h)
 rintro D σ H ⟨r,q1,q2,q3,q4⟩
 obtain⟨v,e1,h1,_⟩:=r.val n _ hρ
 cases h1.int_inv
 refine⟨.int i,e1,r.e,λv H' s h'=> ?_⟩
 cases h'.int_inv
 exact⟨i,j,rfl,rfl,q1 _ H' _ (Go.set s λa z=>by cases z) ((r.mono s).set (.int _) n (.inl (.int _)) λa z=>by cases z) rfl⟩
end
section
variable {X : Cx} {e a b c tg : Expr} {es : List Expr} {ρ : Ro} {d : D} {ds : List D} {pos : Pos} {i j k : Int} {rest A B : List Stmt} {P : Po}
end
end FL
namespace MP
def Sm(p a b:Int): Prop:=p ∣ a-b
theorem Sm.refl(p a:Int): Sm p a a:=by unfold Sm;rw[Int.sub_self];exact Int.dvd_zero _
theorem Sm.symm{p a b:Int}(h:Sm p a b): Sm p b a:=by
 unfold Sm at *
 have:=Int.dvd_neg.mpr h
 rwa [Int.neg_sub]at this
theorem Sm.trans{p a b c:Int}(h:Sm p a b)(g:Sm p b c): Sm p a c:=by
 unfold Sm at *
 have:=Int.dvd_add h g
 have e:a-b+(b-c)=a-c:=by omega
 rwa [e]at this
theorem Sm.mul{p a b c d:Int}(h:Sm p a b)(g:Sm p c d): Sm p (a*c) (b*d):=by
 unfold Sm at *
 have:=Int.dvd_add (Int.dvd_mul_of_dvd_left (c:=c) h) (Int.dvd_mul_of_dvd_right (b:=b) g)
 have e:(a-b)*c+b*(c-d)=a*c-b*d:=by grind
 rwa [e]at this
theorem Sm.pow{p a b:Int}(h:Sm p a b)(n:Nat): Sm p (a^n) (b^n):=by
 induction n with
 | zero=>rw[Int.pow_zero,Int.pow_zero];exact .refl _ _
 | succ n ih=>rw[Int.pow_succ,Int.pow_succ];exact ih.mul h
theorem Sm.mod(p a:Int): Sm p (a%p) a:=by
 refine Sm.symm ⟨a/p,?_⟩
 have:=Int.mul_ediv_add_emod a p
 omega
theorem Sm.emod{p a b:Int}(h:Sm p a b): a%p=b%p:=Int.emod_eq_emod_iff_emod_sub_eq_zero.mpr (Int.emod_eq_zero_of_dvd h)
end MP
namespace CM
open PySem PySem.Spec L2 FL FT MP
def aS(ds:List D)(d:D): Prop:=∃i l:Int,ds=[.int i,.int l]∧i<0∧(i%4=0∨i%4=1)∧l≤i∧d = .non
theorem vB(p f s:Int)(n:Nat): Sm p (f*s^n) ((if n%2=1 then f*s%p else f)*(s*s%p)^(n/2)):=by
 have e:s^n=(if n%2=1 then s else 1)*(s*s)^(n/2):=by
  have e2:(s*s)^(n/2)=s^(2*(n/2)):=by
   rw[Int.pow_mul]
   congr 1
   rw[Int.pow_succ,Int.pow_succ,Int.pow_zero,Int.one_mul]
  rw[e2]
  rcases Nat.mod_two_eq_zero_or_one n with h|h
  ·rw[if_neg (by omega),Int.one_mul]
   congr 1
   omega
  ·rw[if_pos h]
   have:n=2*(n/2)+1:=by omega
   generalize n/2=k at *
   rw[this,Int.pow_succ,Int.mul_comm]
 rw[e]
 have k1:Sm p ((s*s)^(n/2)) ((s*s%p)^(n/2)):=(Sm.mod p (s*s)).symm.pow _
 rcases Nat.mod_two_eq_zero_or_one n with h|h
 ·rw[if_neg (by omega),if_neg (by omega),Int.one_mul]
  exact(Sm.refl p f).mul k1
 ·rw[if_pos h,if_pos h,← Int.mul_assoc]
  exact(Sm.mod p (f*s)).symm.mul k1
end CM
namespace CM
open PySem PySem.Spec L2 FL FT MP
end CM
namespace CM
open PySem PySem.Spec L2 FL FT MG
end CM
namespace FQ
open PySem PyProof.Rows
section
variable {M : Model} {A : Around} {E : Value → Shared → Prop} {s : Shared} {κ : SortKind} {kf : Keyed → Int} {S : Keyed → Prop}
end
end FQ
namespace FQ
open PySem PyProof.Rows
section
variable {kf : Keyed → Int} {T O X X1 X2 Y Y1 Y2 : List Keyed}
end
end FQ
namespace FQ
open PySem PyProof.Rows
section
variable {M : Model} {A : Around} {E : Value → Shared → Prop} {s : Shared} {κ : SortKind} {kf : Keyed → Int} {S : Keyed → Prop}
end
end FQ
namespace FQ
open PySem PyProof.Rows
section
variable {kf : Keyed → Int} {T O X Y : List Keyed}
end
section
variable {M : Model} {A : Around} {E : Value → Shared → Prop} {s : Shared} {κ : SortKind} {kf : Keyed → Int} {S : Keyed → Prop}
end
end FQ
namespace FQ
open PySem PyProof.Rows
section
variable {kf : Keyed → Int}
end
end FQ
namespace FQ
open PySem PyProof.Rows
section
variable {M : Model} {A : Around} {E : Value → Shared → Prop} {s : Shared} {κ : SortKind} {kf : Keyed → Int} {S : Keyed → Prop}
end
end FQ
namespace FQ
open PySem PyProof.Rows
section
variable {kf : Keyed → Int} {arr : Array Keyed}
end
section
variable {prog : Program} {w : World} {A : Around} {E : Value → Shared → Prop} {s : Shared} {κ : SortKind} {kf : Keyed → Int} {S : Keyed → Prop}
end
end FQ
namespace FQ
open PySem PyProof.Rows
section
variable {prog : Program} {w : World} {A : Around} {E : Value → Shared → Prop} {s : Shared} {κ : SortKind} {kf : Keyed → Int} {S : Keyed → Prop}
end
section
variable {kf : Keyed → Int}
end
section
variable {prog : Program} {w : World} {A : Around} {E : Value → Shared → Prop} {s : Shared} {κ : SortKind} {kf : Keyed → Int} {S : Keyed → Prop}
end
end FQ
namespace FQ
open PySem PyProof.Rows
section
variable {prog : Program} {w : World} {A : Around} {E : Value → Shared → Prop} {s : Shared} {κ : SortKind} {kf : Keyed → Int} {S : Keyed → Prop}
end
end FQ
namespace FT
open PySem PySem.W PySem.Calls PyProof.Rows
section
variable {prog : Program} {w : World} {A : Around} {E : Value → Shared → Prop} {s : Shared} {vs : List Value} {r : Nat → Int} {κ : SortKind} {n : Nat}
end
end FT
namespace FT
open PySem PySem.W PySem.Spec PySem.Calls PyProof.Rows L2 FL
section
variable {X : Cx} {pins : List (Addr × Obj)} {σ : L2.St} {H : Hp} {s : Shared}
variable {e : Expr} {ρ : Ro} {d : D} {pos p : Pos} {ts : List (List Int)} {k : Nat}
end
end FT
namespace MS
end MS
namespace FL
open PySem PySem.Spec PyProof.Rows L2
section
variable {X : Cx} {e a b c : Expr} {ρ : Ro} {ds : List D} {pos : Pos} {l : Addr}
end
end FL
namespace CM
open PySem PySem.Spec L2 FL FT
end CM
namespace CM
open PySem PySem.Spec L2 FL FT
end CM
namespace CM
open PySem PySem.Spec L2 FL FT
end CM
namespace CM
open PySem PySem.Spec L2 FL FT
end CM
namespace FT
open PySem PySem.W PySem.Spec PySem.Calls PyProof.Rows L2 FL
end FT
namespace CM
open PySem PySem.Spec L2 FL FT MG
end CM
namespace MD
open MG MJ MP
end MD
namespace MD
open MG MJ MP
end MD
namespace MD
open MG MJ MP CM
end MD
namespace MD
open MG MJ MP CM
def mf(n:Nat): Nat:=((List.range (n+1)).find? λd=>decide (2≤d)&&decide (d ∣ n)).getD n
theorem mf_spec{n:Nat}(h:2≤n): 2≤mf n∧mf n ∣ n∧∀d,2≤d→d ∣ n→mf n≤d:=by
 unfold mf
 cases e:(List.range (n+1)).find? λd=>decide (2≤d)&&decide (d ∣ n)with
 | none=>
  have:=List.find?_eq_none.mp e n (List.mem_range.mpr (by omega))
  simp[h]at this
 | some m=>
  obtain⟨h1,as,bs,h2,h3⟩:=List.find?_eq_some_iff_append.mp e
  simp only[Bool.and_eq_true,decide_eq_true_eq]at h1
  refine⟨h1.1,h1.2,λd d2 dn=>Nat.not_lt.mp λz=> ?_⟩
  rw[Option.getD_some]at z
  have dl:d≤n:=Nat.le_of_dvd (by omega) dn
  have md:d∈as:=by
   have hm:d∈List.range (n+1):=List.mem_range.mpr (by omega)
   have hs:(List.range (n+1)).Pairwise (· < ·):=List.pairwise_lt_range
   rw[h2]at hm hs
   rcases List.mem_append.mp hm with q|q
   ·exact q
   ·have:=List.pairwise_append.mp hs
    rcases List.mem_cons.mp q with q|q
    ·omega
    ·have:=(List.pairwise_cons.mp this.2.1).1 d q
     omega
  have:=h3 d md
  simp[d2,dn]at this
theorem zf{n p:Nat}(h2:2≤p)(hp:p ∣ n)(hn:0<n)(h:∀d,2≤d→d ∣ n→p≤d): mf n=p:=by
 have n2:2≤n:=Nat.le_trans h2 (Nat.le_of_dvd hn hp)
 obtain⟨a,b,c⟩:=mf_spec n2
 exact Nat.le_antisymm (c p h2 hp) (h _ a b)
theorem mf_pr{n:Nat}(h:2≤n): Pr (mf n):=by
 obtain⟨a,b,c⟩:=mf_spec h
 refine⟨a,λd hd=> ?_⟩
 by_cases z:d=1
 ·exact .inl z
 ·right
  have d0:0<d:=Nat.pos_of_dvd_of_pos hd (by omega)
  exact Nat.le_antisymm (Nat.le_of_dvd (by omega) hd) (c d (by omega) (Nat.dvd_trans hd b))
theorem mf_lt{n:Nat}(h:¬n<2): n/mf n<n:=Nat.div_lt_self (by omega) (mf_spec (by omega)).1
def PF(n:Nat): List Nat:=if h:n<2 then []else mf n::PF (n/mf n)
termination_by n
decreasing_by exact mf_lt h
theorem PF_small{n:Nat}(h:n<2): PF n=[]:=by
 rw[PF,dif_pos h]
theorem PF_cons{p m:Nat}(h2:2≤p)(hm:0<m)(h:∀d,2≤d→d ∣ p*m→p≤d): PF (p*m)=p::PF m:=by
 have pm:2≤p*m:=Nat.le_trans h2 (Nat.le_mul_of_pos_right p hm)
 have e:=zf h2 (Nat.dvd_mul_right p m) (by omega) h
 rw[PF,dif_neg (by omega),e,Nat.mul_div_cancel_left m (by omega)]
end MD
namespace FL
open PySem PySem.Spec PyProof.Rows L2
theorem intsAre_of:∀ {ns:List Int} {us:List Value},Vals (ns.map V.int) us→IntsAre us ns
 | [],_,.nil=>.nil
 | n::_,_,.cons r t=>by
  obtain⟨k,rfl⟩:=r
  exact .cons n k (intsAre_of t)
section
variable {X : Cx} {e a b c : Expr} {es : List Expr} {ρ : Ro} {d x f : D} {ds gs : List D} {pos : Pos} {i j : Int} {k k' : Bool}
theorem nQ{l:Addr}(ha:Ev X a ρ (.lst l ds))(hb:iS X b ρ gs)(hl:ds.length+gs.length≤1000000): iS X (.BinOp a .Add b pos) ρ (ds++gs):=
 PE.imp (pe_op op_cat ha hb) λσ H Q ⟨r,q⟩=>⟨r,λv1 H1 s1 h1=>⟨r.mono s1,λb' vs H2 hfr s2 hB h3=>by
  obtain⟨rfl,xs,hT,hA⟩:=(h1.mono s2).lst_inv
  refine⟨l,b',xs,vs,rfl,rfl,hT,hB,by rw[hA.length,h3.length,sizeLine_eq];omega,λp hp=> ?_⟩
  exact q p _ _ ((s1.trans s2).free hp) ((s1.trans s2).trans (bA hp)) upd_same ((hA.append h3).mono (bA hp))⟩⟩
end
end FL
namespace CM
open PySem PySem.Spec L2 FL FT FU MG MD MP
abbrev nD(p:Nat): D:=.int (p:Int)
def yh(ds es:List D): Prop:=∃n:Nat,ds=[nD n]∧0<n∧n≤4000000∧es=(PF n).map nD
theorem mS{k n:Nat}(h:2^k≤n)(hn:n≤4000000): k<22:=Nat.not_le.mp λz=>by
 have:=Nat.pow_le_pow_right (show 0<2 by decide) z
 omega
theorem wf{k r:Nat}(hr:1<r)(h:∀d,2≤d→d ∣ r→k≤d)(hk:r<k*k): PF r=[r]:=by
 have e:PF (r*1)=r::PF 1:=PF_cons (by omega) Nat.one_pos λd h2 hd=>by
  rw[Nat.mul_one]at hd
  obtain⟨e,he⟩:=hd
  have e0:0<e:=Nat.pos_of_ne_zero λz=>by rw[z,Nat.mul_zero]at he;omega
  have:¬2≤e:=λz=>by
   have h1:=h d h2 ⟨e,he⟩
   have h3:=h e z ⟨d,by rw[he,Nat.mul_comm]⟩
   have:=Nat.mul_le_mul h1 h3
   omega
  have e1:e=1:=by omega
  rw[e1,Nat.mul_one]at he
  omega
 rw[Nat.mul_one,PF_small (show 1<2 by decide)]at e
 exact e
theorem um{n:Nat}: ∀p∈PF n,Pr p∧p ∣ n:=by
 induction n using Nat.strongRecOn with
 | _ n ih=>
  intro p hp
  by_cases h:n<2
  ·rw[PF_small h]at hp;cases hp
  ·have e:PF n=mf n::PF (n/mf n):=by rw[PF];exact dif_neg h
   rw[e]at hp
   have s:=mf_spec (show 2≤n by omega)
   rcases List.mem_cons.mp hp with rfl|hp
   ·exact⟨mf_pr (by omega),s.2.1⟩
   ·obtain⟨h1,h2⟩:=ih _ (mf_lt h) p hp
    exact⟨h1,Nat.dvd_trans h2 (Nat.div_dvd_of_dvd s.2.1)⟩
theorem pr_odd{p:Nat}(h:Pr p)(h2:p≠2): p%2=1:=by
 rcases Nat.mod_two_eq_zero_or_one p with z|z
 ·rcases h.2 2 (Nat.dvd_of_mod_eq_zero z)with q|q
  ·cases q
  ·omega
 ·exact z
theorem yj{p:Nat}(h:Pr p)(h2:p≠2): 3≤p:=by have:=h.1;omega
def sk(ds:List D)(d:D): Prop:=∃(b p:Int) (e:Nat),ds=[.int b,.int (e:Int),.int p]∧2≤p∧p≤4000000∧0≤b∧b<p∧d = .int (b^e%p)
def pK(ds:List D)(d:D): Prop:=∃(i:Int) (p:Nat),ds=[.int i,nD p]∧3≤p∧p%2=1∧p≤4000000∧d = .bl (decide (i^(p/2)%(p:Int)=1))
end CM
namespace L2
open PySem PySem.Spec PyProof.Rows
section
variable {κ : Type} [DecidableEq κ]
end
section
variable {P : Program} {w : World} {H : Hp} {h : Heap} {a : Addr}
end
section
variable {X : Cx} {pins : List (Addr × Obj)} {σ : St} {H : Hp} {s : Shared} {a : Addr} {y v : V} {u r : Value} {o : Option V} {A : Around} {E : Value → Shared → Prop}
theorem Inv.big(I:Inv X pins σ H s): sysModules<s.heap.objs.size:=by
 have h:mainGlobals<s.heap.objs.size:=(I.mod.glob.keeps I.bk).lt
 exact Nat.lt_trans (by decide) h
end
section
variable {X : Cx} {pins : List (Addr × Obj)} {σ : St} {H : Hp} {s : Shared} {a : Addr} {kvs : List (Key × V)} {k : Key} {u : Value} {A : Around} {E : Value → Shared → Prop}
end
section
variable {X : Cx} {o i e value : Expr} {pos pos' tpos : Pos} {td ty tv : TE}
end
theorem uH{P:Program}{w:World}{H:Hp}(h:Heap)(hb:sysModules<h.objs.size): ObjOk P w H (h.push { cls:=.type "dict",data:=.dict #[] }) h.objs.size (.dT []):=
 ⟨Nat.zero_le _,beq_eq_false_iff_ne.mpr (Ne.symm (Nat.ne_of_lt hb)),[],.nil,_,#[],0,Heap.get?_push_size _ rfl,⟨rfl,rfl,rfl⟩,rfl,rfl,List.nodup_nil⟩
def yr:TE:=λ_ H Q=>∀p,H p=none→Q (.ref p) (upd H p (.dT []))
section
variable {X : Cx} {pos : Pos}
theorem vw:PE X (.Dict [] [] pos) yr:=λpins s σ H Q I h=>
 wpAny_Dict_empty ⟨.ref s.heap.objs.size,_,I.laid (a:=s.heap.objs.size) (o:=.dT []) (t':=s.toks) (λ_ _ q=>Heap.get?_push_of_some _ q) (Nat.le_refl _) (uH s.heap I.big),rfl,h _ (I.hok.fresh (Nat.le_refl _))⟩
end
section
variable {X : Cx} {pins : List (Addr × Obj)} {σ : St} {H : Hp} {s : Shared} {a : Addr} {y d : V} {u r : Value} {o : Option V} {A : Around} {E : Value → Shared → Prop}
end
section
variable {X : Cx} {o e f : Expr} {apos cpos : Pos} {td ty tx : TE}
end
section
variable {X : Cx} {pins : List (Addr × Obj)} {σ : St} {H : Hp} {s : Shared} {a : Addr} {kvs : List (Key × V)} {A : Around} {E : Value → Shared → Prop}
end
section
variable {X : Cx} {pins : List (Addr × Obj)} {σ : St} {H : Hp} {s : Shared} {a : Addr} {y : V} {u : Value} {A : Around} {E : Value → Shared → Prop}
end
end L2
namespace L2
open PySem PySem.Spec PyProof.Rows
section
variable {X : Cx}
end
end L2
namespace L2
open PySem PySem.Spec PyProof.Rows
section
variable {κ : Type} [DecidableEq κ]
end
end L2
namespace FL
open PySem PySem.Spec PyProof.Rows L2
section
variable {X : Cx} {pins : List (Addr × Obj)} {σ : L2.St} {H : Hp} {s : Shared}
theorem ObjOk.obj{P:Program}{w:World}{h:Heap}{a:Addr}{u:HO}(x:ObjOk P w H h a u){xs:List V}(mu:u = .lst xs∨(xu u).isSome=true): ∃o,h.get? a=some o:=by
 cases u with
 | lst ys=>obtain⟨_,_,_,_,e⟩:=x;exact⟨_,e⟩
 | dK kvs=>obtain⟨_,_,_,_,o,_,_,e,_⟩:=x;exact⟨_,e⟩
 | dT kvs=>obtain⟨_,_,_,_,o,_,_,e,_⟩:=x;exact⟨_,e⟩
 | _=>rcases mu with z|z<;>cases z
theorem qa{a:Addr}{u o:HO}(hH:H a=some u)(hu:∀ys,u≠.tup ys)(hf:∀ob v,u≠.frz ob v): KT H (upd H a o):=
 ⟨λb ys h=>by rw[upd_ne (λz=>by subst z;rw[hH]at h;cases h;exact hu _ rfl)];exact h,λb ob v h=>by rw[upd_ne (λz=>by subst z;rw[hH]at h;cases h;exact hf _ _ rfl)];exact h⟩
theorem Inv.freeze(I:L2.Inv X pins σ H s){a:Addr}{u:HO}{xs:List V}(hH:H a=some u)(mu:u = .lst xs∨(xu u).isSome=true): ∃o,L2.Inv X pins σ (upd H a (.frz o u)) s:=by
 have ok:=I.hok a u hH
 obtain⟨o,ho⟩:=ObjOk.obj ok mu
 have nt:∀ys,u≠.tup ys:=λys z=>by subst z;rcases mu with z|z<;>cases z
 have nf:∀ob v,u≠.frz ob v:=λob v z=>by subst z;rcases mu with z|z<;>cases z
 have no:∀y,u≠.own y:=λob z=>by subst z;rcases mu with z|z<;>cases z
 have kt:KT H (upd H a (.frz o u)):=qa hH nt nf
 have m:Mut (H a):=by
  rw[hH]
  cases u with
  | lst ys=>trivial
  | dK kvs=>trivial
  | dT kvs=>trivial
  | _=>rcases mu with z|z<;>cases z
 refine⟨o,I.write (x:=a) (e:=a) (o:=.frz o u) (h':=s.heap) (t':=s.toks) m (.inl rfl) (λb v _ h=>h) ⟨o,ho⟩ ⟨ho,?_⟩⟩
 exact ok.stay (λb v _ h=>h) (λb h=>by rw[upd_ne (λz=>by subst z;rw[hH]at h;cases h;exact no _ rfl)];exact h) kt.1
end
section
variable {X : Cx} {e a b c : Expr} {es : List Expr} {ρ : Ro} {d : D} {ds : List D} {pos : Pos} {rest : List Stmt} {P : Po}
theorem iI(h:iS X e ρ ds)(hz:∀d∈ds,Fz d): Ev X e ρ (.fl ds):=by
 intro pins s σ H Q I ⟨r,q⟩
 refine thn (h pins s σ H (λx H'=>∃a vs,x = .ref a∧H a=none∧Same H H'∧H' a=some (.lst vs)∧IsAll X.K H' vs ds) I ⟨r,λa vs H' h1 h2 h3 h4=>⟨a,vs,rfl,h1,h2,h3,h4⟩⟩) ?_
 rintro v s' ⟨x,H',I',rx,a,vs,rfl,h1,h2,h3,h4⟩
 obtain⟨o,I2⟩:=Inv.freeze I' h3 (.inl rfl)
 have kt:KT H' (upd H' a (.frz o (.lst vs))):=qa h3 (λ_ z=>by cases z) (λ_ _ z=>by cases z)
 exact⟨.ref a,_,I2,rx,q _ _ (λb u hb=>by rw[upd_ne (ne_of_none hb h1)];exact h2 b u hb) (.fl upd_same (h4.keep kt hz))⟩
def tND(X:Cx)(ρ:Ro)(t:Bool)(ks vs:List D): TE:=λσ H Q=>RelE X H σ ρ∧∀a u us H',H a=none→Same H H'→H' a=some u→xu u=some (t,ks,us)→IsAll X.K H' us vs→Q (.ref a) H'
def yO(X:Cx)(e:Expr)(ρ:Ro)(t:Bool)(ks vs:List D): Prop:=PE X e (tND X ρ t ks vs)
variable {ks vs : List D} {t : Bool}
theorem tu:yO X (.Dict [] [] pos) ρ true [] []:=PE.imp vw λσ H Q ⟨r,q⟩ p hp=>q p _ [] _ hp (bA hp) upd_same rfl .nil
end
section
variable {X : Cx} {e a b c : Expr} {es : List Expr} {ρ : Ro} {d f kd : D} {ds ks vs : List D} {t : Bool} {pos : Pos} {rest : List Stmt} {P : Po}
theorem uF(n:Nat){x:Str}{pos':Pos}(he:yO X e ρ t ks vs)(hz:∀d∈vs,Fz d)(h:∀l,¬Mu ρ l→Do X rest (ρ.set n (some (.dc l t ks vs))) P)(hN:X.N.Nodup)(hi:X.N[n]?=some x:=by rfl)(hx:Loc X.env.scope x:=by first|exact Or.inl rfl|exact Or.inr rfl)
  (hs:swapsWith e (some (.Name x pos')) pos.line X.env=pure false:=by rfl) (hf:X.fn x=true∨X.env.scope.names.lookup x=some .local:=by first|exact .inl rfl|exact .inr rfl):Do X (.Assign [.Name x pos'] e pos::rest) ρ P:=by
 refine dH (M:=λρ'=>∃l,¬Mu ρ l∧ρ'=ρ.set n (some (.dc l t ks vs))) (PS.imp (ps_set hN hi hx he hs hf) ?_) (λ_ ⟨l,hl,z⟩=>z▸h l hl)
 rintro D σ H ⟨r,q1,q2,q3,q4⟩
 refine⟨r.e,λl u us H' hl s e1 e2 h'=>q1 _ H' _ (Go.set s λa z=> ?_) ((r.mono s).set (.dc e1 e2 h') n (.inr (.inr (.dc hz))) λa z=> ?_) ⟨l,λm=> ?_,rfl⟩⟩
 ·cases z
  exact .inr hl
 ·cases z
  exact r.same.free hl
 ·obtain⟨ys,z,_⟩:=r.mu m
  rw[hl]at z
  cases z
end
section
variable {X : Cx} {e : Expr} {es : List Expr} {ρ : Ro} {ds ks vs : List D} {t : Bool} {pos : Pos}
end
section
variable {P : Program} {w : World} {K : PySem.W.Frag} {mg : Str → Option Value} {base : Heap}
end
end FL
namespace FO
open PySem PySem.Spec PyProof.Rows
set_option maxRecDepth 100000
section
variable {prog : Program} {w : World} {A : Around} {E : Value → Shared → Prop} {s : Shared}
end
end FO
namespace FL
open PySem PySem.Spec PyProof.Rows L2
section
variable {X : Cx} {e a b c tg : Expr} {es : List Expr} {ρ : Ro} {d d' : D} {ds : List D} {pos : Pos} {i j : Int} {rest A B : List Stmt} {P : Po}
end
end FL
namespace FO
open PySem PySem.Spec PyProof.Rows
set_option maxRecDepth 100000
section
variable {prog : Program} {w : World} {A : Around} {E : Value → Shared → Prop} {s : Shared} {d : Addr} {es : Array DictEntry} {ep : Nat}
end
end FO
namespace FL
open PySem PySem.Spec PyProof.Rows L2
section
variable {X : Cx} {e a b c tg : Expr} {es : List Expr} {ρ : Ro} {d d' : D} {ds ks vs : List D} {t : Bool} {pos : Pos} {rest A B : List Stmt} {P : Po}
end
end FL
namespace FO
open PySem PySem.Spec PyProof.Rows
set_option maxRecDepth 100000
section
variable {prog : Program} {w : World} {A : Around} {E : Value → Shared → Prop} {s : Shared} {d : Addr} {es : Array DictEntry} {ep : Nat}
end
end FO
namespace FL
open PySem PySem.Spec PyProof.Rows L2
section
variable {X : Cx} {e : Expr} {ρ : Ro} {ks vs : List D} {t : Bool} {pos : Pos} {x : Str} {px : Pos}
end
end FL
namespace FT
open PySem PySem.W PySem.Spec PySem.Calls PyProof.Rows L2 FL
def o9(ns:List Int): List Int:=ns.mergeSort λa b=>decide (a≤b)
theorem dS(ns:List Int): (o9 ns).Perm ns:=List.mergeSort_perm _ _
theorem nW(ns:List Int): (o9 ns).Pairwise (·≤·):=by
 have h:=List.pairwise_mergeSort (le:=λa b:Int=>decide (a≤b)) (λa b c x y=>by
  simp only[decide_eq_true_eq]at x y ⊢
  omega) (λa b=>by
  simp only[Bool.or_eq_true,decide_eq_true_eq]
  omega) ns
 exact h.imp λx=>by simpa using x
theorem wJ{l ns:List Int}(hp:l.Perm ns)(hu:l.Pairwise (·≤·)): l=o9 ns:=
 List.Perm.eq_of_pairwise (λ_ _ _ _ x y=>Int.le_antisymm x y) hu (nW ns) (hp.trans (dS ns).symm)
theorem o8{n:Nat}{ts:List Int}{p:Array Nat}(hn:ts.length=n)(hp:Pm n p)(hu:Up (λi=>ts.getD i 0) p n): (p.toList.map λi=>ts.getD i 0)=o9 ts:=by
 have h1:p.toList.Perm (List.range n):=by simpa using Array.perm_iff_toList_perm.mp hp
 have h2:=h1.map λi=>ts.getD i 0
 have h3:(List.range n).map (λi=>ts.getD i 0)=ts:=by
  refine List.ext_getElem (by simp[hn]) λi a b=> ?_
  simp[b]
 rw[h3]at h2
 refine wJ h2 ?_
 have sz:=hp.size
 rw[List.pairwise_iff_getElem]
 intro i j a b hij
 simp only[List.length_map,Array.length_toList]at a b
 have h:=hu i j (Nat.le_of_lt hij) (by omega)
 have ei:p.getD i 0=p[i]:=by simp[Array.getD,a]
 have ej:p.getD j 0=p[j]:=by simp[Array.getD,b]
 unfold kv at h
 rw[ei,ej]at h
 simp only[List.getElem_map,Array.getElem_toList]
 exact h
theorem int_at:∀ {ns:List Int} {us:List Value} (i:Nat),IntsAre us ns→i<us.length→∃t,us.getD i Value.none = .int (ns.getD i 0) t
 | _,_,i,.nil,h=>by simp at h
 | _,_,0,.cons n t _,_=>⟨t,rfl⟩
 | _,_,i+1,.cons n t r,h=>by
  obtain⟨t',e⟩:=int_at i r (by simpa using h)
  exact⟨t',by simpa using e⟩
theorem dG:∀ {ns:List Int} {us:List Value},IntsAre us ns→us.length=ns.length
 | _,_,.nil=>rfl
 | _,_,.cons _ _ r=>by simp[dG r]
theorem jS:∀ {ns:List Int} {us:List Value},IntsAre us ns→∀v∈us,∃n t,v = .int n t
 | _,_,.nil,v,h=>by cases h
 | _,_,.cons n t r,v,h=>by
  rcases List.mem_cons.mp h with rfl|h
  ·exact⟨n,t,rfl⟩
  ·exact jS r v h
section
variable {X : Cx} {pins : List (Addr × Obj)} {σ : L2.St} {H : Hp} {s : Shared}
variable {e : Expr} {ρ : Ro} {d : D} {pos p : Pos} {ns : List Int}
end
end FT
namespace FL
open PySem PySem.W PySem.Spec PySem.Calls PyProof.Rows L2 FT
section
variable {X : Cx}
variable {a b : Expr} {ρ : Ro} {f : D} {ns : List Int} {k : Int}
end
section
variable {X : Cx} {a : Expr} {ρ : Ro} {t k : Bool} {ks vs ds : List D} {pos : Pos}
end
section
variable {X : Cx} {e tg : Expr} {ρ : Ro} {ds : List D}
end
end FL
namespace CM
open PySem MG
end CM
namespace MG
section
variable {G : Type} [AbG G]
open AbG
class FinG(G:Type)[AbG G] where
 all:List G
 mem:∀x:G,x∈all
variable [FinG G]
end
end MG
namespace CM
open PySem PySem.Spec L2 FL FT MG
section
end
open Classical in
noncomputable def oW{α:Type}(L:List α)(y:α): List α:=if y∈L then L else L++[y]
theorem qN{α:Type}{L:List α}{y:α}(h:L.Nodup): (oW L y).Nodup:=by
 unfold oW
 split
 ·exact h
 ·rename_i n
  rw[List.nodup_append]
  exact⟨h,by simp,λa ha b hb e=>n (by rw[← List.mem_singleton.mp hb,← e];exact ha)⟩
theorem vf{α:Type}{L:List α}{y z:α}: z∈oW L y↔z∈L∨z=y:=by
 unfold oW
 split
 ·rename_i n
  exact⟨.inl,λh=>h.elim id λe=>e▸n⟩
 ·rw[List.mem_append,List.mem_singleton]
theorem jQ{α:Type}: ∀(ys:List α) {L:List α},L.Nodup→(ys.foldl oW L).Nodup
 | [],_,h=>h
 | y::ys,_,h=>jQ ys (qN h)
theorem mL{α:Type}{z:α}: ∀(ys:List α) {L:List α},z∈ys.foldl oW L↔z∈L∨z∈ys
 | [],L=>by simp
 | y::ys,L=>by
  rw[List.foldl_cons,mL ys,vf,List.mem_cons,or_assoc]
section
end
section
end
section
end
section
end
section
end
end CM
namespace FO
open PySem PySem.Spec PyProof.Rows
section
variable {prog : Program} {w : World} {A : Around} {E : Value → Shared → Prop} {s : Shared} {d : Addr} {es : Array DictEntry} {ep : Nat}
end
end FO
namespace FL
open PySem PySem.Spec PyProof.Rows L2
section
variable {X : Cx} {a b : Expr} {ρ : Ro} {t : Bool} {ks vs ds : List D} {d kd : D} {pos : Pos}
end
end FL
namespace MG
section
variable {G : Type} [AbG G]
open AbG
variable [FinG G]
end
end MG
namespace FL
open PySem PySem.Spec PyProof.Rows L2
end FL
namespace CM
open PySem PySem.Spec L2 FL FT MG
section
end
section
end
end CM
namespace FK
open PySem
abbrev Rs(xs:Array Nat): Prop:=xs.toList.Pairwise (· < ·)
theorem nU{xs:Array Nat}{j:Nat}(r:Rs xs): ∀(fuel lo hi:Nat),lo≤hi→hi≤xs.size→hi-lo≤fuel→(∀k (hk:k<xs.size),k<lo→xs[k]<j)→(∀k (hk:k<xs.size),hi≤k→j≤xs[k])→
  SetTable.below.go xs j fuel lo hi≤xs.size∧(∀k (hk:k<xs.size),k<SetTable.below.go xs j fuel lo hi→xs[k]<j)∧∀k (hk:k<xs.size),SetTable.below.go xs j fuel lo hi≤k→j≤xs[k]
 | 0,lo,hi,h1,h2,h3,a,b=>by
  have e:hi=lo:=by omega
  subst e
  exact⟨h2,a,b⟩
 | fuel+1,lo,hi,h1,h2,h3,a,b=>by
  have rise:∀p q (hp:p<xs.size) (hq:q<xs.size),p≤q→xs[p]≤xs[q]:=λp q hp hq pq=>by
   by_cases e:p=q
   ·subst e;exact Nat.le_refl _
   ·have:=(List.pairwise_iff_getElem.mp r) p q (by simpa using hp) (by simpa using hq) (by omega)
    simp only[Array.getElem_toList]at this
    omega
  unfold SetTable.below.go
  by_cases c:lo<hi
  ·rw[if_pos c]
   have hm:(lo+hi)/2<xs.size:=by omega
   have e:xs.getD ((lo+hi)/2) j=xs[(lo+hi)/2]:=by simp[Array.getD,hm]
   dsimp only
   rw[e]
   by_cases d:xs[(lo+hi)/2]<j
   ·rw[if_pos d]
    exact nU r fuel _ _ (by omega) h2 (by omega) (λk hk z=>Nat.lt_of_le_of_lt (rise k _ hk hm (by omega)) d) b
   ·rw[if_neg d]
    exact nU r fuel _ _ (by omega) (by omega) (by omega) a λk hk z=>Nat.le_trans (Nat.not_lt.mp d) (rise _ k hm hk z)
  ·rw[if_neg c]
   have e:hi=lo:=by omega
   subst e
   exact⟨h2,a,b⟩
theorem iF{xs:Array Nat}(r:Rs xs)(j:Nat): SetTable.below xs j≤xs.size∧(∀k (hk:k<xs.size),k<SetTable.below xs j→xs[k]<j)∧∀k (hk:k<xs.size),SetTable.below xs j≤k→j≤xs[k]:=
 nU r _ _ _ (Nat.zero_le _) (Nat.le_refl _) (by omega) (λk hk z=>by omega) (λk hk z=>by omega)
theorem oZ{α:Type}(xs:Array α)(p:Nat)(x:α): (SetTable.insertAt xs p x).toList=xs.toList.take p++[x]++xs.toList.drop p:=by
 unfold SetTable.insertAt
 simp
 exact List.take_of_length_le (by simp)
theorem tY{xs:Array Nat}(r:Rs xs){j:Nat}(hj:¬xs[SetTable.below xs j]?=some j): Rs (SetTable.insertAt xs (SetTable.below xs j) j):=by
 obtain⟨h1,h2,h3⟩:=iF r j
 show(SetTable.insertAt xs (SetTable.below xs j) j).toList.Pairwise (· < ·)
 rw[oZ,List.append_assoc,List.pairwise_append]
 refine⟨r.sublist (List.take_sublist _ _),?_,?_⟩
 ·refine List.pairwise_cons.mpr ⟨λy hy=> ?_,r.sublist (List.drop_sublist _ _)⟩
  obtain⟨k,hk,rfl⟩:=List.mem_drop_iff_getElem.mp hy
  have hk':SetTable.below xs j+k<xs.size:=by simp at hk;omega
  have:=h3 _ hk' (by omega)
  simp only[Array.getElem_toList]
  refine Nat.lt_of_le_of_ne this λz=> ?_
  by_cases k0:k=0
  ·subst k0
   exact hj (by rw[Array.getElem?_eq_getElem (by omega)];exact congrArg some z.symm)
  ·have b0:SetTable.below xs j<xs.size:=by omega
   have g:=(List.pairwise_iff_getElem.mp r) (SetTable.below xs j) (SetTable.below xs j+k) (by simpa using b0) (by simpa using hk') (by omega)
   simp only[Array.getElem_toList]at g
   have:=h3 _ b0 (Nat.le_refl _)
   omega
 ·intro a ha b hb
  obtain⟨k,hk,rfl⟩:=List.mem_take_iff_getElem.mp ha
  have hk2:k<xs.size:=by simp at hk;omega
  have hk3:k<SetTable.below xs j:=by simp at hk;omega
  have l1:=h2 k hk2 hk3
  simp only[Array.getElem_toList]
  rcases List.mem_cons.mp hb with rfl|hb
  ·exact l1
  ·obtain⟨m,hm,rfl⟩:=List.mem_drop_iff_getElem.mp hb
   have hm':SetTable.below xs j+m<xs.size:=by simp at hm;omega
   have:=h3 _ hm' (by omega)
   simp only[Array.getElem_toList]
   omega
theorem qB{xs:Array Nat}(r:Rs xs){i:Nat}(hi:i<xs.size): SetTable.below xs (xs[i]+1)=i+1:=by
 obtain⟨h1,h2,h3⟩:=iF r (xs[i]+1)
 have rise:∀p q (hp:p<xs.size) (hq:q<xs.size),p<q→xs[p]<xs[q]:=λp q hp hq pq=>by
  have:=(List.pairwise_iff_getElem.mp r) p q (by simpa using hp) (by simpa using hq) pq
  simpa using this
 refine Nat.le_antisymm (Nat.not_lt.mp λz=> ?_) (Nat.not_lt.mp λz=> ?_)
 ·have a:=h2 (i+1) (by omega) z
  have b:=rise i (i+1) hi (by omega) (by omega)
  omega
 ·have a:=h3 i hi (by omega)
  omega
theorem qC{xs:Array Nat}(r:Rs xs): SetTable.below xs 0=0:=by
 obtain⟨h1,h2,h3⟩:=iF r 0
 refine Nat.eq_zero_of_not_pos λz=> ?_
 have:=h2 0 (by omega) z
 omega
theorem qQ{mask finger moves:Nat}{led plain:Bool}{hs:Array Int}{t:SetTable}{o:Array Nat}(h:SetTable.laid mask finger moves led plain hs=some (t,o)): Rs t.place∧t.led=led∧t.plain=plain∧t.dummies = #[]:=by
 unfold SetTable.laid at h
 obtain⟨ow,_,e⟩:=Option.bind_eq_some_iff.mp h
 cases e
 refine⟨?_,rfl,rfl,rfl⟩
 show(List.map _ _).Pairwise _
 rw[List.pairwise_map]
 refine List.Pairwise.filterMap (S:=λ(a b:Nat×Nat)=>a.1<b.1) _ (λa b hab a' ha' b' hb'=> ?_) (List.pairwise_lt_range)
 obtain⟨x,_,rfl⟩:=Option.map_eq_some_iff.mp ha'
 obtain⟨y,_,rfl⟩:=Option.map_eq_some_iff.mp hb'
 exact hab
end FK
namespace FK
open PySem
structure Tb(b:Bool)(t:SetTable): Prop where
 led:t.led = !b
 rise:t.plain=true→Rs t.place∧t.dummies = #[]
theorem rQ(j:Nat): SetTable.has #[] j=false:=by
 unfold SetTable.has
 simp
theorem rj{t:SetTable}{j:Nat}(h:t.slot j = .empty): ¬t.place[SetTable.below t.place j]?=some j:=λz=>by
 unfold SetTable.slot at h
 dsimp only at h
 rw[z]at h
 simp at h
theorem oj{t:SetTable}(hd:t.dummies = #[])(j:Nat): t.slot j≠.dummy:=λz=>by
 unfold SetTable.slot at z
 dsimp only at z
 rw[hd,rQ]at z
 split at z
 ·cases z
 ·simp at z
theorem jV{t:SetTable}(hd:t.dummies = #[]){ha:Nat→Int}{h:Int}: ∀(fuel:Nat) (p:SetTable.Probe) {j:Nat} {d:Option Nat},p.dummy=none→SetTable.probe.go t ha h fuel p=some (.empty j d)→d=none∧t.slot j = .empty
 | 0,p,j,d,_,e=>by unfold SetTable.probe.go at e;cases e
 | fuel+1,p,j,d,hp,e=>by
  have adv:(t.advance p).dummy=none:=by
   unfold SetTable.advance
   split
   ·exact hp
   ·exact hp
  unfold SetTable.probe.go at e
  cases c:t.slot p.j with
  | empty=>
   rw[c]at e
   simp only[Option.some.injEq,SetTable.Met.empty.injEq]at e
   obtain⟨rfl,rfl⟩:=e
   exact⟨hp,c⟩
  | dummy=>exact absurd c (oj hd _)
  | live i=>
   rw[c]at e
   dsimp only at e
   split at e
   ·cases e
   ·exact jV hd fuel _ adv e
theorem uW{t:SetTable}(hd:t.dummies = #[]){h:Int}{j:Nat}{b:Bool}(e:t.freeSlot h=some (j,b)): ¬t.place[SetTable.below t.place j]?=some j:=by
 unfold SetTable.freeSlot at e
 split at e
 ·rename_i j' d he
  unfold SetTable.probe at he
  obtain⟨rfl,hs⟩:=jV hd _ _ rfl he
  cases e
  exact rj hs
 ·cases e
theorem tL{b:Bool}{t:SetTable}(T:Tb b t)(es:Array (Int×Value))(h:Int)(x:Value): Tb b (layNew t es h x).2.1:=by
 unfold layNew
 split
 ·rename_i j wd e
  show Tb b ((t.put j).1.orStandIn _)
  unfold SetTable.orStandIn
  split
  ·refine⟨T.led,λhp=> ?_⟩
   obtain⟨r,hd⟩:=T.rise hp
   refine⟨tY r (uW hd e),?_⟩
   show(if SetTable.has t.dummies j=true then _ else t.dummies)=_
   rw[hd,rQ]
   rfl
  ·exact⟨T.led,λhp=>by cases hp⟩
 ·exact⟨T.led,λhp=>by cases hp⟩
theorem vE{b:Bool}{t:SetTable}(T:Tb b t)(es:Array (Int×Value))(n:Nat): Tb b (relayAll t es n).2.1:=by
 unfold relayAll
 split
 ·rename_i t' o e
  dsimp only
  split
  ·unfold SetTable.relaid at e
   obtain⟨r,l,p,d⟩:=qQ e
   exact⟨l.trans T.led,λ_=>⟨r,d⟩⟩
  ·exact⟨T.led,λhp=>by cases hp⟩
 ·exact⟨T.led,λhp=>by cases hp⟩
theorem pL{b:Bool}{t:SetTable}(T:Tb b t): Tb b { t with plain:=false }:=⟨T.led,λhp=>by cases hp⟩
theorem uZ(b:Bool): Tb b (.fresh 0 0 (!b)):=⟨rfl,λ_=>⟨by show([]:List Nat).Pairwise _;exact .nil,rfl⟩⟩
end FK
namespace FK
open PySem PySem.Spec PyProof.Rows
def eJ(w:World): Bool:=w.params.followText "set-order"
def vi(e:Int×Value): Int:=match e.2 with
 | .int k _=>k
 | _=>0
def eF(prog:Program)(w:World)(h:Heap)(a:Addr)(S:Int→Prop)(n:Nat): Prop:=
 ∃o es ep t,h.get? a=some o∧o.ExactSet∧o.data = .set es ep t∧ElemsOf (intKind prog w) es.toList∧(es.toList.map vi).Nodup∧(∀k,k∈es.toList.map vi↔S k)∧es.size≤n∧t.fits es.size=true∧Tb (eJ w) t
theorem va{prog:Program}{w:World}{k:Int}{v:Value}(h:(intKind prog w).is k v=true): ∃t,v = .int k t:=by
 cases v with
 | int j t=>
  have e:(j==k)=true:=by simpa [intKind,Value.isInt] using h
  exact⟨t,by rw[eq_of_beq e]⟩
 | _=>simp[intKind,Value.isInt]at h
theorem oQ{prog:Program}{w:World}{l:List (Int×Value)}(h:ElemsOf (intKind prog w) l){e:Int×Value}(he:e∈l): ∃t,e.2 = .int (vi e) t:=by
 obtain⟨⟨k,hk,_⟩,_⟩:=h e he
 obtain⟨t,q⟩:=va hk
 refine⟨t,?_⟩
 unfold vi
 rw[q]
section
variable {prog : Program} {w : World} {A : Around} {E : Value → Shared → Prop} {s : Shared} {a : Addr} {S : Int → Prop} {n : Nat}
theorem uT{l:List (Int×Value)}(h:ElemsOf (intKind prog w) l)(k:Int): (l.findIdx? (λe=>(intKind prog w).is k e.2)).isSome=true↔k∈l.map vi:=by
 rw[List.findIdx?_isSome,List.any_eq_true,List.mem_map]
 constructor
 ·rintro⟨e,he,z⟩
  obtain⟨t,q⟩:=va z
  exact⟨e,he,by unfold vi;rw[q]⟩
 ·rintro⟨e,he,z⟩
  obtain⟨t,q⟩:=oQ h he
  exact⟨e,he,by rw[q,z];exact intKind_is prog w k t⟩
theorem vM{o:Obj}{es es':Array (Int×Value)}{ep:Nat}{t t':SetTable}{h:Heap}(ho:h.get? a=some o)(hd:o.data = .set es ep t): (h.update a (Obj.putSet es' t')).get? a=some { o with data:=.set es' (ep+1) t' }:=by
 have q:=Heap.get?_update_self (Obj.putSet es' t') ho (by rw[putSet_of es' t' hd];rfl)
 rwa [putSet_of es' t' hd]at q
theorem vJ {k : Int} {tk : Tok} {Q : Bool → Shared → Prop} (g : eF prog w s.heap a S n) (room : n + 1 < scanBound)
    (h : ∀ h' b, Heap.SameBut a s.heap h' → eF prog w h' a (fun j => S j ∨ j = k) (n + 1) → Q b { s with heap := h' }) : wpAny (model prog w) A (setAddHashed a (.int k tk) ((intKind prog w).hash k)) Q E s := by
  obtain ⟨o, es, ep, t, ho, hx, hd, el, nd, mem, sz, ft, tb⟩ := g
  have key : (intKind prog w).is k (.int k tk) = true := intKind_is _ _ _ _
  have scan : Value.scannable (.int k tk) = true := rfl
  unfold setAddHashed setAddHashedIn
  refine wpAny_holding (wpAny_bind (wpAny_setState_of ho hd ft ?_))
  dsimp only
  rw [byScan_of scan (Nat.lt_of_le_of_lt sz (by omega)) el]
  simp only [if_true]
  unfold setAddByScan
  refine wpAny_bind (wpAny_bind (wpAny_rule (wpAny_bind (wpAny_setScan_of key ho hd ft el ?_))))
  have fi := uT (prog := prog) (w := w) el k
  cases c : List.findIdx? (fun e => (intKind prog w).is k e.2) es.toList with
  | some j =>
    rw [c] at fi
    have inn := fi.mp rfl
    refine wpAny_pure (wpAny_pure ?_)
    have := h s.heap false (Heap.SameBut.refl a s.heap) ⟨o, es, ep, t, ho, hx, hd, el, nd, fun z => ⟨fun q => .inl ((mem z).mp q), fun q => q.elim (mem z).mpr fun q => q ▸ inn⟩, by omega, ft, tb⟩
    cases s
    exact this
  | none =>
    rw [c] at fi
    have out : k ∉ es.toList.map vi := fun q => by cases fi.mpr q
    have perm := layNew_perm t es ((intKind prog w).hash k) (.int k tk)
    have fits := layNew_fits t es ((intKind prog w).hash k) (.int k tk)
    have tb1 := tL tb es ((intKind prog w).hash k) (.int k tk)
    dsimp only
    generalize layNew t es ((intKind prog w).hash k) (.int k tk) = L at perm fits tb1 ⊢
    obtain ⟨es1, t1, wd, gave⟩ := L
    dsimp only at perm fits tb1 ⊢
    rw [Array.toList_push] at perm
    have el1 : ElemsOf (intKind prog w) es1.toList := (el.push key scan).perm perm
    have pm : (es1.toList.map vi).Perm (es.toList.map vi ++ [k]) := by
      have := perm.map vi
      rwa [List.map_append] at this
    have nd1 : (es1.toList.map vi).Nodup := by
      rw [pm.nodup_iff, List.nodup_append]
      exact ⟨nd, by simp, fun x hx y hy e => out (by rw [← List.mem_singleton.mp hy, ← e]; exact hx)⟩
    have mem1 : ∀ z, z ∈ es1.toList.map vi ↔ (S z ∨ z = k) := fun z => by rw [pm.mem_iff, List.mem_append, List.mem_singleton, mem z]
    have sz1 : es1.size ≤ n + 1 := by
      have := perm.length_eq
      simp only [List.length_append, List.length_singleton, Array.length_toList] at this
      omega
    have gw : ∀ (b : Bool) (s1 : Shared) (Q' : Unit → Shared → Prop), Q' () s1 → wpAny (model prog w) A (match b with | true => rule "set.scan.the-table-gave-way" | false => pure ()) Q' E s1 := fun b s1 Q' q => by
      cases b
      · exact wpAny_pure q
      · exact wpAny_rule q
    refine wpAny_bind (gw _ _ _ ?_)
    have tail : ∀ t2 : SetTable, t2.fits es1.size = true → Tb (eJ w) t2 → wpAny (model prog w) A (do
        storeSet a es1 t2
        if (!wd && t2.tooFull) = true then do
            (match (relayAll t2 es1 (SetTable.grown es1.size)).2.2 with | true => rule "set.scan.the-table-gave-way" | false => pure ())
            storeSet a (relayAll t2 es1 (SetTable.grown es1.size)).1 (relayAll t2 es1 (SetTable.grown es1.size)).2.1
            pure (some true)
          else pure (some true)) (fun r s' => wpAny (model prog w) A (match r with | some added => pure added | none => setAddHashedIn a (.int k tk) ((intKind prog w).hash k) 99999) Q E s') E s := by
      intro t2 f2 tb2
      refine wpAny_bind (wpAny_storeSet_of ho hd ?_ (fits_of_scanBound (Nat.lt_of_le_of_lt sz1 room)))
      have sb := Heap.SameBut.update s.heap a (Obj.putSet es1 t2)
      have g1 := vM (es' := es1) (t' := t2) ho hd
      split
      · have p2 := relayAll_perm t2 es1 (SetTable.grown es1.size)
        have f3 := relayAll_fits t2 es1 (SetTable.grown es1.size)
        have tb3 := vE tb2 es1 (SetTable.grown es1.size)
        generalize relayAll t2 es1 (SetTable.grown es1.size) = M at p2 f3 tb3 ⊢
        obtain ⟨es2, t3, gave2⟩ := M
        dsimp only at p2 f3 tb3 ⊢
        have pm2 := p2.map vi
        have z2 : es2.size = es1.size := by
          have := p2.length_eq
          simpa using this
        refine wpAny_bind (gw _ _ _ (wpAny_bind (wpAny_storeSet_of g1 rfl ?_ (fits_of_scanBound (by omega)))))
        refine wpAny_pure (wpAny_pure (h _ true (sb.trans (Heap.SameBut.update ..)) ⟨_, es2, _, t3, vM g1 rfl, hx, rfl, el1.perm p2, pm2.nodup_iff.mpr nd1, fun z => pm2.mem_iff.trans (mem1 z), by omega, f3, tb3⟩))
      · exact wpAny_pure (wpAny_pure (h _ true sb ⟨_, es1, _, t2, g1, hx, rfl, el1, nd1, mem1, sz1, f2, tb2⟩))
    split
    · refine wpAny_bind ?_
      rw [hashByValue_scannable 8 scan]
      refine wpAny_pure ?_
      split
      · exact tail t1 fits tb1
      · exact tail { t1 with plain := false } (SetTable.fits_plain_off fits) (pL tb1)
    · refine wpAny_bind (wpAny_pure ?_)
      simp only [if_true]
      exact tail t1 fits tb1
end
end FK
namespace FK
open PySem PySem.Spec PyProof.Rows
theorem eF.at{prog:Program}{w:World}{h h':Heap}{a:Addr}{S:Int→Prop}{n:Nat}(g:eF prog w h a S n)(k:∀o,h.get? a=some o→h'.get? a=some o): eF prog w h' a S n:=by
 obtain⟨o,es,ep,t,ho,r⟩:=g
 exact⟨o,es,ep,t,k o ho,r⟩
theorem eF.congr{prog:Program}{w:World}{h:Heap}{a:Addr}{S T:Int→Prop}{n:Nat}(g:eF prog w h a S n)(e:∀k,S k↔T k): eF prog w h a T n:=by
 obtain⟨o,es,ep,t,ho,h1,h2,h3,h4,h5,r⟩:=g
 exact⟨o,es,ep,t,ho,h1,h2,h3,h4,λk=>(h5 k).trans (e k),r⟩
section
variable {prog : Program} {w : World} {A : Around} {R : Result → Shared → Prop} {I : Addr} {fp wr : List Addr} {G : Array GenState → Array GenState → Prop} {n : Nat} {P : Nat → Value → Prop} {St : Nat → Shared → Prop}
theorem vT(W:WalksS prog w A.in1 I fp wr G n P St)(c:Addr)(cf:c∉fp)(val:Nat→Int)(hval:∀i v,P i v→∃t,v = .int (val i) t)(hb:n+1<scanBound):
  ∀(k i:Nat) (s:Shared),n-i=k→i≤n→St i s→eF prog w s.heap c (λz=>∃j,j<i∧val j=z) i→
   (∀s',Moved (c::wr) G s s'→eF prog w s'.heap c (λz=>∃j,j<n∧val j=z) n→R (.ok (.ret .none)) s')→
   codeAny (model prog w) A (.builtin "set.update.loop" ⟨[.ref c,.ref I],[]⟩) R s:=by
 have cw:c∉wr:=λz=>cf (W.sub _ z)
 have sub:∀b∈wr,b∈c::wr:=λb z=>List.mem_cons_of_mem _ z
 intro k
 induction k with
 | zero=>
  intro i s hk hi st g fin
  obtain rfl:i=n:=by omega
  refine codeAny_builtin PyProof.Rows.F.entry_set_update_loop ?_;rw[Around.under_plainId PyProof.Rows.F.plain_set_update_loop _]
  show wpAny (model prog w) A.in1 (pyNext (.ref I) >>= _) _ _ s
  exact wpAny_bind (W.done s _ _ st λs' m=>wpAny_pure (fin s' (m.mono sub) (g.at λo q=>m.heap c _ cw q)))
 | succ k ih=>
  intro i s hk hi st g fin
  have lt:i<n:=by omega
  refine codeAny_builtin PyProof.Rows.F.entry_set_update_loop ?_;rw[Around.under_plainId PyProof.Rows.F.plain_set_update_loop _]
  show wpAny (model prog w) A.in1 (pyNext (.ref I) >>= _) _ _ s
  refine wpAny_bind (W.item i s _ _ lt st λv s' hP st' m=> ?_)
  obtain⟨t,rfl⟩:=hval i v hP
  have g':=g.at λo q=>m.heap c _ cw q
  show wpAny (model prog w) A.in1 (holding [Value.int (val i) t] (setAdd c (.int (val i) t)) >>= _) _ _ s'
  refine wpAny_bind (wpAny_holding ?_)
  unfold setAdd
  refine wpAny_holding (wpAny_bind ((intKind prog w).pyHash (k:=val i) (intKind_is _ _ _ _) ?_))
  refine vJ (s:={ s' with toks:=s'.toks+1 }) g' (by omega) λh' b sb g2=> ?_
  have g3:eF prog w h' c (λz=>∃j,j<i+1∧val j=z) (i+1):=g2.congr λz=>by
   constructor
   ·rintro(⟨j,hj,e⟩|e)
    ·exact⟨j,by omega,e⟩
    ·exact⟨i,by omega,e.symm⟩
   ·rintro⟨j,hj,e⟩
    by_cases q:j=i
    ·exact .inr (by rw[← e,q])
    ·exact .inl ⟨j,by omega,e⟩
  refine wpAny_pure ⟨plainId_quiet PyProof.Rows.F.plain_set_update_loop _,ih (i+1) _ (by omega) lt (W.frame _ s' _ _ st' (Nat.le_succ _) λb hb o e=> ?_) g3 λs'' m2 g4=> ?_⟩
  ·rw[sb.2 b (λz:b=c=>cf (by rw[← z];exact hb))];exact e
  ·refine fin s'' (Moved.trans W.gtrans ((m.mono sub).then_heap (Nat.le_succ _) λb o hb e=> ?_) m2) g4
   rw[sb.2 b (λz:b=c=>hb (by rw[z];exact List.mem_cons_self))];exact e
end
section
variable {prog : Program} {w : World} {A : Around} {E : Value → Shared → Prop} {s : Shared}
theorem uA(a:Value){Q:Value→Shared→Prop}(h:Q (.ref s.heap.objs.size) { s with heap:=s.heap.push { cls:=.type "set",dict:=none,data:=.set #[] 0 (.fresh 0 0 (!eJ w)) } }):
  codeAny (model prog w) A (.call (.builtin "set.__new__") ⟨[.type "set",a],[]⟩) (wants Q E) s:=by
 refine codeAny_of_tree ?_
 show wpAny (model prog w) A.in1 (do checkBuiltinCall "set.__new__" ⟨[.type "set",a],[]⟩;again (.builtin "set.__new__" ⟨[.type "set",a],[]⟩)) _ _ s
 refine wpAny_bind (wpAny_of_eq (PySem.F.newCall_set_1 a) (wpAny_pure ⟨plainId_quiet PySem.F.plain_set_new _,codeAny_builtin PySem.F.entry_set_new ?_⟩));rw[Around.under_plainId PySem.F.plain_set_new _]
 unfold Builtin.«set.__new__» Builtin.Frozenset.newClass
 have q:=sub_set_self
 obtain⟨hp,gg,dd,tt,oo⟩:=s
 dsimp only
 wp_walk
 refine wpAny_askSetting (wpAny_pure ?_)
 dsimp only
 simp only[newObj]
 exact wpAny_bind (wpAny_alloc (wpAny_pure (wpAny_pure h)))
end
end FK
namespace FK
open PySem PySem.Spec PyProof.Rows
set_option maxRecDepth 100000
section
variable {prog : Program} {w : World} {A : Around} {E : Value → Shared → Prop} {s : Shared}
theorem qM{h:Heap}{a:Addr}(ho:h.get? a=some { cls:=.type "set",dict:=none,data:=.set #[] 0 (.fresh 0 0 (!eJ w)) }): eF prog w h a (λz=>∃j,j<0∧(λ_:Nat=>(0:Int)) j=z) 0:=
 ⟨_,#[],0,_,ho,⟨rfl,rfl,rfl⟩,rfl,(λe he=>by cases he),List.nodup_nil,(λk=>⟨(λz=>by cases z),(λ⟨j,hj,_⟩=>by omega)⟩),Nat.le_refl _,rfl,uZ _⟩
set_option maxHeartbeats 3200000 in
theorem sZ{l:Addr}{items:Array Value}{ns:List Int}{Q:Value→Shared→Prop}(hh:A.handled=none)(hl:s.heap.IsList l items)(hi:IntsAre items.toList ns)(hb:items.size+1<scanBound)
  (h:∀(h':Heap) (tk:Nat),eF prog w h' s.heap.objs.size (λz=>∃j,j<items.size∧ns.getD j 0=z) items.size→(∀b o,b<s.heap.objs.size→s.heap.get? b=some o→h'.get? b=some o)→Q (.ref s.heap.objs.size) { s with heap:=h',toks:=tk }) :
  wpAny (model prog w) A (call (.type "set") [.ref l]) Q E s:=by
 obtain⟨c,tl,hmro⟩:=PySem.F.called_set.mro
 have made':=PySem.F.called_set.made
 have sub':=PySem.F.called_set.sub
 refine wpAny_call (codeAny_of_tree ?_);show wpAny _ _ (callAny (.type "set") _) _ _ _
 refine wpAny_pure ⟨Code.quiet_builtin _ (by decide +kernel),codeAny_builtin PySem.F.entry_type_call ?_⟩;rw[Around.under_plain (weight_type_call_type "set" [.ref l] []) rfl]
 have n1:=PySem.F.called_set.notType
 have n2:=PySem.F.called_set.canCreate
 have n3:=PySem.F.typeCall_set_1 (.ref l)
 repeat(any_goals (first|assumption|wp_step))
 refine codeAny_mono (uA (.ref l) (E:=E) (Q:=λobj s1=>obj = .ref s.heap.objs.size∧s1={ s with heap:=s.heap.push { cls:=.type "set",dict:=none,data:=.set #[] 0 (.fresh 0 0 (!eJ w)) } }) ⟨rfl,rfl⟩) λr s1 hr=> ?_
 cases r with
 | error e=>exact hr
 | ok fl=>
  cases fl with
  | ret obj=>
   obtain⟨rfl,rfl⟩:=hr
   have g0:(s.heap.push { cls:=.type "set",dict:=none,data:=.set #[] 0 (.fresh 0 0 (!eJ w)) }).get? s.heap.objs.size=some { cls:=.type "set",dict:=none,data:=.set #[] 0 (.fresh 0 0 (!eJ w)) }:=Heap.get?_push_size _ rfl
   have ty:Shared.TypeIs { s with heap:=s.heap.push { cls:=.type "set",dict:=none,data:=.set #[] 0 (.fresh 0 0 (!eJ w)) } } (.ref s.heap.objs.size) "set":= ⟨_,g0,rfl⟩
   have l1:=PySem.F.called_set.init.lookup
   have l2:=PySem.F.called_set.init.bind (.ref s.heap.objs.size)
   repeat(any_goals (first|assumption|wp_step))
   refine codeAny_mono (codeAny_call_builtin (R:=wants (λr s2=>r = .none∧∃h' tk,s2={ s with heap:=h',toks:=tk }∧eF prog w h' s.heap.objs.size (λz=>∃j,j<items.size∧ns.getD j 0=z) items.size∧∀b o,b<s.heap.objs.size→s.heap.get? b=some o→h'.get? b=some o) E) PySem.F.called_set.init.plain PySem.F.entry_set_init (PySem.check_set_init_1 ty ?_)) λr2 s2 hr2=> ?_
   ·obtain⟨⟨oc,od,odt,osl⟩,hol,hcl,nl,hdl⟩:=hl
    simp only at hcl hdl
    subst hcl hdl
    have k1:(s.heap.push { cls:=.type "set",dict:=none,data:=.set #[] 0 (.fresh 0 0 (!eJ w)) }).get? l=some { cls:=.type "list",dict:=od,data:=.seq items nl,slots:=osl }:=Heap.get?_push_of_some _ hol
    have q1:=PySem.F.sub_list_set
    have q2:=PySem.F.sub_list_frozenset
    have q3:(Value.type "list"== Value.type "dict")=false:=by decide
    have il:(s.heap.push { cls:=.type "set",dict:=none,data:=.set #[] 0 (.fresh 0 0 (!eJ w)) }).IsList l items:=⟨_,k1,rfl,nl,rfl⟩
    unfold Builtin.«set.__init__» noKeywords Builtin.Frozenset.updateFrom
    generalize eI:pyIter=PI
    wp_walk
    subst eI
    refine wpAny_pyIter_list (s:={ s with heap:=s.heap.push { cls:=.type "set",dict:=none,data:=.set #[] 0 (.fresh 0 0 (!eJ w)) } }) il ?_
    refine wpAny_bind (wpAny_runValue ?_)
    have lt:l<s.heap.objs.size:=Heap.lt_size hol
    have h3:A.in1.in1.in1.handled=none:=by simp[hh]
    have z1:(s.heap.push { cls:=.type "set",dict:=none,data:=.set #[] 0 (.fresh 0 0 (!eJ w)) }).objs.size=s.heap.objs.size+1:=Heap.size_push ..
    have ni:l≠(s.heap.push { cls:=.type "set",dict:=none,data:=.set #[] 0 (.fresh 0 0 (!eJ w)) }).objs.size:=by rw[z1];exact Nat.ne_of_lt (Nat.lt_succ_of_lt lt)
    have nf:s.heap.objs.size∉[(s.heap.push { cls:=.type "set",dict:=none,data:=.set #[] 0 (.fresh 0 0 (!eJ w)) }).objs.size,l]:=by
     intro z
     rcases List.mem_cons.mp z with z|z
     ·exact Nat.ne_of_lt (Nat.lt_succ_self _) (z.trans z1)
     ·exact Nat.ne_of_gt lt (List.mem_singleton.mp z)
    refine vT ((Walks.list h3 _ l ni items).toS) s.heap.objs.size nf (λj=>ns.getD j 0) (λj v hv=>IntsAre.int_at hi j v (by rw[Array.getElem?_toList];exact hv)) hb (items.size-0) 0 _ (by omega) (Nat.zero_le _) ⟨⟨_,Heap.get?_push_size _ rfl,rfl,rfl⟩,il.push _⟩ ?_ ?_
    ·have:=qM (prog:=prog) (w:=w) (h:=(s.heap.push { cls:=.type "set",dict:=none,data:=.set #[] 0 (.fresh 0 0 (!eJ w)) }).push { cls:=.type "list_iterator",data:=.fields #[.ref l,.int 0 0] }) (a:=s.heap.objs.size) (Heap.get?_push_of_some _ g0)
     exact this.congr λk=>⟨λ⟨j,hj,_⟩=>by omega,λ⟨j,hj,_⟩=>by omega⟩
    ·intro s' m g
     obtain⟨h',g',d',tk',os'⟩:=s'
     have e1:g'=s.gens:=m.gens
     have e2:d'=s.drawn:=m.drawn
     have e3:os'=s.os:=m.os
     subst e1 e2 e3
     refine wpAny_pure ?_
     show wpAny (model prog w) _ (ret Value.none) _ _ _
     refine wpAny_pure ⟨rfl,h',tk',rfl,g,λb o hb e=> ?_⟩
     refine m.heap b o (λz=> ?_) (Heap.get?_push_of_some _ (Heap.get?_push_of_some _ e))
     rcases List.mem_cons.mp z with z|z
     ·exact Nat.ne_of_lt hb z
     ·exact Nat.ne_of_lt (Nat.lt_succ_of_lt hb) ((List.mem_singleton.mp z).trans z1)
   ·cases r2 with
    | error e=>exact hr2
    | ok f2=>
     cases f2 with
     | ret r=>
      obtain⟨rfl,h',tk,rfl,g,kp⟩:=hr2
      repeat(any_goals (first|assumption|wp_step))
      exact h _ _ g kp
     | _=>exact hr2.elim
  | _=>exact hr.elim
end
end FK
namespace FK
open PySem PySem.Spec PyProof.Rows
theorem kS{α:Type}{l:List α}{i:Nat}{x:α}(h:l[i]?=some x): l.Perm (x::l.eraseIdx i):=by
 obtain⟨hi,e⟩:=List.getElem?_eq_some_iff.mp h
 have:l=l.take i++x::l.drop (i+1):=by
  rw[← e]
  simp
 rw[List.eraseIdx_eq_take_drop_succ]
 refine(this▸List.Perm.refl l:l.Perm (l.take i++x::l.drop (i+1))).trans ?_
 exact List.perm_middle
theorem sE{α:Type}(next:Nat→Nat): ∀(fuel k:Nat) (left:List α) (out:Array α),left.length=fuel→(pickOrder.go next fuel k left out).toList.Perm (out.toList++left)
 | 0,k,left,out,h=>by
  have:left=[]:=List.eq_nil_of_length_eq_zero h
  subst this
  unfold pickOrder.go
  simp
 | fuel+1,k,left,out,h=>by
  unfold pickOrder.go
  have lt:next k%left.length<left.length:=Nat.mod_lt _ (by omega)
  have e:left[next k%left.length]?=some left[next k%left.length]:=List.getElem?_eq_getElem lt
  rw[e]
  dsimp only
  refine(sE next fuel (k+1) _ _ (by rw[List.length_eraseIdx_of_lt lt];omega)).trans ?_
  rw[Array.toList_push,List.append_assoc]
  exact List.Perm.append_left _ (kS e).symm
theorem tV{α:Type}(next:Nat→Nat)(xs:Array α): (pickOrder next xs).toList.Perm xs.toList:=by
 unfold pickOrder
 have:=sE next xs.size 0 xs.toList #[] (by simp)
 simpa using this
section
variable {prog : Program} {w : World} {A : Around} {E : Value → Shared → Prop} {s : Shared}
theorem xj{src:Source}{n:Nat}(hn:n≠0){Q:Nat→Shared→Prop}(h:∀i dr,i<n→Q i { s with drawn:=dr }): wpAny (model prog w) A (choose src n) Q E s:=
 λ_ _ _=>⟨hn,h _ _ (Nat.mod_lt _ (Nat.pos_of_ne_zero hn))⟩
theorem sO{α:Type}: ∀(n:Nat) (xs:List α) {s:Shared} {Q:List α→Shared→Prop},xs.length=n→(∀ys dr,ys.Perm xs→Q ys { s with drawn:=dr })→wpAny (model prog w) A (drawOrder n xs) Q E s
 | 0,xs,s,Q,h,q=>by
  have:xs=[]:=List.eq_nil_of_length_eq_zero h
  subst this
  unfold drawOrder
  have:=q [] s.drawn (List.Perm.refl _)
  cases s
  exact wpAny_pure this
 | n+1,[],s,Q,h,q=>by cases h
 | n+1,x::xs,s,Q,h,q=>by
  unfold drawOrder
  refine wpAny_bind (xj (by simp) λi dr hi=> ?_)
  have e:(x::xs)[i]?=some (x::xs)[i]:=List.getElem?_eq_getElem hi
  rw[e]
  dsimp only
  refine wpAny_bind (sO n ((x::xs).eraseIdx i) (by rw[List.length_eraseIdx_of_lt hi];omega) λys dr2 p=>wpAny_pure (q _ dr2 ?_))
  exact(List.Perm.cons _ p).trans (kS e).symm
end
end FK
namespace FK
open PySem PySem.Spec PyProof.Rows
set_option maxRecDepth 100000
theorem cI:Slot "set_iterator" "__next__" "set_iterator.__next__":= by
 refine .of (owner:="set_iterator") (n:="__next__") ?_ ?_ ?_ ?_ ?_ ?_
 ·rw[typeLookup_type,builtinLookup_eq_fast];kernel_rfl
 ·decide +kernel
 ·decide +kernel
 ·decide +kernel
 ·first|exact .inl (by decide +kernel)|exact .inr (by decide +kernel)
 ·rw[isSubtype_type];kernel_rfl
theorem kD:entryFor table "set_iterator.__next__"=some Builtin.«set_iterator.__next__» := by exact entryFor_of_tree (by kernel_rfl)
theorem kz(a:Value): argsOk "set_iterator.__next__" ⟨[a],[]⟩:=by
 unfold argsOk
 kernel_rfl
theorem rL:entryFor table "set.__iter__"=some Builtin.«frozenset.__iter__» := by
 exact entryFor_alias (id':="frozenset.__iter__") (by kernel_rfl) rfl (by decide +kernel) (by kernel_rfl)
end FK
namespace FK
open PySem PySem.Spec PyProof.Rows
set_option maxRecDepth 100000
def sS(h:Heap)(it a:Addr)(n ep i slot:Nat): Prop:=
 h.get? it=some { cls:=.type "set_iterator",dict:=none,data:=.fields #[.int slot 0,.int i 0,.ref a,.int n 0,.int ep 0],slots:= #[] }
def gM(w:World)(a:Addr)(es:Array (Int×Value))(ep:Nat): Array (Int×Value):=if eJ w=true then pickOrder (w.params.setOrder a ep) es else es
theorem hU{w:World}{a:Addr}{es:Array (Int×Value)}{ep:Nat}: (gM w a es ep).toList.Perm es.toList:=by
 unfold gM
 split
 ·exact tV _ _
 ·exact List.Perm.refl _
section
variable {prog : Program} {w : World} {A : Around} {E : Value → Shared → Prop} {s : Shared} {a : Addr} {o : Obj} {es : Array (Int × Value)} {ep : Nat} {t : SetTable}
theorem oq{Q:Bool→Shared→Prop}(h:Q (eJ w) s): wpAny (model prog w) A setsByText Q E s:=by
 unfold setsByText
 exact wpAny_bind (wpAny_askSetting (wpAny_pure h))
theorem lW{slot i:Nat}{Q:Option (Value×Nat)→Shared→Prop}(ho:s.heap.get? a=some o)(hd:o.data = .set es ep t)(ft:t.fits es.size=true)(tb:Tb (eJ w) t)(np:eJ w=false→t.plain=true∨es.size≤1)
  (hs:eJ w=false→SetTable.below t.place slot=i)
  (h:∀r:Option (Value×Nat),r.map (·.1)=((gM w a es ep)[i]?).map (·.2)→(∀v j,r=some (v,j)→eJ w=false→∃hi:i<t.place.size,j=t.place[i]+1)→Q r s):wpAny (model prog w) A (setNext a slot i ep) Q E s:=by
 unfold setNext
 refine wpAny_bind (wpAny_setState_of ho hd ft ?_)
 dsimp only
 refine wpAny_bind (oq ?_)
 cases b:eJ w with
 | true=>
  simp only[if_true]
  rw[if_neg (by simp)]
  refine wpAny_bind ?_
  unfold setWalk
  refine wpAny_bind (wpAny_setState_of ho hd ft ?_)
  dsimp only
  refine wpAny_bind (oq ?_)
  rw[b]
  simp only[if_true]
  refine wpAny_bind (wpAny_askSetting (wpAny_pure (wpAny_pure (h _ ?_ ?_))))
  ·unfold gM
   rw[if_pos b,Option.map_map]
   rfl
  ·intro v j _ z
   rw[b]at z
   cases z
 | false=>
  simp only[Bool.false_eq_true,if_false]
  have nd:(!t.plain&&decide (es.size>1))=false:=by
   rcases np b with q|q
   ·rw[q];rfl
   ·rw[decide_eq_false (by omega),Bool.and_false]
  show wpAny (model prog w) A (if (!t.plain&&decide (es.size>1))=true then _ else _) Q E s
  rw[nd]
  simp only[Bool.false_eq_true,if_false]
  have ld:t.led=true:=by rw[tb.led,b];rfl
  refine wpAny_bind ?_
  show wpAny (model prog w) A (if (!t.led && !es.isEmpty)=true then unsupported "set:maker-not-led" else pure ()) _ E s
  rw[ld]
  simp only[Bool.not_true,Bool.false_and,Bool.false_eq_true,if_false]
  refine wpAny_pure (wpAny_pure (h _ ?_ ?_))
  ·rw[hs b]
   unfold gM
   rw[if_neg (by rw[b];simp)]
   have sz:t.place.size=es.size:=by
    simp only[SetTable.fits,Bool.and_eq_true,beq_iff_eq]at ft
    exact ft.1
   by_cases hi:i<es.size
   ·rw[Array.getElem?_eq_getElem hi,Array.getElem?_eq_getElem (by omega)]
    rfl
   ·rw[Array.getElem?_eq_none (by omega)]
    rfl
  ·intro v j e _
   rw[hs b]at e
   have sz:t.place.size=es.size:=by
    simp only[SetTable.fits,Bool.and_eq_true,beq_iff_eq]at ft
    exact ft.1
   by_cases hi:i<es.size
   ·rw[Array.getElem?_eq_getElem hi,Array.getElem?_eq_getElem (by omega)]at e
    refine⟨by omega,?_⟩
    have:=Option.some.inj e
    exact(congrArg Prod.snd this).symm
   ·rw[Array.getElem?_eq_none (by omega)]at e
    cases e
end
end FK
namespace FK
open PySem PySem.Spec PyProof.Rows
set_option maxRecDepth 100000
section
variable {prog : Program} {w : World} {A : Around} {E : Value → Shared → Prop} {s : Shared} {a it : Addr} {o : Obj} {es : Array (Int × Value)} {ep i slot : Nat} {t : SetTable}
theorem wK{e:Int×Value}{Q:Option Value→Shared→Prop}(hit:sS s.heap it a es.size ep i slot)(ho:s.heap.get? a=some o)(hd:o.data = .set es ep t)(ft:t.fits es.size=true)(tb:Tb (eJ w) t)(np:eJ w=false→t.plain=true∨es.size≤1)
  (hs:eJ w=false→SetTable.below t.place slot=i) (he:(gM w a es ep)[i]?=some e)
  (hQ:∀h' slot',sS h' it a es.size ep (i+1) slot'→(eJ w=false→∃hi:i<t.place.size,slot'=t.place[i]+1)→Heap.SameBut it s.heap h'→Q (some e.2) { s with heap:=h' }):wpAny (model prog w) A (pyNext (.ref it)) Q E s:=by
 have ty:s.TypeIs (.ref it) "set_iterator":= ⟨_,hit,rfl⟩
 unfold pyNext
 refine wpAny_bind (wpAny_attempt (wpAny_callSpecial?_slot (name:=Str.ofString "__next__") ty cI (wpAny_call_entry cI ty kD ?_ (kz _))))
 refine wpAny_bind (wpAny_pure (wpAny_bind (wpAny_fieldsOf hit rfl ?_)))
 show wpAny (model prog w) A.in1 (setEntries a >>= _) _ _ s
 unfold setEntries
 refine wpAny_bind (wpAny_bind (wpAny_setState_of ho hd ft (wpAny_pure ?_)))
 rw[if_neg (by simp)]
 show wpAny (model prog w) A.in1 (setNext a ((slot:Nat):Int).toNat ((i:Nat):Int).toNat ((ep:Nat):Int).toNat >>= _) _ _ s
 rw[Int.toNat_natCast,Int.toNat_natCast,Int.toNat_natCast]
 refine wpAny_bind (lW ho hd ft tb np hs λr h1 h2=> ?_)
 rw[he]at h1
 cases r with
 | none=>cases h1
 | some p=>
  obtain⟨v,j⟩:=p
  have ev:v=e.2:=Option.some.inj h1
  subst ev
  dsimp only
  refine wpAny_bind (wpAny_setField_rec hit (by simp) λh3 e3 b3=>wpAny_bind (wpAny_setField_rec e3 (by simp) λh4 e4 b4=> ?_))
  refine wpAny_pure ⟨_,rfl,wpAny_pure (hQ h4 j ?_ (λz=>h2 _ _ rfl z) ?_)⟩
  ·have e5:((i+1:Nat):Int)=(i:Int)+1:=by omega
   unfold sS
   rw[e5]
   simpa [rawInt] using e4
  ·exact Heap.SameBut.trans (show Heap.SameBut it s.heap h3 from b3) b4
theorem xZ{Q:Option Value→Shared→Prop}(hh:A.handled=none)(hit:sS s.heap it a es.size ep i slot)(ho:s.heap.get? a=some o)(hd:o.data = .set es ep t)(ft:t.fits es.size=true)(tb:Tb (eJ w) t)(np:eJ w=false→t.plain=true∨es.size≤1)
  (hs:eJ w=false→SetTable.below t.place slot=i) (he:(gM w a es ep)[i]?=none)
  (hQ:∀h',Heap.ExtBut it s.heap h'→Q none { s with heap:=h' }):wpAny (model prog w) A (pyNext (.ref it)) Q E s:=by
 have ty:s.TypeIs (.ref it) "set_iterator":= ⟨_,hit,rfl⟩
 unfold pyNext
 refine wpAny_bind (wpAny_attempt (wpAny_callSpecial?_slot (name:=Str.ofString "__next__") ty cI (wpAny_call_entry cI ty kD ?_ (kz _))))
 refine wpAny_bind (wpAny_pure (wpAny_bind (wpAny_fieldsOf hit rfl ?_)))
 show wpAny (model prog w) A.in1 (setEntries a >>= _) _ _ s
 unfold setEntries
 refine wpAny_bind (wpAny_bind (wpAny_setState_of ho hd ft (wpAny_pure ?_)))
 rw[if_neg (by simp)]
 show wpAny (model prog w) A.in1 (setNext a ((slot:Nat):Int).toNat ((i:Nat):Int).toNat ((ep:Nat):Int).toNat >>= _) _ _ s
 rw[Int.toNat_natCast,Int.toNat_natCast,Int.toNat_natCast]
 refine wpAny_bind (lW ho hd ft tb np hs λr h1 h2=> ?_)
 rw[he]at h1
 cases r with
 | some p=>cases h1
 | none=>
  dsimp only
  refine wpAny_bind (wpAny_setField hit rfl (by simp) (wpAny_bind ?_))
  simp only[newExc,newTuple]
  refine wpAny_bind (wpAny_newObj_type ?_ (by size_fits))
  refine wpAny_bind (m:=firstArgMember _ _) (wpAny_of_eq (a:=Value.none) (by first|rfl|(simp only[firstArgMember];rfl)) (wpAny_newObj_type ?_ (by size_fits)))
  simp only[raiseNew]
  refine wpAny_bind (wpAny_handled ?_)
  rw[show A.in1.handled=none from hh]
  refine wpAny_bind (wpAny_pure (wpAny_throw ?_));refine wpAny_bind (wpAny_isInstance (T:="StopIteration") (b:=true) ⟨_,Heap.get?_push_size _ rfl,rfl⟩ isSubtype_stop ?_)
  exact wpAny_pure (hQ _ (((Heap.SameBut.update ..).extBut.push _).push _))
end
end FK
namespace FK
open PySem PySem.Spec PyProof.Rows
set_option maxRecDepth 100000
section
variable {prog : Program} {w : World} {A : Around} {E : Value → Shared → Prop} {s : Shared} {a : Addr} {o : Obj} {es : Array (Int × Value)} {ep : Nat} {t : SetTable}
theorem qc{Q:Bool→Shared→Prop}(ho:s.heap.get? a=some o)(hd:o.data = .set es ep t)(ft:t.fits es.size=true)(np:eJ w=false→t.plain=true∨es.size≤1)(h:Q false s): wpAny (model prog w) A (setDrawn a) Q E s:=by
 unfold setDrawn
 refine wpAny_bind (wpAny_setState_of ho hd ft ?_)
 dsimp only
 refine wpAny_bind (oq (wpAny_pure ?_))
 show Q (!eJ w&&(!t.plain&&decide (es.size>1))) s
 cases b:eJ w with
 | true=>exact h
 | false=>
  have nd:(!t.plain&&decide (es.size>1))=false:=by
   rcases np b with q|q
   ·rw[q];rfl
   ·rw[decide_eq_false (by omega),Bool.and_false]
  rw[nd]
  exact h
theorem vb{Q:Value→Shared→Prop}(ho:s.heap.get? a=some o)(hx:o.ExactSet)(hd:o.data = .set es ep t)(ft:t.fits es.size=true)(np:eJ w=false→t.plain=true∨es.size≤1)
  (hQ:∀h',sS h' s.heap.objs.size a es.size ep 0 0→(∀b q,s.heap.get? b=some q→h'.get? b=some q)→Q (.ref s.heap.objs.size) { s with heap:=h' }):wpAny (model prog w) A (pyIter (.ref a)) Q E s:=by
 have ty:s.TypeIs (.ref a) "set":= ⟨o,ho,hx.1⟩
 refine wpAny_pyIter_slot ty PySem.F.slot_set_iter (wpAny_call_entry PySem.F.slot_set_iter ty rL ?_ (PySem.F.args_set_iter_1 _))
 unfold Builtin.«frozenset.__iter__»
 refine wpAny_bind ?_
 refine wpAny_pure ?_
 unfold Builtin.Frozenset.sizeOf setEntries
 refine wpAny_bind (wpAny_bind (wpAny_bind (wpAny_setState_of ho hd ft (wpAny_pure (wpAny_pure ?_)))))
 refine wpAny_bind (qc ho hd ft np ?_)
 simp only[Bool.false_eq_true,if_false]
 refine wpAny_bind (wpAny_pure (wpAny_bind (wpAny_setEpoch_of ho hd ft (wpAny_bind (wpAny_newObj_type (wpAny_pure ⟨_,rfl,"set_iterator",_,⟨_,Heap.get?_push_size _ rfl,rfl⟩,cI.lookup,?_⟩))))))
 exact hQ _ (Heap.get?_push_size _ rfl) λb q z=>Heap.get?_push_of_some _ z
end
end FK
namespace FK
open PySem PySem.Spec PyProof.Rows
set_option maxRecDepth 100000
theorem kI:Slot "set_iterator" "__iter__" "set_iterator.__iter__":= by
 refine .of (owner:="set_iterator") (n:="__iter__") ?_ ?_ ?_ ?_ ?_ ?_
 ·rw[typeLookup_type,builtinLookup_eq_fast];kernel_rfl
 ·decide +kernel
 ·decide +kernel
 ·decide +kernel
 ·first|exact .inl (by decide +kernel)|exact .inr (by decide +kernel)
 ·rw[isSubtype_type];kernel_rfl
theorem rG(a:Value): argsOk "set_iterator.__iter__" ⟨[a],[]⟩:=by
 unfold argsOk
 kernel_rfl
theorem rM:entryFor table "set_iterator.__iter__"=some Builtin.«dict_keyiterator.__iter__» := by
 exact entryFor_alias (id':="dict_keyiterator.__iter__") (by kernel_rfl) rfl (by decide +kernel) (by kernel_rfl)
section
variable {prog : Program} {w : World} {A : Around} {a it : Addr} {o : Obj} {es : Array (Int × Value)} {ep : Nat} {t : SetTable}
def StI(w:World)(it a:Addr)(o:Obj)(es:Array (Int×Value))(ep:Nat)(t:SetTable)(i:Nat)(s:Shared): Prop:=∃slot,sS s.heap it a es.size ep i slot∧s.heap.get? a=some o∧(eJ w=false→SetTable.below t.place slot=i)
theorem pP(ft:t.fits es.size=true)(tb:Tb (eJ w) t)(np:t.plain=true∨es.size≤1): Rs t.place:=by
 rcases np with q|q
 ·exact(tb.rise q).1
 ·have sz:t.place.size=es.size:=by
   simp only[SetTable.fits,Bool.and_eq_true,beq_iff_eq]at ft
   exact ft.1
  show t.place.toList.Pairwise _
  have:t.place.toList.length≤1:=by simp;omega
  match e:t.place.toList,this with
  | [],_=>exact .nil
  | [x],_=>simp
theorem vU(hh:A.handled=none)(ne:a≠it)(hd:o.data = .set es ep t)(ft:t.fits es.size=true)(tb:Tb (eJ w) t)(np:eJ w=false→t.plain=true∨es.size≤1):
  WalksS prog w A it [it,a] [it] Eq es.size (λi v=>((gM w a es ep)[i]?).map (·.2)=some v) (StI w it a o es ep t) where
 sub:=λb hb=>by simp at hb;simp[hb]
 grefl:=λ_=>rfl
 gtrans:=λ_ _ _ x y=>x.trans y
 frame:=λi s h' tk st _ k=>by
  obtain⟨slot,h1,h2,h3⟩:=st
  exact⟨slot,k it (by simp) _ h1,k a (by simp) _ h2,h3⟩
 item:=λi s Q E hi st hQ=>by
  obtain⟨slot,h1,h2,h3⟩:=st
  have sz:(gM w a es ep).size=es.size:=by
   have:=(hU (w:=w) (a:=a) (es:=es) (ep:=ep)).length_eq
   simpa using this
  have he:(gM w a es ep)[i]?=some (gM w a es ep)[i]:=Array.getElem?_eq_getElem (by omega)
  refine wK h1 h2 hd ft tb np h3 he λh' slot' i1 j1 sb=> ?_
  refine hQ _ { s with heap:=h' } (by rw[he];rfl) ⟨slot',i1,(sb.2 a ne).trans h2,λz=> ?_⟩ ⟨λb q hb e=>(sb.2 b (λz=>hb (by simp[z]))).trans e,rfl,rfl,rfl,Nat.le_refl _⟩
  obtain⟨hi',e⟩:=j1 z
  rw[e]
  exact qB (pP (w:=w) ft tb (np z)) hi'
 done:=λs Q E st hQ=>by
  obtain⟨slot,h1,h2,h3⟩:=st
  have sz:(gM w a es ep).size=es.size:=by
   have:=(hU (w:=w) (a:=a) (es:=es) (ep:=ep)).length_eq
   simpa using this
  exact xZ hh h1 h2 hd ft tb np h3 (by simp[sz]) λh' eb=>hQ { s with heap:=h' } ⟨λb q hb e=>eb b q (λz=>hb (by simp[z])) e,rfl,rfl,rfl,Nat.le_refl _⟩
 self:=λi s Q E st hQ=>by
  obtain⟨slot,h1,h2,h3⟩:=st
  have ty:s.TypeIs (.ref it) "set_iterator":= ⟨_,h1,rfl⟩
  refine wpAny_pyIter_slot ty kI (wpAny_call_entry kI ty rM ?_ (rG _))
  show wpAny (model prog w) A.in1 (ret (.ref it)) _ _ s
  exact wpAny_pure ⟨_,rfl,"set_iterator",_,ty,cI.lookup,hQ⟩
end
end FK
namespace FK
open PySem PySem.Spec PyProof.Rows
set_option maxRecDepth 100000
section
variable {prog : Program} {w : World} {A : Around} {E : Value → Shared → Prop} {s : Shared} {a : Addr} {o : Obj} {es : Array (Int × Value)} {ep : Nat} {t : SetTable}
theorem oP{Q:List Value→Shared→Prop}(hh:A.handled=none)(ho:s.heap.get? a=some o)(hx:o.ExactSet)(hd:o.data = .set es ep t)(ft:t.fits es.size=true)(tb:Tb (eJ w) t)(np:eJ w=false→t.plain=true∨es.size≤1)(small:es.size≤sizeLine)
  (hQ:∀h' tk,s.heap.objs.size<h'.objs.size→(∀b q,s.heap.get? b=some q→h'.get? b=some q)→Q ((gM w a es ep).toList.map (·.2)) { s with heap:=h',toks:=tk }):wpAny (model prog w) A (collect (.ref a)) Q E s:=by
 have al:a<s.heap.objs.size:=Heap.lt_size ho
 unfold collect
 refine wpAny_bind (wpAny_runValue (codeAny_builtin PySem.F.entry_proto_collect ?_));rw[Around.under_plainId PySem.F.plain_proto_collect _]
 show wpAny (model prog w) A.in1 (newList [] >>= λl=>again (.builtin "list.__iadd__" ⟨[l,.ref a],[]⟩)) _ _ s
 refine wpAny_bind (wpAny_newObj_type (wpAny_pure ⟨plainId_quiet PySem.F.plain_list_iadd _,codeAny_builtin PySem.F.entry_list_iadd ?_⟩));rw[Around.under_plainId PySem.F.plain_list_iadd _]
 generalize hn:s.heap.push { cls:=.type "list",data:=.seq ([]:List Value).toArray }=h1
 have g1:h1.get? s.heap.objs.size=some { cls:=.type "list",data:=.seq ([]:List Value).toArray }:=by rw[← hn];exact Heap.get?_push_size _ rfl
 have k1:∀b q,s.heap.get? b=some q→h1.get? b=some q:=λb q z=>by rw[← hn];exact Heap.get?_push_of_some _ z
 have z1:h1.objs.size=s.heap.objs.size+1:=by rw[← hn];exact Heap.size_push ..
 have ty:Shared.TypeIs { s with heap:=h1 } (.ref a) "set":= ⟨o,k1 _ _ ho,hx.1⟩
 show wpAny (model prog w) A.in1 (Builtin.List.listExtendWith (.ref s.heap.objs.size) (.ref a) (.ref s.heap.objs.size)) _ _ { s with heap:=h1 }
 unfold Builtin.List.listExtendWith
 refine wpAny_bind (wpAny_typeOf ty ?_)
 have ne:Builtin.List.listSameRef (.ref s.heap.objs.size) (.ref a)=false:=by
  simp only[Builtin.List.listSameRef,beq_eq_false_iff_ne]
  exact Nat.ne_of_gt al
 rw[if_neg (by rw[ne];decide)]
 refine wpAny_bind (vb (s:={ s with heap:=h1 }) (k1 _ _ ho) hx hd ft np λh2 i2 k2=> ?_)
 have ty2:Shared.TypeIs { s with heap:=h2 } (.ref a) "set":= ⟨o,k2 _ _ (k1 _ _ ho),hx.1⟩
 refine wpAny_bind (wpAny_holding ?_)
 unfold Builtin.List.listLengthHint
 refine wpAny_bind (wpAny_specialOf ty2 PySem.F.slot_set_len.lookup ?_)
 generalize hid:("set.__len__": String)=id0;(fail_if_success (clear hid id0));wp_delta;rw[show splitId id0=some ("set","__len__")from by subst hid;decide +kernel];subst hid
 refine wpAny_bind (wpAny_isInstance (b:=true) ty2 sub_set_self ?_)
 simp only[Bool.not_true,Bool.false_eq_true,if_false]
 rw[if_pos (by decide +kernel)]
 refine wpAny_bind (wpAny_typeOf ty2 (wpAny_pure ?_))
 rw[if_pos (by decide +kernel)]
 refine wpAny_bind (wpAny_rule (wpAny_bind ?_))
 unfold Builtin.List.listTouch
 have gs:h2.get? s.heap.objs.size=some { cls:=.type "list",data:=.seq ([]:List Value).toArray }:=k2 _ _ g1
 refine wpAny_bind (listUpdate_at (s:={ s with heap:=h2 }) gs rfl ?_)
 have g3:=get?_update_seq (show h2.get? s.heap.objs.size=some (seqObj "list" ([]:List Value).toArray 0)from gs) λx=>x.push Value.none
 have b3:=Heap.SameBut.update h2 s.heap.objs.size (Obj.mapSeq λx=>x.push Value.none)
 show wpAny (model prog w) _ _ _ _ { s with heap:=h2.update s.heap.objs.size (Obj.mapSeq λx=>x.push Value.none) }
 generalize h2.update s.heap.objs.size (Obj.mapSeq λx=>x.push Value.none)=h3 at g3 b3 ⊢
 refine listUpdate_at (s:={ s with heap:=h3 }) g3 rfl ?_
 have g4:=get?_update_seq g3 λx=>x.pop
 have b4:=Heap.SameBut.update h3 s.heap.objs.size (Obj.mapSeq λx=>x.pop)
 show wpAny (model prog w) _ _ _ _ { s with heap:=h3.update s.heap.objs.size (Obj.mapSeq λx=>x.pop) }
 generalize h3.update s.heap.objs.size (Obj.mapSeq λx=>x.pop)=h4 at g4 b4 ⊢
 have ai:a≠h1.objs.size:=by rw[z1];exact Nat.ne_of_lt (Nat.lt_succ_of_lt al)
 have as:a≠s.heap.objs.size:=Nat.ne_of_lt al
 have is:h1.objs.size≠s.heap.objs.size:=by rw[z1];exact Nat.succ_ne_self _
 have W:=vU (prog:=prog) (A:=A.in1) (it:=h1.objs.size) (o:=o) (by simp[hh]) ai hd ft tb np
 have keep:∀b q,b≠s.heap.objs.size→h2.get? b=some q→h4.get? b=some q:=λb q nb z=>(b4.2 b nb).trans ((b3.2 b nb).trans z)
 have st:StI w h1.objs.size a o es ep t 0 { s with heap:=h4 }:=⟨0,keep _ _ is i2,keep _ _ as (k2 _ _ (k1 _ _ ho)),λz=>qC (pP (w:=w) ft tb (np z))⟩
 have nf:s.heap.objs.size∉[h1.objs.size,a]:=λz=>by
  rcases List.mem_cons.mp z with z|z
  ·exact is z.symm
  ·exact as (List.mem_singleton.mp z).symm
 refine wpAny_pure ⟨plainId_quiet PySem.F.plain_extend_loop _,codeAny_extend_loopS W small _ nf _ es.size 0 _ _ _ rfl (Nat.zero_le _) st g4 (ItemsOf.nil _) λs' acc c m gS items=> ?_⟩
 show wpAny (model prog w) A (load s.heap.objs.size >>= _) _ _ s'
 refine wpAny_bind (wpAny_load gS (wpAny_pure ?_))
 have el:acc.toList=(gM w a es ep).toList.map (·.2):=by
  have sz:(gM w a es ep).size=es.size:=by
   have:=(hU (w:=w) (a:=a) (es:=es) (ep:=ep)).length_eq
   simpa using this
  refine List.ext_getElem (by simp[items.1,sz]) λj p q=> ?_
  have hj:j<acc.size:=by simpa using p
  have this:((gM w a es ep)[j]?).map (·.2)=some acc[j]:=items.2 j acc[j] (Array.getElem?_eq_getElem hj)
  have hj2:j<(gM w a es ep).size:=by simpa using q
  rw[Array.getElem?_eq_getElem hj2]at this
  have e:=Option.some.inj this
  simp[← e]
 obtain⟨h5,g5,d5,t5,o5⟩:=s'
 have e1:s.gens=g5:=m.gens
 have e2:d5=s.drawn:=m.drawn
 have e3:o5=s.os:=m.os
 subst e1 e2 e3
 show Q acc.toList _
 rw[el]
 refine hQ h5 t5 (Heap.lt_size gS) λb q z=> ?_
 have lb:b<s.heap.objs.size:=Heap.lt_size z
 have nb:b≠s.heap.objs.size:=Nat.ne_of_lt lb
 refine m.heap b q (λy=> ?_) (keep b q nb (k2 _ _ (k1 _ _ z)))
 rcases List.mem_cons.mp y with y|y
 ·exact nb y
 ·have:=List.mem_singleton.mp y
  rw[this,z1]at lb
  exact absurd lb (Nat.not_lt.mpr (Nat.le_succ _))
end
end FK
namespace FK
open PySem PySem.Spec PyProof.Rows
set_option maxRecDepth 100000
def sT(h:Heap)(it T a:Addr)(n ep i:Nat): Prop:=
 h.get? it=some { cls:=.type "set_iterator",dict:=none,data:=.fields #[.ref T,.int i 0,.ref a,.int n 0,.int ep 0],slots:= #[] }
def zE(h:Heap)(T:Addr)(ps:List Nat): Prop:=∃q m,h.get? T=some q∧q.data = .seq (ps.map λ(p:Nat)=>rawInt (p:Int)).toArray m
section
variable {prog : Program} {w : World} {A : Around} {E : Value → Shared → Prop} {s : Shared} {a it T : Addr} {o : Obj} {es : Array (Int × Value)} {ep i : Nat} {t : SetTable} {ps : List Nat}
theorem wu{p:Nat}{e:Int×Value}{Q:Option Value→Shared→Prop}(hit:sT s.heap it T a es.size ep i)(hT:zE s.heap T ps)(ho:s.heap.get? a=some o)(hd:o.data = .set es ep t)(ft:t.fits es.size=true)
  (hp:ps[i]?=some p) (he:es[p]?=some e)
  (hQ:∀h',sT h' it T a es.size ep (i+1)→Heap.SameBut it s.heap h'→Q (some e.2) { s with heap:=h' }):wpAny (model prog w) A (pyNext (.ref it)) Q E s:=by
 have ty:s.TypeIs (.ref it) "set_iterator":= ⟨_,hit,rfl⟩
 obtain⟨q,m,g1,g2⟩:=hT
 unfold pyNext
 refine wpAny_bind (wpAny_attempt (wpAny_callSpecial?_slot (name:=Str.ofString "__next__") ty cI (wpAny_call_entry cI ty kD ?_ (kz _))))
 refine wpAny_bind (wpAny_pure (wpAny_bind (wpAny_fieldsOf hit rfl ?_)))
 show wpAny (model prog w) A.in1 (setEntries a >>= _) _ _ s
 unfold setEntries
 refine wpAny_bind (wpAny_bind (wpAny_setState_of ho hd ft (wpAny_pure ?_)))
 rw[if_neg (by simp)]
 show wpAny (model prog w) A.in1 (seqItems? (.ref T) >>= _) _ _ s
 refine wpAny_bind (wpAny_seqItems g1 g2 ?_)
 have ei:((ps.map λ(p:Nat)=>rawInt (p:Int)).toArray)[((i:Nat):Int).toNat]?=some (rawInt (p:Int)):=by
  rw[Int.toNat_natCast]
  simp[hp]
 dsimp only
 rw[ei]
 show wpAny (model prog w) A.in1 (setNextDrawn a ((p:Nat):Int).toNat ((ep:Nat):Int).toNat >>= _) _ _ s
 rw[Int.toNat_natCast,Int.toNat_natCast]
 refine wpAny_bind ?_
 unfold setNextDrawn
 refine wpAny_bind (wpAny_setState_of ho hd ft ?_)
 dsimp only
 rw[if_neg (by simp),he]
 obtain⟨hsh,x⟩:=e
 refine wpAny_pure ?_
 refine wpAny_bind (wpAny_setField_rec hit (by simp) λh4 e4 b4=> ?_)
 refine wpAny_pure ⟨_,rfl,wpAny_pure (hQ h4 ?_ b4)⟩
 have e5:((i+1:Nat):Int)=(i:Int)+1:=by omega
 unfold sT
 rw[e5]
 simpa [rawInt] using e4
theorem xP{Q:Option Value→Shared→Prop}(hh:A.handled=none)(hit:sT s.heap it T a es.size ep i)(hT:zE s.heap T ps)(ho:s.heap.get? a=some o)(hd:o.data = .set es ep t)(ft:t.fits es.size=true)
  (hp:ps[i]?=none) (hQ:∀h',Heap.ExtBut it s.heap h'→Q none { s with heap:=h' }):wpAny (model prog w) A (pyNext (.ref it)) Q E s:=by
 have ty:s.TypeIs (.ref it) "set_iterator":= ⟨_,hit,rfl⟩
 obtain⟨q,m,g1,g2⟩:=hT
 unfold pyNext
 refine wpAny_bind (wpAny_attempt (wpAny_callSpecial?_slot (name:=Str.ofString "__next__") ty cI (wpAny_call_entry cI ty kD ?_ (kz _))))
 refine wpAny_bind (wpAny_pure (wpAny_bind (wpAny_fieldsOf hit rfl ?_)))
 show wpAny (model prog w) A.in1 (setEntries a >>= _) _ _ s
 unfold setEntries
 refine wpAny_bind (wpAny_bind (wpAny_setState_of ho hd ft (wpAny_pure ?_)))
 rw[if_neg (by simp)]
 show wpAny (model prog w) A.in1 (seqItems? (.ref T) >>= _) _ _ s
 refine wpAny_bind (wpAny_seqItems g1 g2 ?_)
 have ei:((ps.map λ(p:Nat)=>rawInt (p:Int)).toArray)[((i:Nat):Int).toNat]?=none:=by
  rw[Int.toNat_natCast]
  have:ps.length≤i:=by simpa using hp
  simp[this]
 dsimp only
 rw[ei]
 dsimp only
 refine wpAny_bind (wpAny_setField_rec hit (by simp) λh3 e3 b3=>wpAny_bind (wpAny_setField e3 rfl (by simp) (wpAny_bind ?_)))
 simp only[newExc,newTuple]
 refine wpAny_bind (wpAny_newObj_type ?_ (by size_fits))
 refine wpAny_bind (m:=firstArgMember _ _) (wpAny_of_eq (a:=Value.none) (by first|rfl|(simp only[firstArgMember];rfl)) (wpAny_newObj_type ?_ (by size_fits)))
 simp only[raiseNew]
 refine wpAny_bind (wpAny_handled ?_)
 rw[show A.in1.handled=none from hh]
 refine wpAny_bind (wpAny_pure (wpAny_throw ?_));refine wpAny_bind (wpAny_isInstance (T:="StopIteration") (b:=true) ⟨_,Heap.get?_push_size _ rfl,rfl⟩ isSubtype_stop ?_)
 have b3':Heap.SameBut it s.heap h3:=b3
 exact wpAny_pure (hQ _ (((b3'.trans (Heap.SameBut.update ..)).extBut.push _).push _))
end
end FK
namespace FK
open PySem PySem.Spec PyProof.Rows
set_option maxRecDepth 100000
section
variable {prog : Program} {w : World} {A : Around} {E : Value → Shared → Prop} {s : Shared} {a : Addr} {o : Obj} {es : Array (Int × Value)} {ep : Nat} {t : SetTable}
theorem rA{Q:Bool→Shared→Prop}(ho:s.heap.get? a=some o)(hd:o.data = .set es ep t)(ft:t.fits es.size=true)(b:eJ w=false)(p:t.plain=false)(z:1<es.size)(h:Q true s): wpAny (model prog w) A (setDrawn a) Q E s:=by
 unfold setDrawn
 refine wpAny_bind (wpAny_setState_of ho hd ft ?_)
 dsimp only
 refine wpAny_bind (oq (wpAny_pure ?_))
 show Q (!eJ w&&(!t.plain&&decide (es.size>1))) s
 rw[b,p,decide_eq_true z]
 exact h
theorem qO{Q:Value→Shared→Prop}(ho:s.heap.get? a=some o)(hx:o.ExactSet)(hd:o.data = .set es ep t)(ft:t.fits es.size=true)(b:eJ w=false)(p:t.plain=false)(z:1<es.size)(small:es.size≤1000000)
  (hQ:∀h' d' ps,ps.Perm (List.range es.size)→sT h' (s.heap.objs.size+1) s.heap.objs.size a es.size ep 0→zE h' s.heap.objs.size ps→h'.objs.size=s.heap.objs.size+2→(∀b q,s.heap.get? b=some q→h'.get? b=some q)→Q (.ref (s.heap.objs.size+1)) { s with heap:=h',drawn:=d' }):wpAny (model prog w) A (pyIter (.ref a)) Q E s:=by
 have ty:s.TypeIs (.ref a) "set":= ⟨o,ho,hx.1⟩
 refine wpAny_pyIter_slot ty PySem.F.slot_set_iter (wpAny_call_entry PySem.F.slot_set_iter ty rL ?_ (PySem.F.args_set_iter_1 _))
 unfold Builtin.«frozenset.__iter__»
 refine wpAny_bind (wpAny_pure ?_)
 unfold Builtin.Frozenset.sizeOf setEntries
 refine wpAny_bind (wpAny_bind (wpAny_bind (wpAny_setState_of ho hd ft (wpAny_pure (wpAny_pure ?_)))))
 refine wpAny_bind (rA ho hd ft b p z ?_)
 simp only[if_true]
 refine wpAny_bind (sO es.size (List.range es.size) (by simp) λps dr pm=> ?_)
 have pl:ps.length=es.size:=by rw[pm.length_eq];simp
 refine wpAny_bind (wpAny_newTuple ?_ (by first|(simp[sizeLine_eq];omega)|skip))
 generalize hn:s.heap.push { cls:=.type "tuple",data:=.seq (ps.map λ(i:Nat)=>rawInt (i:Int)).toArray }=h1
 have g1:h1.get? s.heap.objs.size=some { cls:=.type "tuple",data:=.seq (ps.map λ(i:Nat)=>rawInt (i:Int)).toArray }:=by rw[← hn];exact Heap.get?_push_size _ rfl
 have k1:∀b q,s.heap.get? b=some q→h1.get? b=some q:=λb q z=>by rw[← hn];exact Heap.get?_push_of_some _ z
 have z1:h1.objs.size=s.heap.objs.size+1:=by rw[← hn];exact Heap.size_push ..
 show wpAny (model prog w) A.in1 (setEpoch a >>= _) _ _ { s with heap:=h1,drawn:=dr }
 refine wpAny_bind (wpAny_setEpoch_of (s:={ s with heap:=h1,drawn:=dr }) (k1 _ _ ho) hd ft (wpAny_bind (wpAny_newObj_type (wpAny_pure ⟨_,rfl,"set_iterator",_,⟨_,Heap.get?_push_size _ rfl,rfl⟩,cI.lookup,?_⟩))))
 have g2:=Heap.get?_push_size h1 (o:={ cls:=.type "set_iterator",data:=.fields #[.ref s.heap.objs.size,.int 0 0,.ref a,.int es.size 0,.int ep 0] }) rfl
 rw[z1]at g2
 have fin:=hQ (h1.push { cls:=.type "set_iterator",data:=.fields #[.ref s.heap.objs.size,.int 0 0,.ref a,.int es.size 0,.int ep 0] }) dr ps pm g2 ⟨_,_,Heap.get?_push_of_some _ g1,rfl⟩ (by rw[Heap.size_push,z1]) λb q z=>Heap.get?_push_of_some _ (k1 _ _ z)
 rw[← z1]at fin
 exact fin
end
section
variable {prog : Program} {w : World} {A : Around} {a it T : Addr} {o : Obj} {es : Array (Int × Value)} {ep : Nat} {t : SetTable} {ps : List Nat}
def StD(it T a:Addr)(o:Obj)(n ep:Nat)(ps:List Nat)(i:Nat)(s:Shared): Prop:=sT s.heap it T a n ep i∧zE s.heap T ps∧s.heap.get? a=some o
theorem rm(hh:A.handled=none)(ne:a≠it)(nT:T≠it)(hd:o.data = .set es ep t)(ft:t.fits es.size=true)(pm:ps.Perm (List.range es.size)):
  WalksS prog w A it [it,T,a] [it] Eq es.size (λi v=>∃p e,ps[i]?=some p∧es[p]?=some e∧e.2=v) (StD it T a o es.size ep ps) where
 sub:=λb hb=>by simp at hb;simp[hb]
 grefl:=λ_=>rfl
 gtrans:=λ_ _ _ x y=>x.trans y
 frame:=λi s h' tk st _ k=>by
  obtain⟨h1,⟨q,m,h2,h3⟩,h4⟩:=st
  exact⟨k it (by simp) _ h1,⟨q,m,k T (by simp) _ h2,h3⟩,k a (by simp) _ h4⟩
 item:=λi s Q E hi st hQ=>by
  obtain⟨h1,h2,h3⟩:=st
  have pl:ps.length=es.size:=by rw[pm.length_eq];simp
  have hp:ps[i]?=some (ps[i]'(by omega)):=List.getElem?_eq_getElem (by omega)
  have lt:ps[i]'(by omega)<es.size:=List.mem_range.mp (pm.mem_iff.mp (List.getElem_mem _))
  have he:es[ps[i]'(by omega)]?=some es[ps[i]'(by omega)]:=Array.getElem?_eq_getElem lt
  refine wu h1 h2 h3 hd ft hp he λh' i1 sb=> ?_
  obtain⟨q,m,g2,g3⟩:=h2
  exact hQ _ { s with heap:=h' } ⟨_,_,hp,he,rfl⟩ ⟨i1,⟨q,m,(sb.2 T nT).trans g2,g3⟩,(sb.2 a ne).trans h3⟩ ⟨λb q hb e=>(sb.2 b (λz=>hb (by simp[z]))).trans e,rfl,rfl,rfl,Nat.le_refl _⟩
 done:=λs Q E st hQ=>by
  obtain⟨h1,h2,h3⟩:=st
  have pl:ps.length=es.size:=by rw[pm.length_eq];simp
  exact xP hh h1 h2 h3 hd ft (by simp[pl]) λh' eb=>hQ { s with heap:=h' } ⟨λb q hb e=>eb b q (λz=>hb (by simp[z])) e,rfl,rfl,rfl,Nat.le_refl _⟩
 self:=λi s Q E st hQ=>by
  obtain⟨h1,_,_⟩:=st
  have ty:s.TypeIs (.ref it) "set_iterator":= ⟨_,h1,rfl⟩
  refine wpAny_pyIter_slot ty kI (wpAny_call_entry kI ty rM ?_ (rG _))
  show wpAny (model prog w) A.in1 (ret (.ref it)) _ _ s
  exact wpAny_pure ⟨_,rfl,"set_iterator",_,ty,cI.lookup,hQ⟩
end
end FK
namespace FK
open PySem PySem.Spec PyProof.Rows
set_option maxRecDepth 100000
section
variable {prog : Program} {w : World} {A : Around} {E : Value → Shared → Prop} {s : Shared} {a : Addr} {o : Obj} {es : Array (Int × Value)} {ep : Nat} {t : SetTable}
theorem me{Q:List Value→Shared→Prop}(hh:A.handled=none)(ho:s.heap.get? a=some o)(hx:o.ExactSet)(hd:o.data = .set es ep t)(ft:t.fits es.size=true)(bt:eJ w=false)(np:t.plain=false)(gt:1<es.size)(small:es.size≤1000000)
  (hQ:∀h' tk d' vs,vs.Perm (es.toList.map (·.2))→s.heap.objs.size<h'.objs.size→(∀b q,s.heap.get? b=some q→h'.get? b=some q)→Q vs { s with heap:=h',toks:=tk,drawn:=d' }):wpAny (model prog w) A (collect (.ref a)) Q E s:=by
 have al:a<s.heap.objs.size:=Heap.lt_size ho
 unfold collect
 refine wpAny_bind (wpAny_runValue (codeAny_builtin PySem.F.entry_proto_collect ?_));rw[Around.under_plainId PySem.F.plain_proto_collect _]
 show wpAny (model prog w) A.in1 (newList [] >>= λl=>again (.builtin "list.__iadd__" ⟨[l,.ref a],[]⟩)) _ _ s
 refine wpAny_bind (wpAny_newObj_type (wpAny_pure ⟨plainId_quiet PySem.F.plain_list_iadd _,codeAny_builtin PySem.F.entry_list_iadd ?_⟩));rw[Around.under_plainId PySem.F.plain_list_iadd _]
 generalize hn:s.heap.push { cls:=.type "list",data:=.seq ([]:List Value).toArray }=h1
 have g1:h1.get? s.heap.objs.size=some { cls:=.type "list",data:=.seq ([]:List Value).toArray }:=by rw[← hn];exact Heap.get?_push_size _ rfl
 have k1:∀b q,s.heap.get? b=some q→h1.get? b=some q:=λb q z=>by rw[← hn];exact Heap.get?_push_of_some _ z
 have z1:h1.objs.size=s.heap.objs.size+1:=by rw[← hn];exact Heap.size_push ..
 have ty:Shared.TypeIs { s with heap:=h1 } (.ref a) "set":= ⟨o,k1 _ _ ho,hx.1⟩
 show wpAny (model prog w) A.in1 (Builtin.List.listExtendWith (.ref s.heap.objs.size) (.ref a) (.ref s.heap.objs.size)) _ _ { s with heap:=h1 }
 unfold Builtin.List.listExtendWith
 refine wpAny_bind (wpAny_typeOf ty ?_)
 have ne:Builtin.List.listSameRef (.ref s.heap.objs.size) (.ref a)=false:=by
  simp only[Builtin.List.listSameRef,beq_eq_false_iff_ne]
  exact Nat.ne_of_gt al
 rw[if_neg (by rw[ne];decide)]
 refine wpAny_bind (qO (s:={ s with heap:=h1 }) (k1 _ _ ho) hx hd ft bt np gt small λh2 dr ps pm i2 pT z2 k2=> ?_)
 have ty2:Shared.TypeIs { s with heap:=h2,drawn:=dr } (.ref a) "set":= ⟨o,k2 _ _ (k1 _ _ ho),hx.1⟩
 refine wpAny_bind (wpAny_holding ?_)
 unfold Builtin.List.listLengthHint
 refine wpAny_bind (wpAny_specialOf ty2 PySem.F.slot_set_len.lookup ?_)
 generalize hid:("set.__len__": String)=id0;(fail_if_success (clear hid id0));wp_delta;rw[show splitId id0=some ("set","__len__")from by subst hid;decide +kernel];subst hid
 refine wpAny_bind (wpAny_isInstance (b:=true) ty2 sub_set_self ?_)
 simp only[Bool.not_true,Bool.false_eq_true,if_false]
 rw[if_pos (by decide +kernel)]
 refine wpAny_bind (wpAny_typeOf ty2 (wpAny_pure ?_))
 rw[if_pos (by decide +kernel)]
 refine wpAny_bind (wpAny_rule (wpAny_bind ?_))
 unfold Builtin.List.listTouch
 have gs:h2.get? s.heap.objs.size=some { cls:=.type "list",data:=.seq ([]:List Value).toArray }:=k2 _ _ g1
 refine wpAny_bind (listUpdate_at (s:={ s with heap:=h2,drawn:=dr }) gs rfl ?_)
 have g3:=get?_update_seq (show h2.get? s.heap.objs.size=some (seqObj "list" ([]:List Value).toArray 0)from gs) λx=>x.push Value.none
 have b3:=Heap.SameBut.update h2 s.heap.objs.size (Obj.mapSeq λx=>x.push Value.none)
 show wpAny (model prog w) _ _ _ _ { s with drawn:=dr,heap:=h2.update s.heap.objs.size (Obj.mapSeq λx=>x.push Value.none) }
 generalize h2.update s.heap.objs.size (Obj.mapSeq λx=>x.push Value.none)=h3 at g3 b3 ⊢
 refine listUpdate_at (s:={ s with heap:=h3,drawn:=dr }) g3 rfl ?_
 have g4:=get?_update_seq g3 λx=>x.pop
 have b4:=Heap.SameBut.update h3 s.heap.objs.size (Obj.mapSeq λx=>x.pop)
 show wpAny (model prog w) _ _ _ _ { s with drawn:=dr,heap:=h3.update s.heap.objs.size (Obj.mapSeq λx=>x.pop) }
 generalize h3.update s.heap.objs.size (Obj.mapSeq λx=>x.pop)=h4 at g4 b4 ⊢
 have ai:a≠h1.objs.size+1:=by rw[z1];exact Nat.ne_of_lt (Nat.lt_succ_of_lt (Nat.lt_succ_of_lt al))
 have as:a≠s.heap.objs.size:=Nat.ne_of_lt al
 have is:h1.objs.size+1≠s.heap.objs.size:=by rw[z1];exact Nat.ne_of_gt (Nat.lt_succ_of_lt (Nat.lt_succ_self _))
 have ts:h1.objs.size≠s.heap.objs.size:=by rw[z1];exact Nat.succ_ne_self _
 have W:=rm (prog:=prog) (w:=w) (A:=A.in1) (it:=h1.objs.size+1) (T:=h1.objs.size) (o:=o) (by simp[hh]) ai (Nat.ne_of_lt (Nat.lt_succ_self _)) hd ft pm
 have keep:∀b q,b≠s.heap.objs.size→h2.get? b=some q→h4.get? b=some q:=λb q nb z=>(b4.2 b nb).trans ((b3.2 b nb).trans z)
 have st:StD (h1.objs.size+1) h1.objs.size a o es.size ep ps 0 { s with heap:=h4,drawn:=dr }:=by
  obtain⟨q,m,y1,y2⟩:=pT
  exact⟨keep _ _ is i2,⟨q,m,keep _ _ ts y1,y2⟩,keep _ _ as (k2 _ _ (k1 _ _ ho))⟩
 have nf:s.heap.objs.size∉[h1.objs.size+1,h1.objs.size,a]:=λz=>by
  rcases List.mem_cons.mp z with z|z
  ·exact is z.symm
  ·rcases List.mem_cons.mp z with z|z
   ·exact ts z.symm
   ·exact as (List.mem_singleton.mp z).symm
 refine wpAny_pure ⟨plainId_quiet PySem.F.plain_extend_loop _,codeAny_extend_loopS W (by rw[sizeLine_eq];omega) _ nf _ es.size 0 _ _ _ rfl (Nat.zero_le _) st g4 (ItemsOf.nil _) λs' acc c m gS items=> ?_⟩
 show wpAny (model prog w) A (load s.heap.objs.size >>= _) _ _ s'
 refine wpAny_bind (wpAny_load gS (wpAny_pure ?_))
 have pl:ps.length=es.size:=by rw[pm.length_eq];simp
 have el:acc.toList=ps.map λp=>(es.toList.map (·.2)).getD p .none:=by
  refine List.ext_getElem (by simp[items.1,pl]) λj p q=> ?_
  have hj:j<acc.size:=by simpa using p
  obtain⟨x,e,y1,y2,y3⟩:=items.2 j acc[j] (Array.getElem?_eq_getElem hj)
  have hj2:j<ps.length:=by simpa using q
  rw[List.getElem?_eq_getElem hj2]at y1
  cases y1
  simp only[List.getElem_map,Array.getElem_toList]
  rw[← y3,List.getD_eq_getElem?_getD,List.getElem?_map,Array.getElem?_toList,y2]
  rfl
 have ev:(ps.map λp=>(es.toList.map (·.2)).getD p .none).Perm (es.toList.map (·.2)):=by
  have h1:=pm.map λp=>(es.toList.map (·.2)).getD p Value.none
  have h2:(List.range es.size).map (λp=>(es.toList.map (·.2)).getD p Value.none)=es.toList.map (·.2):=by
   refine List.ext_getElem (by simp) λj p q=> ?_
   have hj:j<es.size:=by simpa using p
   simp[hj]
  rwa [h2]at h1
 obtain⟨h5,g5,d5,t5,o5⟩:=s'
 have e1:s.gens=g5:=m.gens
 have e2:d5=dr:=m.drawn
 have e3:o5=s.os:=m.os
 subst e1 e2 e3
 show Q acc.toList _
 rw[el]
 refine hQ h5 t5 _ _ ev (Heap.lt_size gS) λb q z=> ?_
 have lb:b<s.heap.objs.size:=Heap.lt_size z
 have nb:b≠s.heap.objs.size:=Nat.ne_of_lt lb
 refine m.heap b q (λy=> ?_) (keep b q nb (k2 _ _ (k1 _ _ z)))
 rcases List.mem_cons.mp y with y|y
 ·exact nb y
 ·have:=List.mem_singleton.mp y
  rw[this,z1]at lb
  exact absurd lb (Nat.not_lt.mpr (Nat.le_succ_of_le (Nat.le_succ _)))
end
end FK
namespace FK
open PySem PySem.W PySem.Spec PySem.Calls PyProof.Rows L2 FT
set_option maxRecDepth 100000
section
variable {prog : Program} {w : World} {A : Around} {E : Value → Shared → Prop} {s : Shared} {a : Addr} {S : Int → Prop} {n : Nat}
theorem o6:∀ {vs:List Value},(∀v∈vs,∃k t,v = .int k t)→∃ks,IntsAre vs ks
 | [],_=>⟨[],.nil⟩
 | v::vs,h=>by
  obtain⟨ks,r⟩:=o6 (vs:=vs) λx hx=>h x (List.mem_cons_of_mem _ hx)
  obtain⟨k,t,rfl⟩:=h v List.mem_cons_self
  exact⟨k::ks,.cons k t r⟩
def vI:Value→Int
 | .int k _=>k
 | _=>0
theorem o7:∀ {vs:List Value} {ks:List Int},IntsAre vs ks→vs.map vI=ks
 | _,_,.nil=>rfl
 | _,_,.cons k t r=>congrArg (k :: ·) (o7 r)
theorem oO{Q:List Value→Shared→Prop}(hh:A.handled=none)(g:eF prog w s.heap a S n)(few:n≤1000000)
  (hQ:∀h' tk d' vs ks,IntsAre vs ks→ks.Nodup→(∀k,k∈ks↔S k)→vs.length≤n→s.heap.objs.size<h'.objs.size→(∀b q,s.heap.get? b=some q→h'.get? b=some q)→Q vs { s with heap:=h',toks:=tk,drawn:=d' }):wpAny (model prog w) A (collect (.ref a)) Q E s:=by
 obtain⟨o,es,ep,t,ho,hx,hd,el,nd,mem,sz,ft,tb⟩:=g
 have fin:∀(vs:List Value) h' tk d',vs.Perm (es.toList.map (·.2))→s.heap.objs.size<h'.objs.size→(∀b q,s.heap.get? b=some q→h'.get? b=some q)→Q vs { s with heap:=h',toks:=tk,drawn:=d' }:=λvs h' tk d' pm hz kp=>by
  obtain⟨ks,r⟩:=o6 (vs:=vs) λv hv=>by
   obtain⟨e,he,rfl⟩:=List.mem_map.mp (pm.mem_iff.mp hv)
   obtain⟨t,q⟩:=oQ el he
   exact⟨_,t,q⟩
  have em:ks.Perm (es.toList.map vi):=by
   rw[← o7 r]
   have:=pm.map vI
   rw[List.map_map]at this
   exact this
  refine hQ h' tk d' vs ks r (em.nodup_iff.mpr nd) (λk=>em.mem_iff.trans (mem k)) ?_ hz kp
  have:=pm.length_eq
  simp at this
  omega
 by_cases c:eJ w=false→t.plain=true∨es.size≤1
 ·exact oP hh ho hx hd ft tb c (by rw[sizeLine_eq];omega) λh' tk hz kp=>fin _ h' tk s.drawn (hU.map _) hz kp
 ·have bt:eJ w=false:=Classical.byContradiction λz=>c λy=>absurd y z
  have np:¬(t.plain=true∨es.size≤1):=λz=>c λ_=>z
  exact me hh ho hx hd ft bt (by cases e:t.plain with|false=>rfl|true=>exact absurd (.inl e) np) (Nat.not_le.mp λz=>np (.inr z)) (by omega) λh' tk d' vs pm hz kp=>fin vs h' tk d' pm hz kp
end
end FK
namespace FK
open PySem PySem.W PySem.Spec PySem.Calls PyProof.Rows L2 FT
set_option maxRecDepth 100000
section
variable {prog : Program} {w : World} {A : Around} {E : Value → Shared → Prop} {s : Shared} {a : Addr} {S : Int → Prop} {n : Nat}
theorem mI{vs:List Value}{ks:List Int}(r:IntsAre vs ks): ∀q:List Nat,(∀i∈q,i<vs.length)→IntsAre (q.map λi=>vs.getD i Value.none) (q.map λi=>ks.getD i 0)
 | [],_=>.nil
 | i::q,hq=>by
  have ih:=mI r q λj hj=>hq j (List.mem_cons_of_mem _ hj)
  obtain⟨t,e⟩:=int_at i r (hq i List.mem_cons_self)
  rw[List.map_cons,List.map_cons,e]
  exact .cons _ t ih
theorem p8{Q:Value→Shared→Prop}(hh:A.handled=none)(g:eF prog w s.heap a S n)(few:n<64)
  (h:∀b h' c vs ms tk d',s.heap.objs.size≤b→Kp s.heap h'→h'.get? b=some (seqObj "list" (List.toArray vs) c)→IntsAre vs ms→vs.length≤n→ms.Pairwise (· < ·)→(∀k,k∈ms↔S k)→Q (.ref b) { s with heap:=h',toks:=tk,drawn:=d' }) :
  wpAny (model prog w) A (call (.builtin "sorted") [.ref a]) Q E s:=by
 refine Calls.call_function_entry kind_sorted plain_sorted entry_sorted (args_sorted1 _) ?_
 unfold Builtin.«sorted»
 refine wpAny_bind (m:=checkCount "sorted" 1 1 _) (wpAny_pure (wpAny_bind (oO (A:=A.in1) (by simp[hh]) g (by omega) λh1 tk d' vs ks r nd mem vl hz kp=> ?_)))
 have small:vs.length≤sizeLine:=by rw[sizeLine_eq];omega
 have ln:vs.length=ks.length:=dG r
 refine wpAny_bind (wpAny_newList ?_ small)
 have g1:=Heap.get?_push_size h1 (o:=seqObj "list" vs.toArray 0) rfl
 show wpAny (model prog w) _ _ _ _ { s with heap:=h1.push (seqObj "list" vs.toArray 0),toks:=tk,drawn:=d' }
 have fin:∀p h' c,Pm vs.length p→Up (λi=>ks.getD i 0) p vs.length→Kp h1 h'→h'.get? h1.objs.size=some (seqObj "list" (kq vs p).toArray c)→Q (.ref h1.objs.size) { s with heap:=h',toks:=tk,drawn:=d' }:=λp h' c hp hu k e=>by
  rw[ln]at hp hu
  have so:=o8 rfl hp hu
  have io:IntsAre (kq vs p) (o9 ks):=by
   rw[← so]
   exact mI r p.toList λi hi=>by
    have m:=(Array.perm_iff_toList_perm.mp hp).mem_iff (a:=i)
    simp only[List.toList_toArray]at m
    have:=List.mem_range.mp (m.mp hi)
    omega
  refine h _ h' c (kq vs p) (o9 ks) tk d' (Nat.le_of_lt hz) (λb q y=>k b q (kp b q y)) e io (by rw[dG io,(dS ks).length_eq,← ln];exact vl) ?_ λz=>((dS ks).mem_iff).trans (mem z)
  have up:=nW ks
  have nd':(o9 ks).Nodup:=(dS ks).nodup_iff.mpr nd
  rw[List.nodup_iff_pairwise_ne]at nd'
  exact(up.and nd').imp λ⟨x,y⟩=>Int.lt_iff_le_and_ne.mpr ⟨x,y⟩
 refine wpAny_bind (wpAny_holding (wpAny_call_entry slot_list_sort ⟨_,g1,rfl⟩ entry_list_sort ?body (args_list_sort _)))
 case body=>
  by_cases h2:2≤vs.length
  ·refine tQ (s:={ s with heap:=h1.push (seqObj "list" vs.toArray 0),toks:=tk,drawn:=d' }) (κ:=oneType') (r:=λi=>ks.getD i 0) (h0:=h1) (Kp.push _ _) (Nat.le_refl _) g1 h2 (by omega) (λh' C kk hC=> ?_) (λh' i j C kk hi hj hC=> ?_) λp h' c hp hu k e=> ?_
   ·exact kas_kind (T:=.type "int") h2 (λv hv=>by obtain⟨n,t,rfl⟩:=jS r v hv;exact .now) (by decide) (by decide) hC
   ·obtain⟨t1,a1⟩:=int_at i r hi
    obtain⟨t2,a2⟩:=int_at j r hj
    unfold kas_ask
    rw[a1,a2]
    exact kat_lt_int hC
   ·exact⟨_,rfl,wpAny_pure ⟨_,rfl,fin p h' c hp hu k e⟩⟩
  ·refine tO (s:={ s with heap:=h1.push (seqObj "list" vs.toArray 0),toks:=tk,drawn:=d' }) (r:=λi=>ks.getD i 0) (h0:=h1) (Kp.push _ _) (Nat.le_refl _) g1 (by omega) λp h' c hp hu k e=> ?_
   exact⟨_,rfl,wpAny_pure ⟨_,rfl,fin p h' c hp hu k e⟩⟩
end
end FK
namespace FK
open PySem PySem.W PySem.Spec PySem.Calls PyProof.Rows L2 FL FT
set_option maxRecDepth 100000
theorem u8{X:Cx}{pins:List (Addr×Obj)}{σ:L2.St}{H:Hp}{s:Shared}(I:L2.Inv X pins σ H s)(d':Drawn): L2.Inv X pins σ H { s with drawn:=d' }:=by
 exact { I with }
section
variable {X : Cx}
theorem sY(hc:X.calm=true): CallR X (.type "set") (λxs H Q=>∃(l:Addr) (us:List V) (ns:List Int),xs=[V.ref l]∧SqL X.K H l us∧IsAll X.K H us (ns.map D.int)∧ns.length<64∧
  ∀b H',H b=none→H'=upd H b (.ext λh=>eF X.prog X.w h b (·∈ns) ns.length)→Q (.ref b) H'):=by
 intro pins s σ H xs us Q I r h
 obtain⟨l,ws,ns,rfl,h1,h2,few,q⟩:=h
 obtain⟨u,rfl,ru⟩:=vals1 r
 cases ru
 obtain⟨its,w1,p1,_⟩:=I.list h1
 have e0:=rR h2
 have P:IntsAre its ns:=FL.intsAre_of (by rw[← e0];exact w1)
 have ln:=dG P
 refine sZ (ns:=ns) (I.ok.hd hc) p1.isList (by simpa using P) (by unfold scanBound;simp;omega) λh' tk g kp=> ?_
 have g':eF X.prog X.w h' s.heap.objs.size (·∈ns) ns.length:=by
  have e:its.toArray.size=ns.length:=by simp[ln]
  rw[e]at g
  exact g.congr λk=>by
   constructor
   ·rintro⟨j,hj,rfl⟩
    rw[List.getD_eq_getElem?_getD,List.getElem?_eq_getElem hj]
    exact List.getElem_mem hj
   ·intro hk
    obtain⟨j,hj,e⟩:=List.mem_iff_getElem.mp hk
    exact⟨j,hj,by rw[List.getD_eq_getElem?_getD,List.getElem?_eq_getElem hj];exact e⟩
 refine⟨.ref s.heap.objs.size,_,I.laid (a:=s.heap.objs.size) (o:=.ext λh=>eF X.prog X.w h s.heap.objs.size (·∈ns) ns.length) (t':=tk) (λb o z=>kp b o (Heap.lt_size z) z) (Nat.le_refl _) ⟨g',?_,λa1 a2 y1 y2=>y1.at y2⟩,rfl,q _ _ (I.hok.fresh (Nat.le_refl _)) rfl⟩
 obtain⟨o,_,_,_,z,_⟩:=g'
 exact⟨o,z⟩
theorem nG(hc:X.calm=true): CallR X (.builtin "sorted") (λxs H Q=>∃(b:Addr) (S:Int→Prop) (n:Nat),xs=[V.ref b]∧H b=some (.ext λh=>eF X.prog X.w h b S n)∧n<64∧
  ∀(c:Addr) (ms:List Int) (H':Hp),H c=none→H'=upd H c (.lst (ms.map V.int))→ms.Pairwise (· < ·)→(∀k,k∈ms↔S k)→Q (.ref c) H'):=by
 intro pins s σ H xs us Q I r h
 obtain⟨b,S,n,rfl,h1,few,q⟩:=h
 obtain⟨u,rfl,ru⟩:=vals1 r
 cases ru
 have g:eF X.prog X.w s.heap b S n:=(I.hok b _ h1).1
 refine p8 (I.ok.hd hc) g few λc h' cc vs ms tk d' hb kp gl io vl up mem=> ?_
 have vv:∀ {vs:List Value} {ms:List Int},IntsAre vs ms→Vals (ms.map V.int) vs:=by
  intro vs ms io
  induction io with
  | nil=>exact .nil
  | cons n t _ ih=>exact .cons ⟨t,rfl⟩ ih
 have hn:H c=none:=I.hok.fresh hb
 have sz:(ms.map V.int).length≤sizeLine:=by
  have:=dG io
  rw[sizeLine_eq,List.length_map]
  omega
 have I1:=I.laid (a:=c) (o:=.lst (ms.map V.int)) (t':=tk) kp hb ⟨sz,vs,cc,vv io,gl⟩
 exact⟨.ref c,_,u8 I1 d',rfl,q c ms _ hn rfl up mem⟩
end
end FK
namespace FK
open PySem PySem.W PySem.Spec PySem.Calls PyProof.Rows L2 FL FT
set_option maxRecDepth 100000
theorem xL:bootBuiltins "set"=some (.type "set"):=by decide +kernel
theorem t9{l m:List Int}(hl:l.Pairwise (· < ·))(hm:m.Pairwise (· < ·))(e:∀k,k∈l↔k∈m): l=m:=by
 have nl:l.Nodup:=List.nodup_iff_pairwise_ne.mpr (hl.imp λh z=>by omega)
 have nm:m.Nodup:=List.nodup_iff_pairwise_ne.mpr (hm.imp λh z=>by omega)
 exact List.Perm.eq_of_pairwise (λa b _ _ x y=>by omega) hl hm ((List.perm_ext_iff_of_nodup nl nm).mpr e)
theorem lf{K:PySem.W.Frag}{H:Hp}: ∀ms:List Int,IsAll K H (ms.map V.int) (ms.map D.int)
 | []=>.nil
 | k::ms=>.cons (.int k) (lf ms)
section
variable {X : Cx} {e : Expr} {ρ : FL.Ro} {d : D} {ns ms : List Int} {pos pos2 p p2 : Pos}
theorem evn_sortedSet(hc:X.calm=true)(hm:X.mg "sorted"=none)(hm2:X.mg "set"=none)(h:Ev X e ρ d)(hd:qW d=some (ns.map D.int))(few:ns.length<64)(up:ms.Pairwise (· < ·))(mem:∀k,k∈ms↔k∈ns)
  (hg:Gl X "sorted":= by rfl) (hg2:Gl X "set":= by rfl) (he:starEach [e] X.env=[(false,eval e X.env)]:=by rfl)
  (he2:starEach [Expr.Call (.Name "set" p2) [e] [] pos2] X.env=[(false,eval (Expr.Call (.Name "set" p2) [e] [] pos2) X.env)]:=by rfl):iS X (.Call (.Name "sorted" p) [.Call (.Name "set" p2) [e] [] pos2] [] pos) ρ (ms.map D.int):=by
 refine PE.imp (pe_callB (nG hc) hg hm (by decide +kernel) (pa_cons (pe_callTy (sY hc) hg2 hm2 xL (ad h ae he) (by decide) (by decide) he rfl) pa_nil he2) (by decide) (by decide) he2 rfl) ?_
 rintro σ H Q ⟨r,q⟩
 refine⟨r,λvs H1 s1 h1=> ?_⟩
 obtain⟨v,rfl,hv⟩:=eO h1
 obtain⟨a,xs,rfl,hT,hA⟩:=hv.lsD_inv hd
 refine⟨a,xs,ns,rfl,hT,hA,few,λb H' hb e'=> ?_⟩
 subst e'
 have s2:Same H1 (upd H1 b (.ext λh=>eF X.prog X.w h b (·∈ns) ns.length)):=bA hb
 refine⟨b,(·∈ns),ns.length,rfl,upd_same,few,λc ms' H2 hcn e2 up' mem'=> ?_⟩
 subst e2
 obtain rfl:ms'=ms:=t9 up' up λk=>(mem' k).trans (mem k).symm
 have s3:=bA (o:=HO.lst (ms'.map V.int)) hcn
 exact q c (ms'.map V.int) _ ((s1.trans s2).free hcn) ((s1.trans s2).trans s3) upd_same (lf ms')
end
end FK
namespace CM
open PySem PySem.Spec L2 FL FT MG
noncomputable def PD(n:Nat): List Int:=o9 (((MD.PF n).map λ(p:Nat)=>(p:Int)).foldl oW [])
theorem ul{n:Nat}{k:Int}: k∈PD n↔k∈(MD.PF n).map λ(p:Nat)=>(p:Int):=by
 unfold PD
 rw[(dS _).mem_iff,mL]
 simp
theorem xo(n:Nat): (PD n).Pairwise (· < ·):=by
 have up:=nW (((MD.PF n).map λ(p:Nat)=>(p:Int)).foldl oW [])
 have nd:(PD n).Nodup:=(dS _).nodup_iff.mpr (jQ _ List.nodup_nil)
 rw[List.nodup_iff_pairwise_ne]at nd
 exact(up.and nd).imp λ⟨x,y⟩=>Int.lt_iff_le_and_ne.mpr ⟨x,y⟩
theorem xH{n:Nat}(n0:0<n)(h:n≤4000000): (MD.PF n).length<64:=by
 have key:∀m:Nat,0<m→2^(MD.PF m).length≤m:=by
  intro m
  induction m using Nat.strongRecOn with
  | _ m ih=>
   intro m0
   by_cases c:m<2
   ·rw[MD.PF_small c]
    show 1≤m
    omega
   ·have e:MD.PF m=MD.mf m::MD.PF (m/MD.mf m):=by rw[MD.PF];exact dif_neg c
    obtain⟨h2,hd⟩:2≤MD.mf m∧MD.mf m ∣ m:=by
     have:=um (MD.mf m) (by rw[e];exact List.mem_cons_self)
     exact⟨this.1.1,this.2⟩
    have dm:m/MD.mf m*MD.mf m=m:=Nat.div_mul_cancel hd
    have q0:0<m/MD.mf m:=Nat.div_pos (Nat.le_of_dvd m0 hd) (by omega)
    have lt:m/MD.mf m<m:=Nat.div_lt_self m0 (by omega)
    have:=ih _ lt q0
    rw[e,List.length_cons,Nat.pow_succ]
    calc 2^(MD.PF (m/MD.mf m)).length*2≤m/MD.mf m*MD.mf m:=Nat.mul_le_mul this h2
     _=m:=dm
 refine Nat.not_le.mp λz=> ?_
 have h1:=key n n0
 have h2:=Nat.pow_le_pow_right (show 0<2 by decide) z
 have h3:(4000000:Nat)<2^64:=by decide
 omega
def yg(ds es:List D): Prop:=∃n:Nat,ds=[nD n]∧0<n∧n≤4000000∧es=(PD n).map D.int
end CM
namespace FL
open PySem PySem.Spec PyProof.Rows L2
def ItV(K:PySem.W.Frag)(a:Addr)(n:Nat): It:=
 ⟨λi H=>∃xs x,SqL K H a xs∧i<n∧xs[n-1-i]?=some x,λi H x H'=>H'=H∧∀xs,SqL K H a xs→xs[n-1-i]?=some x,λi _=>n≤i⟩
theorem vS{P:Program}{w:World}{K:PySem.W.Frag}{tg:Expr}(a it:Addr)(n:Nat): Turn P w K tg (ItV K a n) [it] it (λi h=>i≤n∧h.IsRevIter it a ((n:Int)-1-((i:Nat):Int))) where
 mem:=by simp
 obj:=λi h st b hb=>by
  have e:b=it:=by simpa using hb
  subst e
  obtain⟨_,o,e,c,d⟩:=st
  exact⟨o,e,λv z=>by rw[d]at z;cases z⟩
 keep:=λi h h' st k=>⟨st.1,st.2.at λo e=>k it (by simp) o e⟩
 item:=by
  intro X hP hw hK hc i pins s σ H E I hf st hg
  subst hP hw hK
  obtain⟨xs,x,hq,hi,hx⟩:=hg
  obtain⟨its,rv,p,hz⟩:=I.list hq
  obtain⟨u,hu,ru⟩:=rv.get hx
  obtain⟨f0,f1,f2,f3,f4,f5⟩:=hf it (by simp)
  obtain⟨_,st⟩:=st
  have e1:(n:Int)-1-((i:Nat):Int)=((n-1-i:Nat):Int):=by omega
  rw[e1]at st
  refine wpAny_pyNext_rev_item st p.isList (x:=u) (by simpa using hu) λh' st' sb=> ?_
  have e2:((n-1-i:Nat):Int)-1=(n:Int)-1-((i+1:Nat):Int):=by omega
  rw[e2]at st'
  have I1:L2.Inv X pins σ H { s with heap:=h' }:=I.turned (t':=s.toks) (λb o hb e=>(sb.2 b hb).trans e) f0 f1 f3 f4 f5
  obtain⟨o,e,c,d⟩:=id st'
  exact⟨u,rfl,go_of (s:={ s with heap:=h' }) e c d (by decide) ⟨x,H,I1,ru,⟨rfl,λys hy=>by rw[I.list_inj hy hq];exact hx⟩,⟨by omega,st'⟩,λb hb=>(hf b hb).1⟩⟩
 done:=by
  intro X hP hw hK hc i pins s σ H E I hf st hg
  subst hP hw hK
  obtain⟨il,st⟩:=st
  have hg':n≤i:=hg
  obtain⟨f0,f1,f2,f3,f4,f5⟩:=hf it (by simp)
  have e1:(n:Int)-1-((i:Nat):Int) = -1:=by omega
  rw[e1]at st
  exact wpAny_pyNext_rev_end (I.ok.hd hc) st λh' eb=>⟨rfl,I.turned (t':=s.toks) (λb o hb e=>eb b o hb e) f0 f1 f3 f4 f5⟩
 self:=λ_ _ _ _ _ st h=>wpAny_pyIter_revIter st.2 h
section
variable {X : Cx} {a tg : Expr} {ρ : Ro} {ds : List D} {pos p : Pos}
theorem yy(hm:X.mg "reversed"=none)(he:iS X a ρ ds)(hz:∀d∈ds,Fz d)(hg:Gl X "reversed":= by rfl)(h1:starEach [a] X.env=[(false,eval a X.env)]:=by rfl):
  Wk X (λ_=>True) tg (.Call (.Name "reversed" p) [a] [] pos) ρ ds.reverse:=by
 intro pins s σ H R I ⟨r,q⟩
 have ha:PA X [a] (λσ H Q=>tN X ρ ds σ H λv H1=>Q [v] H1):=PA.imp (pa_cons he pa_nil h1) λσ H Q z=>by
  obtain⟨z1,z2⟩:=z
  exact⟨z1,λa vs H' x1 x2 x3 x4=>z2 a vs H' x1 x2 x3 x4⟩
 refine Call_ (ld_blt (u:=.type "reversed") I hg hm (by decide +kernel) (PyProof.Rows.callWith_type1 (thn (ha pos pins s σ H (λvs H1=>∃l xs,vs=[V.ref l]∧H l=none∧Same H H1∧H1 l=some (.lst xs)∧IsAll X.K H1 xs ds) I ⟨r.e,λl xs H1 x1 x2 x3 x4=>⟨l,xs,rfl,x1,x2,x3,x4⟩⟩) λus s1 ⟨vs,H1,I1,r1,q1⟩=> ?_) h1 rfl))
 obtain⟨l,xs,rfl,hl0,sm,hl,hxs⟩:=q1
 cases r1 with
 | cons ru rr=>
  cases rr
  cases ru
  obtain⟨its,rv,pl,hsz⟩:=I1.list (.of hl:SqL X.K H1 l xs)
  refine call_reversed_list pl.isList ?_
  have en:((its.toArray.size:Nat):Int)-1=((xs.length:Nat):Int)-1-((0:Nat):Int):=by
   have:=rv.length
   simp
   omega
  have I2:L2.Inv X pins σ H1 { s1 with heap:=s1.heap.push (revObj l (((its.toArray.size:Nat):Int)-1)) }:=I1.kept (t':=s1.toks) λb o z=>Heap.get?_push_of_some _ z
  have it0:(s1.heap.push (revObj l (((its.toArray.size:Nat):Int)-1))).IsRevIter s1.heap.objs.size l (((xs.length:Nat):Int)-1-((0:Nat):Int)):=⟨_,Heap.get?_push_size _ rfl,rfl,by rw[← en];rfl⟩
  refine wpAny_pyIter_revIter (s:={ s1 with heap:=s1.heap.push (revObj l (((its.toArray.size:Nat):Int)-1)) }) it0 ⟨_,[s1.heap.objs.size],_,ItV X.K l xs.length,H1,rfl,I2,vS l s1.heap.objs.size xs.length,⟨Nat.zero_le _,it0⟩,λb hb=> ?_,q _ H1 sm ?_⟩
  ·obtain rfl:b=s1.heap.objs.size:=by simpa using hb
   exact I1.fpOk (Nat.le_refl _) (I1.hok.fresh (Nat.le_refl _))
  ·intro ρ' H3 σ3 g r3 _
   have nm:¬Mu ρ l:=λm=>by obtain⟨ys,z,_⟩:=r.mu m;rw[hl0]at z;cases z
   have hl3:SqL X.K H3 l xs:=.of (g.kept _ _ hl nm)
   have hx3:=hxs.keep (g.kt (r.mono sm)) hz
   have len:=hx3.length
   refine⟨λi hi=>by rw[List.length_reverse]at hi;show xs.length≤i;omega,λi d hd=> ?_⟩
   have hi:i<ds.length:=by
    have:=(List.getElem?_eq_some_iff.mp hd).1
    rwa [List.length_reverse]at this
   rw[List.getElem?_reverse hi]at hd
   rw[← len]at hd
   obtain⟨y,hy,iy⟩:=hx3.get hd
   refine⟨⟨xs,y,hl3,by omega,hy⟩,?_⟩
   rintro x H4 ⟨rfl,all⟩
   have hy':=all xs hl3
   rw[hy]at hy'
   cases hy'
   exact⟨rfl,iy⟩
end
end FL
namespace FM
open PySem PySem.Spec PyProof.Rows L2 FL
abbrev ma(o:Obj): HO:=.frz o (.ext λ_=>True)
abbrev p9(ps:Array Value): Obj:={ cls:=.none,data:=.fields ps }
def Nt(o:HO): Prop:=(∀ps,o≠.tbl ps)∧∀ob φ,o≠.frz ob (.ext φ)
def aO(H H':Hp): Prop:=∀a o,H a=some o→Nt o→H' a=some o
theorem aO.of{H H':Hp}(e:Same H H'): aO H H':=λa o h _=>e a o h
theorem aO.trans{H H1 H2:Hp}(a:aO H H1)(b:aO H1 H2): aO H H2:=λc o h n=>b c o (a c o h n) n
theorem vj(xs:List V): Nt (.lst xs):=⟨λ_ z=>(nomatch z),λ_ _ z=>(nomatch z)⟩
theorem qY(xs:List V): Nt (.tup xs):=⟨λ_ z=>(nomatch z),λ_ _ z=>(nomatch z)⟩
theorem qX(o:Obj)(xs:List V): Nt (.frz o (.lst xs)):=⟨λ_ z=>(nomatch z),λ_ _ z=>by cases z⟩
theorem yb(o:Obj)(xs:List V): Nt (.frz o (.tup xs)):=⟨λ_ z=>(nomatch z),λ_ _ z=>by cases z⟩
theorem zY{u:HO}{t:Bool}{ks:List D}{us:List V}(h:xu u=some (t,ks,us)): Nt u:=⟨λ_ z=>(by subst z;cases h),λ_ _ z=>by subst z;cases h⟩
theorem zk{o:Obj}{u:HO}{t:Bool}{ks:List D}{us:List V}(h:xu u=some (t,ks,us)): Nt (.frz o u):=⟨λ_ z=>(nomatch z),λ_ _ z=>by cases z;cases h⟩
theorem Ac{K:PySem.W.Frag}{H H':Hp}{a:Addr}{xs:List V}(e:aO H H')(h:SqL K H a xs): SqL K H' a xs:=by
 rcases h with(h|⟨o,h⟩)|h
 ·exact .inl (.inl (e _ _ h (vj xs)))
 ·exact .inl (.inr ⟨o,e _ _ h (qX o xs)⟩)
 ·exact .inr h
theorem Ae{K:PySem.W.Frag}{H H':Hp}{a:Addr}{xs:List V}(e:aO H H')(h:SqT K H a xs): SqT K H' a xs:=by
 rcases h with(h|⟨o,h⟩)|h
 ·exact .inl (.inl (e _ _ h (qY xs)))
 ·exact .inl (.inr ⟨o,e _ _ h (yb o xs)⟩)
 ·exact .inr h
mutual
theorem wI{K:PySem.W.Frag}{H H':Hp}(e:aO H H'): ∀ {v:V} {d:D},Is K H v d→Is K H' v d
 | _,_,.non=>.non
 | _,_,.bl b=>.bl b
 | _,_,.int i=>.int i
 | _,_,.str x=>.str x
 | _,_,.ty n=>.ty n
 | _,_,.tup h r=>.tup (e _ _ h (qY _)) (fH e r)
 | _,_,.ls h r=>.ls (Ac e h) (fH e r)
 | _,_,.lst h r=>.lst (e _ _ h (vj _)) (fH e r)
 | _,_,.ob a=>.ob a
 | _,_,.kt h r=>.kt (Ae e h) (fH e r)
 | _,_,.fl h r=>.fl (e _ _ h (qX _ _)) (fH e r)
 | _,_,.fd h z r=>.fd (e _ _ h (zk z)) z (fH e r)
 | _,_,.dc h z r=>.dc (e _ _ h (zY z)) z (fH e r)
 | _,_,.exn h z=>.exn (e _ _ h ⟨λ_ z=>(nomatch z),λ_ _ z=>by cases z⟩) z
 | _,_,.qi h z r=>.qi (e _ _ h ⟨λ_ z=>(nomatch z),λ_ _ z=>by cases z⟩) (e _ _ z (qX _ _)) (fH e r)
theorem fH{K:PySem.W.Frag}{H H':Hp}(e:aO H H'): ∀ {vs:List V} {ds:List D},IsAll K H vs ds→IsAll K H' vs ds
 | _,_,.nil=>.nil
 | _,_,.cons h r=>.cons (wI e h) (fH e r)
end
theorem tZ{X:Cx}{H H':Hp}{σ:L2.St}{ρ:Ro}(r:RelE X H σ ρ)(e:aO H H'): RelE X H' σ ρ:=⟨r.len,λi d h=>let ⟨v,a,b⟩:=r.val i d h;⟨v,a,wI e b⟩⟩
def ui(o:Obj)(qn:Str): Prop:=∃vs t,o.data = .fields vs∧vs[1]?=some (.str qn t)
def Tb(H:Hp)(Pl:Addr)(pos:Pos)(qn:Str): Prop:=
 H Pl=some (.tbl #[])∨∃c' o',H Pl=some (.tbl #[rawInt pos.line,rawInt pos.col,.ref c'])∧H c'=some (ma o')∧ui o' qn
theorem Tb.same{H H':Hp}{Pl:Addr}{pos:Pos}{qn:Str}(t:Tb H Pl pos qn)(e:Same H H'): Tb H' Pl pos qn:=by
 rcases t with t|⟨c,o,a,b,d⟩
 ·exact .inl (e _ _ t)
 ·exact .inr ⟨c,o,e _ _ a,e _ _ b,d⟩
structure Tab(base:Heap)(mg:Str→Option Value)(Pl cc:Addr): Prop where
 code:∀(h:Heap) (ps:Array Value),(∀b o,base.get? b=some o→h.get? b=some o)→h.get? Pl=some (p9 ps)→TriplesOk ps.toList→h.IsCode cc Pl ps∧h.TableAt cc Pl ps
 bm:base.BuiltinsAt mg Pl
 gP:mainGlobals≠Pl
 no:base.get? Pl=none
def uf(name qualname:Str)(params:Arguments)(body:List Stmt)(scope:Scope)(cl:List (Str×Addr))(T:Addr)(pm code doc:Value): FuncData:=
 { name,qualname,params,body:=.stmts body,scope,globals:=mainGlobals,closure:=cl,closureTuple:=.ref T,defaults:=.none,kwdefaults:=.none,annotations:=none,pyModule:=pm,code,doc,builtins:=builtinsNs }
abbrev wj(fd:FuncData): Obj:={ cls:=.type "function",data:=.func fd }
section
variable {M : Model} {A : Around} {E : Value → Shared → Prop} {s : Shared} {name qualname : Str} {params : Arguments} {body : List Stmt} {sc : Scope} {env : Env} {mg : Str → Option Value} {c Pl : Addr} {ps : Array Value} {pos : Pos} {firstLine : Nat} {cl : List (Str × Addr)} {Q : Value → Shared → Prop}
theorem vP(hcl:closureFor sc env=pure cl)(hne:cl.isEmpty=false)(hgl:env.globals=mainGlobals)(hbl:env.builtins=builtinsNs)(hg:s.heap.Ns mainGlobals mg)(hcode:env.code = .ref c)(hok:s.heap.IsCode c Pl ps)(htb:s.heap.TableAt c Pl ps)(hnf:codeAmong pos ps.toList=none)(hgP:mainGlobals≠Pl)(hb:s.heap.BuiltinsAt mg Pl)
  (h:∀c' doc h' tk T,Heap.ExtBut Pl s.heap h'→s.heap.objs.size≤c'→c'<h'.objs.size→h'.get? Pl=some (p9 (ps ++ #[rawInt pos.line,rawInt pos.col,.ref c']))→h'.CodeRec (.ref c') qualname→
   Q (.ref h'.objs.size) { s with heap:=h'.push (wj (uf name qualname params body sc cl T ((mg "__name__").getD .none) (.ref c') doc)),toks:=tk }) :
  wpAny M A (makeTail name qualname params (.stmts body) sc env .none .none none pos firstLine) Q E s:=by
 unfold makeTail
 rw[hcl,hgl,hbl]
 simp only[pure_bind,hne,Bool.false_eq_true,if_false]
 refine wpAny_bind (wpAny_newTextTuple ?_)
 generalize (List.map (λx=>Value.ref x.2) (cl.mergeSort λa b=>decide (a.1.cps.toList≤b.1.cps.toList)))=items
 have hk:∀b o,s.heap.get? b=some o→(s.heap.push { cls:=.type "tuple",data:=.seq items.toArray }).get? b=some o:=λb o e=>Heap.get?_push_of_some _ e
 refine wpAny_bind (wpAny_functionCodeX (s:={ s with heap:=s.heap.push { cls:=.type "tuple",data:=.seq items.toArray } }) hcode (hok.keeps hk) (htb.keeps hk) hnf λc' h' tk hx hge hlt _ hrec htab _=> ?_)
 obtain⟨bm,o,hbm,hne0,_,hneP,hbo,hcls,hdict,hdata⟩:=hb
 have hg':h'.Ns mainGlobals mg:=(hg.keeps hk).extBut hx hgP
 refine wpAny_bind (wpAny_builtinsFor hg' hbm hne0 (hx _ _ hneP (hk _ _ hbo)) hcls hdict hdata ?_)
 refine wpAny_bind (wpAny_nsGet hg' ?_)
 have hx':Heap.ExtBut Pl s.heap h':=λb o' hb' e=>hx b o' hb' (hk b o' e)
 have hge':s.heap.objs.size≤c':=Nat.le_trans (by rw[Heap.size_push];exact Nat.le_succ _) hge
 cases hdoc:docOf body with
 | none=>exact wpAny_bind (wpAny_pure (wpAny_newObj_type (h c' .none h' tk _ hx' hge' hlt htab.2 hrec) (by size_fits)))
 | some t=>exact wpAny_bind (wpAny_mkText (wpAny_newObj_type (h c' _ h' _ _ hx' hge' hlt htab.2 hrec) (by size_fits)))
theorem vO{c':Addr}(hcl:closureFor sc env=pure cl)(hne:cl.isEmpty=false)(hgl:env.globals=mainGlobals)(hbl:env.builtins=builtinsNs)(hg:s.heap.Ns mainGlobals mg)(hcode:env.code = .ref c)(hok:s.heap.IsCode c Pl ps)(hnf:codeAmong pos ps.toList=some (.ref c'))(hb:s.heap.BuiltinsAt mg Pl)
  (h:∀(doc:Value) (h':Heap) (tk:Nat) (T:Addr),(∀b o,s.heap.get? b=some o→h'.get? b=some o)→s.heap.objs.size≤h'.objs.size→
   Q (.ref h'.objs.size) { s with heap:=h'.push (wj (uf name qualname params body sc cl T ((mg "__name__").getD .none) (.ref c') doc)),toks:=tk }) :
  wpAny M A (makeTail name qualname params (.stmts body) sc env .none .none none pos firstLine) Q E s:=by
 unfold makeTail
 rw[hcl,hgl,hbl]
 simp only[pure_bind,hne,Bool.false_eq_true,if_false]
 refine wpAny_bind (wpAny_newTextTuple ?_)
 generalize (List.map (λx=>Value.ref x.2) (cl.mergeSort λa b=>decide (a.1.cps.toList≤b.1.cps.toList)))=items
 have hk:∀b o,s.heap.get? b=some o→(s.heap.push { cls:=.type "tuple",data:=.seq items.toArray }).get? b=some o:=λb o e=>Heap.get?_push_of_some _ e
 have hz:s.heap.objs.size≤(s.heap.push { cls:=.type "tuple",data:=.seq items.toArray }).objs.size:=by rw[Heap.size_push];exact Nat.le_succ _
 refine wpAny_bind (wpAny_functionCode_hit (s:={ s with heap:=s.heap.push { cls:=.type "tuple",data:=.seq items.toArray } }) hcode (hok.keeps hk) hnf ?_)
 obtain⟨bm,o,hbm,hne0,_,hneP,hbo,hcls,hdict,hdata⟩:=hb
 have hg':=hg.keeps hk
 refine wpAny_bind (wpAny_builtinsFor (s:={ s with heap:=s.heap.push { cls:=.type "tuple",data:=.seq items.toArray } }) hg' hbm hne0 (hk _ _ hbo) hcls hdict hdata ?_)
 refine wpAny_bind (wpAny_nsGet (s:={ s with heap:=s.heap.push { cls:=.type "tuple",data:=.seq items.toArray } }) hg' ?_)
 cases hdoc:docOf body with
 | none=>exact wpAny_bind (wpAny_pure (wpAny_newObj_type (h .none _ _ _ hk hz) (by size_fits)))
 | some t=>exact wpAny_bind (wpAny_mkText (wpAny_newObj_type (h _ _ _ _ hk hz) (by size_fits)))
end
section
variable {X : Cx} {pins : List (Addr × Obj)} {σ : L2.St} {H : Hp} {s : Shared} {E : Value → Shared → Prop} {M : Model} {A : Around}
theorem iK{P:Program}{w:World}{H:Hp}{h:Heap}{a:Addr}{o:Obj}(e:h.get? a=some o): ObjOk P w H h a (ma o):=⟨e,trivial,⟨o,e⟩,λ_ _ _ _=>trivial⟩
theorem tH{cc Pl:Addr}{cl:List (Str×Addr)}{name p qn:Str}{ppos pos:Pos}{body:List Stmt}{sc:Scope}{i:Nat}{Q:Flow→Shared→Prop}
  (I:Inv X pins σ H s) (hpn:X.pn++pins=[]) (hcode:X.env.code = .ref cc) (B:Tab X.base X.mg Pl cc) (t:Tb H Pl pos qn) (hN:X.N.Nodup) (hi:X.N[i]?=some name) (hx:X.env.scope.names.lookup name=some .local)
  (hcl:closureFor sc X.env=pure cl) (hne:cl.isEmpty=false) (hq:qualnameIn X.env name name=qn)
  (h:∀(s':Shared) (H':Hp) (g c' T:Addr) (pm doc:Value) (o':Obj),X.s₀.heap.objs.size≤g→H g=none→aO H H'→(∀b,X.s₀.heap.objs.size≤b→b<s.heap.objs.size→H b=none→H' b=none)→Tb H' Pl pos qn→
   H' g=some (ma (wj (uf name qn ⟨[],[⟨p,none,ppos⟩],none,[],[],none,[]⟩ body sc cl T pm (.ref c') doc)))→H' c'=some (ma o')→ui o' qn→Inv X pins (σ.set i (some (.ref g))) H' s'→Q .next s') :
  wpAny M A (exec (.FunctionDef name ⟨[],[⟨p,none,ppos⟩],none,[],[],none,[]⟩ body [] none [] sc none name pos) X.env) Q E s:=by
 rw[exec_def,hq]
 refine wpAny_bind (wpAny_standAt (wpAny_bind (wpAny_holding ?_)))
 refine wpAny_bind (m:=evalAll _) (wpAny_pure (a:=([]:List Value)) ?_)
 refine wpAny_bind (wpAny_holding (wpAny_pure (a:=([]:List (Option Value))) ?_))
 refine wpAny_holding ?_
 refine wpAny_bind (m:=evalNamed _) (wpAny_pure (a:=([]:List (Str×Value))) ?_)
 rw[makeFunction_eq]
 refine wpAny_bind (wpAny_pure (a:=Value.none) ?_)
 refine wpAny_bind (wpAny_pure (a:=Value.none) ?_)
 refine wpAny_bind (wpAny_pure (a:=(none:Option Addr)) ?_)
 have hg:s.heap.Ns mainGlobals X.mg:=I.ok.mod.glob.keeps I.bk
 obtain⟨bm,ob,b1,b2,b3,b4,b5,b6⟩:=B.bm
 have hbm:s.heap.BuiltinsAt X.mg Pl:=⟨bm,ob,b1,b2,b3,b4,I.bk _ _ b5,b6⟩
 have hsz:=I.sz
 rcases t with t|⟨c',o',t1,t2,t3⟩
 ·have hP:s.heap.get? Pl=some (p9 #[]):=I.hok Pl _ t
  have hlP:=Heap.lt_size hP
  refine vP (ps:= #[]) hcl hne I.ok.glob I.ok.blt hg hcode (B.code s.heap #[] I.bk hP trivial).1 (B.code s.heap #[] I.bk hP trivial).2 rfl B.gP hbm λc' doc h' tk T hxb hge hlt htab hrec=> ?_
  have hsz':s.heap.objs.size<h'.objs.size:=Nat.lt_of_le_of_lt hge hlt
  obtain⟨cA,oA,vA,tA,eA,gA,dA,qA⟩:=hrec
  cases eA
  obtain⟨fo,hfo⟩:∃fo:Obj,wj (uf name qn ⟨[],[⟨p,none,ppos⟩],none,[],[],none,[]⟩ body sc cl T ((X.mg "__name__").getD .none) (.ref c') doc)=fo:=⟨_,rfl⟩
  rw[hfo]
  have fr:∀b,s.heap.objs.size≤b→H b=none:=λb hb=>I.hok.fresh hb
  have keep:∀b o,b≠Pl→s.heap.get? b=some o→(h'.push fo).get? b=some o:=λb o hb e=>Heap.get?_push_of_some _ (hxb b o hb e)
  have cP:c'≠Pl:=Nat.ne_of_gt (Nat.lt_of_lt_of_le hlP hge)
  have gP:h'.objs.size≠Pl:=Nat.ne_of_gt (Nat.lt_trans hlP hsz')
  have gc:h'.objs.size≠c':=Nat.ne_of_gt hlt
  obtain⟨H',hH'⟩:∃H':Hp,H'=upd (upd (upd H Pl (.tbl (#[] ++ #[rawInt pos.line,rawInt pos.col,.ref c']))) c' (ma oA)) h'.objs.size (ma fo):=⟨_,rfl⟩
  have at1:H' h'.objs.size=some (ma fo):=by rw[hH',upd_same]
  have at2:H' c'=some (ma oA):=by rw[hH',upd_ne (Ne.symm gc),upd_same]
  have at3:H' Pl=some (.tbl (#[] ++ #[rawInt pos.line,rawInt pos.col,.ref c'])):=by rw[hH',upd_ne (Ne.symm gP),upd_ne (Ne.symm cP),upd_same]
  have at4:∀b,b≠Pl→b≠c'→b≠h'.objs.size→H' b=H b:=λb x1 x2 x3=>by rw[hH',upd_ne x3,upd_ne x2,upd_ne x1]
  have old:∀b u,H b=some u→b≠Pl→H' b=some u:=λb u q x1=>by
   rw[at4 b x1 (λz=>by rw[z,fr _ hge]at q;cases q) (λz=>by rw[z,fr _ (Nat.le_of_lt hsz')]at q;cases q)]
   exact q
  have fre:∀b,b<s.heap.objs.size→H b=none→H' b=none:=λb hb n=>by
   rw[at4 b (λz=>by rw[z,t]at n;cases n) (Nat.ne_of_lt (Nat.lt_of_lt_of_le hb hge)) (Nat.ne_of_lt (Nat.lt_trans hb hsz'))]
   exact n
  have I1:Inv X pins σ H' { s with heap:=h'.push fo,toks:=tk }:=by
   refine I.step (g':=s.gens) (d':=s.drawn) (t':=tk) (ch:=[]) (λb hb=>absurd hb (by simp)) (λb o _ _ _ e n=>keep b o (λz=>by rw[z,t]at n;cases n) e) (λb o _ _ _ e n=>⟨o.slots,keep b o (λz=>by rw[z,t]at n;cases n) e⟩)
    (λb o _ e n=>fre b (Heap.lt_size e) n) (λb o _ e=> ?_) (λb xs q=>old b _ q λz=>by rw[z,t]at q;cases q) (λb o u q=>old b _ q λz=>by rw[z,t]at q;cases q) (λb ps q=> ?_) (λm hm=> ?_) (λb o e=> ?_) I.bare
   ·by_cases z:b=Pl
    ·subst z;exact⟨_,Heap.get?_push_of_some _ htab⟩
    ·exact⟨o,keep b o z e⟩
   ·by_cases z:b=Pl
    ·subst z
     rw[t]at q
     cases q
     exact⟨_,at3⟩
    ·exact⟨#[],by rw[old b _ q z];simp⟩
   ·have nL:X.env.locals≠Pl:=λz=>by have:=I.free;rw[z,t]at this;cases this
    exact(hm.extBut hxb nL).push _
   ·by_cases z1:b=h'.objs.size
    ·subst z1
     rw[at1]at e
     cases e
     exact iK (Heap.get?_push_size _ (by rw[← hfo];rfl))
    by_cases z2:b=c'
    ·subst z2
     rw[at2]at e
     cases e
     exact iK (Heap.get?_push_of_some _ gA)
    by_cases z3:b=Pl
    ·subst z3
     rw[at3]at e
     cases e
     exact Heap.get?_push_of_some _ htab
    rw[at4 b z3 z2 z1]at e
    refine(I.hok b o e).stay (λc u hc q=>keep c u ?_ q) (λc q=>old c _ q λz=>by rw[z,t]at q;cases q) λc xs q=>old c _ q λz=>by rw[z,t]at q;cases q
    rcases hc with rfl|hc
    ·exact z3
    ·exact λz=>by rw[z,t]at hc;cases hc
  refine wpAny_bind (wpAny_standAt (wpAny_bind (wpAny_bindName ?_)))
  refine store_ok (X:=X) (v:=V.ref h'.objs.size) I1 hN hi (.inl hx) rfl (λs' I'=>wpAny_pure ?_) (.inr hx)
  refine h s' H' h'.objs.size c' T _ doc oA (Nat.le_trans hsz (Nat.le_of_lt hsz')) (fr _ (Nat.le_of_lt hsz')) (λb u q n=>old b u q λz=> ?_) (λb _ hb n=>fre b hb n) (.inr ⟨c',oA,?_,at2,vA,tA,dA,qA⟩) (by rw[at1,← hfo]) at2 ⟨vA,tA,dA,qA⟩ I'
  ·subst z
   rw[t]at q
   cases q
   exact n.1 _ rfl
  ·rw[at3]
   simp
 ·have hP:s.heap.get? Pl=some (p9 #[rawInt pos.line,rawInt pos.col,.ref c']):=I.hok Pl _ t1
  have hhit:codeAmong pos (#[rawInt pos.line,rawInt pos.col,Value.ref c']:Array Value).toList=some (.ref c'):=by simp[codeAmong,rawInt]
  refine vO (ps:= #[rawInt pos.line,rawInt pos.col,.ref c']) hcl hne I.ok.glob I.ok.blt hg hcode (B.code s.heap _ I.bk hP (by simp[TriplesOk,rawInt])).1 hhit hbm λdoc h' tk T hk hge=> ?_
  have I1:Inv X pins σ (upd H h'.objs.size (ma (wj (uf name qn ⟨[],[⟨p,none,ppos⟩],none,[],[],none,[]⟩ body sc cl T ((X.mg "__name__").getD .none) (.ref c') doc)))) { s with heap:=h'.push (wj (uf name qn ⟨[],[⟨p,none,ppos⟩],none,[],[],none,[]⟩ body sc cl T ((X.mg "__name__").getD .none) (.ref c') doc)),toks:=tk }:=
   I.laid (t':=tk) (λb o e=>Heap.get?_push_of_some _ (hk b o e)) hge (iK (Heap.get?_push_size _ rfl))
  have gn:H h'.objs.size=none:=I.hok.fresh hge
  have sm:Same H (upd H h'.objs.size (ma (wj (uf name qn ⟨[],[⟨p,none,ppos⟩],none,[],[],none,[]⟩ body sc cl T ((X.mg "__name__").getD .none) (.ref c') doc)))):=bA gn
  refine wpAny_bind (wpAny_standAt (wpAny_bind (wpAny_bindName ?_)))
  refine store_ok (X:=X) (v:=V.ref h'.objs.size) I1 hN hi (.inl hx) rfl (λs' I'=>wpAny_pure ?_) (.inr hx)
  exact h s' _ h'.objs.size c' T _ doc o' (Nat.le_trans hsz hge) gn (.of sm) (λb _ hb n=>by rw[upd_ne (Nat.ne_of_lt (Nat.lt_of_lt_of_le hb hge))];exact n) (.inr ⟨c',o',sm _ _ t1,sm _ _ t2,t3⟩) upd_same (sm _ _ t2) t3 I'
end
theorem mG{env:Env}: ∀(a b:List Stmt),execs (a++b) env=(do match ← execs a env with | .next=>execs b env|f=>pure f)
 | [],b=>by rw[List.nil_append,execs_nil,pure_bind]
 | st::a,b=>by
  rw[List.cons_append,execs_cons,execs_cons,bind_assoc]
  congr 1
  funext fl
  cases fl with
  | next=>exact mG a b
  | _=>simp only[pure_bind]
theorem rz{M:Model}{A:Around}{E:Value→Shared→Prop}{s:Shared}{env:Env}{a b:List Stmt}{Q:Flow→Shared→Prop}
  (h:wpAny M A (execs a env) (λfl s'=>match fl with | .next=>wpAny M A (execs b env) Q E s'|fl=>Q fl s') E s):wpAny M A (execs (a++b) env) Q E s:=by
 rw[mG]
 refine wpAny_bind (thn h λfl s' q=> ?_)
 cases fl with
 | next=>exact q
 | ret u=>exact wpAny_pure q
 | brk=>exact wpAny_pure q
 | cont=>exact wpAny_pure q
theorem qE{M:Model}{A:Around}{E:Value→Shared→Prop}{s:Shared}{env:Env}{pos:Pos}{first:List Value}{Q:Value→Shared→Prop}{f:Addr}{e:Expr}{rest:List Expr}{oc:Value}{od:Option Addr}{fd:FuncData}{osl:Array (Option Value)}
  (h:wpAny M A (spliced (backTo pos (starEach (e::rest) env))) (λvs s₁=>s₁.heap.get? f=some ⟨oc,od,.func fd,osl⟩∧wpAny M A (call (.ref f) (first++vs)) Q E s₁) E s)
  (he:starEach (e::rest) env=(false,eval e env)::starEach rest env) (hpl:(backTo pos (starEach rest env)).any (·.1)=false):wpAny M A (callWith pos (.ref f) first (backTo pos (starEach (e::rest) env)) []) Q E s:=by
 rw[he]at h ⊢
 exact PySem.W.callWith_of (P:=λh=>h.get? f=some ⟨oc,od,.func fd,osl⟩) (by show((false || (backTo pos (starEach rest env)).any (·.1)) || false)=false;rw[hpl];rfl)
  (λh hh=>⟨.frame,.inl rfl,(PySem.W.Looks.ld (part:=none) hh).andThen .now⟩) (PySem.Calls.evalArgs_plain h)
end FM
namespace FM
open PySem PySem.Spec PyProof.Rows L2 FL
def yB(K:PySem.W.Frag)(H:Hp)(g:Addr)(nm qn:Str)(params:Arguments)(ibody:List Stmt)(sc:Scope)(x y:Str)(dx dy:D): Prop:=
 ∃(c' T cX cY:Addr) (o' oX oY:Obj) (pm doc uX uY:Value) (vX vY:V),H g=some (ma (wj (uf nm qn params ibody sc [(x,cX),(y,cY)] T pm (.ref c') doc)))∧H c'=some (ma o')∧ui o' qn∧cX≠cY∧
  H cX=some (ma oX)∧oX.data = .cell (some uX)∧H cY=some (ma oY)∧oY.data = .cell (some uY)∧RelV vX uX∧RelV vY uY∧Is K H vX dx∧Is K H vY dy
theorem yB.same{K:PySem.W.Frag}{H H':Hp}{g:Addr}{nm qn:Str}{params:Arguments}{ibody:List Stmt}{sc:Scope}{x y:Str}{dx dy:D}(c:yB K H g nm qn params ibody sc x y dx dy)(e:Same H H'): yB K H' g nm qn params ibody sc x y dx dy:=by
 obtain⟨c',T,cX,cY,o',oX,oY,pm,doc,uX,uY,vX,vY,a1,a2,a3,a4,a5,a6,a7,a8,a9,a10,a11,a12⟩:=c
 exact⟨c',T,cX,cY,o',oX,oY,pm,doc,uX,uY,vX,vY,e _ _ a1,e _ _ a2,a3,a4,e _ _ a5,a6,e _ _ a7,a8,a9,a10,a11.mono e,a12.mono e⟩
def SpM(K:PySem.W.Frag)(Pl:Addr)(pos:Pos)(nm qn:Str)(params:Arguments)(ibody:List Stmt)(sc:Scope)(x y:Str)(Pf:D→D→D→Prop): Sp:=λvs H Q _=>
 ∃d0 dx dy,IsAll K H vs [d0]∧Pf d0 dx dy∧Tb H Pl pos qn∧∀g H',aO H H'→Tb H' Pl pos qn→yB K H' g nm qn params ibody sc x y dx dy→Q (.ref g) H'
section
variable {P : Program} {w : World} {K : PySem.W.Frag} {mg : Str → Option Value} {base : Heap}
theorem maker_ok{N:List Str}{qual x0 x y nm p:Str}{st st1:Stmt}{f:Addr}{fd:FuncData}{k:Nat}{cc Pl:Addr}{ppos pos rp np:Pos}{ibody:List Stmt}{sc:Scope}{cx cy:Addr→Addr}{jx jy i:Nat}{Pf:D→D→D→Prop}
  (F:Fun K qual qual st f fd) (S:FnScope N [x0] (defScope st)) (hcc:fd.code = .ref cc) (B:Tab base mg Pl cc)
  (hbody:defBody st=[st1,.FunctionDef nm ⟨[],[⟨p,none,ppos⟩],none,[],[],none,[]⟩ ibody [] none [] sc none nm pos,.Return (some (.Name nm np)) rp])
  (hjx:N[jx]?=some x) (hjy:N[jy]?=some y) (hi:N[i]?=some nm) (ix:jx≠i) (iy:jy≠i) (hx:(defScope st).names.lookup x=some .cell) (hy:(defScope st).names.lookup y=some .cell) (hn:(defScope st).names.lookup nm=some .local) (hxy:x≠y)
  (hcl:∀L f cd,closureFor sc (envOfC qual (defScope st) L f cd)=pure [(x,cx L),(y,cy L)])
  (hcx:∀L f cd,(envOfC qual (defScope st) L f cd).cells.lookup x=some (cx L)) (hcy:∀L f cd,(envOfC qual (defScope st) L f cd).cells.lookup y=some (cy L))
  (hq:∀L f cd,qualnameIn (envOfC qual (defScope st) L f cd) nm nm=qual ++ ".<locals>." ++ nm)
  (hdb:(nm==("__debug__": Str))=false) (hcd:(nm==("__classdict__": Str))=false)
  (hl:∀d0 dx dy,Pf d0 dx dy→aR d0=none)
  (hA:∀(cdv:Value) (A:Around) (outer:List Env) (s:Shared) (H:Hp) (E:XK),Room k (A.deeper (envOfC qual (defScope st) s.heap.objs.size f cdv))→∀d0 dx dy,Pf d0 dx dy→
   Do (gF P w K mg base N qual st f cdv A outer s H E) [st1] (nV N [d0]) { nx:=λρ=>ρ[jx]?=some (some dx)∧ρ[jy]?=some (some dy),rt:=λ_=>False }) (hb:Binds K fd [x0] []) :
  FnOk P w K mg base CX0 (k+1) f fd [x0] (SpM K Pl pos nm (qual ++ ".<locals>." ++ nm) ⟨[],[⟨p,none,ppos⟩],none,[],[],none,[]⟩ ibody sc x y Pf):=by
 refine⟨λvs H Q E ⟨d0,dx,dy,h1,_⟩=>h1.length,λA outer s H args us vs Q E hr e0 hbd r hsp=> ?_⟩
 obtain⟨d0,dx,dy,h1,hpf,htb,q⟩:=hsp
 obtain⟨oc,od,kV,doc,pm,an,cdv,ct,osl,rfl,lk,hcdv⟩:=F.ex
 have hcv:cdv = .ref cc:=hcc
 subst hcv
 have KX:K.In s.heap:=e0.mod.kin.keeps λb o e=>(e0.bs b o e).1
 have lim:s.heap.NoLimit:=e0.mod.nolimit.keeps λb o e=>(e0.bs b o e).1
 have lv:vs.length=1:=h1.length
 have lu:us.length=1:=by rw[← r.length];exact lv
 have hkind:∀z∈[x0].zip us,(defScope st).names.lookup z.1=some .local∨((defScope st).names.lookup z.1=some .cell∧((cellsFrom (s.heap.objs.size+1) (defScope st).names []).lookup z.1).isSome=true):=λz hz=>by
  obtain⟨n,u⟩:=z
  rcases S.par n (List.of_mem_zip hz).1 with q|q
  ·exact .inl q
  ·exact .inr ⟨q,PySem.W.cellsFrom_some _ _ _ (.inl q)⟩
 refine codeAny_call_function hr.depth (KX _ _ lk) rfl S.co S.gen rfl (PySem.W.codeRec_of KX hcdv) (hbd _ _ _ _ ?_)
 refine wpAny_newFunctionEnv_cells S.kind hkind λenv he s1 xx=> ?_
 subst he
 refine⟨lim.keeps xx.toInCall.keep,codeAny_func ?_⟩
 have I0:Inv (cxOf CX0 P w K mg base N qual (defScope st) f (.ref cc) A outer s H E0) [] (start N vs) H s1:=inv_start (ps:=[x0]) (us:=us) S hr.hd e0 lv r xx
 have I:Inv (gF P w K mg base N qual st f (.ref cc) A outer s H E0) [] (start N vs) H s1:=
  ⟨⟨I0.ok.mod,I0.ok.kind,I0.ok.glob,I0.ok.blt,I0.ok.above,I0.ok.inj,I0.ok.has,I0.ok.cab,I0.ok.hd,I0.ok.frames,I0.ok.stk,I0.ok.exf,I0.ok.bs,I0.ok.bsz,I0.ok.noex,I0.ok.exfs,I0.ok.funs,I0.ok.frf⟩,
   I0.os,I0.bare,I0.base,I0.loc,I0.cell,I0.free,I0.freeC,I0.pin,I0.hok,I0.len⟩
 have hrd:=hr.deeper (envOfC qual (defScope st) s.heap.objs.size f (.ref cc))
 have rel0:RelS (gF P w K mg base N qual st f (.ref cc) A outer s H E0) H H (start N vs) (nV N [d0]):=
  bb (X:=gF P w K mg base N qual st f (.ref cc) A outer s H E0) h1 (λd hd=>by
   have ed:d=d0:=(by simpa using hd)
   rw[ed]
   exact hl _ _ _ hpf)
 show wpAny (model P w) (A.deeper (envOfC qual (defScope st) s.heap.objs.size f (.ref cc))) (execs (defBody st) (envOfC qual (defScope st) s.heap.objs.size f (.ref cc))) _ _ s1
 rw[hbody]
 refine rz (a:=[st1]) (wpAny_mono (hA (.ref cc) A outer s H E0 hrd d0 dx dy hpf [] s1 _ H { nx:=λσ' H'=>∃ρ,RelS (gF P w K mg base N qual st f (.ref cc) A outer s H E0) H H' σ' ρ∧ρ[jx]?=some (some dx)∧ρ[jy]?=some (some dy),rt:=λ_ _=>False } I
  ⟨rel0,λσ' H' ρ' _ r' z=>⟨ρ',r',z⟩,λv H' d _ hv _ z=>z.elim,λ_ _ _ _ _ z=>z.elim,λ_ _ _ _ _ z=>z.elim⟩) (λfl s2 z=> ?_) λ_ _ z=>z.elim)
 cases fl with
 | ret u=>obtain⟨_,_,_,_,_,z⟩:=z;exact False.elim z
 | brk=>obtain⟨_,_,_,z⟩:=z;exact False.elim z
 | cont=>obtain⟨_,_,_,z⟩:=z;exact False.elim z
 | next=>
  obtain⟨σ2,H2,I2,ρ,r2,ex,ey⟩:=z
  refine wpAny_execs_cons (tH (X:=gF P w K mg base N qual st f (.ref cc) A outer s H E0) (cc:=cc) (Pl:=Pl) (cl:=[(x,cx s.heap.objs.size),(y,cy s.heap.objs.size)]) (qn:=qual ++ ".<locals>." ++ nm) I2 rfl rfl B (htb.same r2.same) S.nd hi hn (hcl _ _ _) rfl (hq _ _ _) λs3 H3 g c' T pm' doc' o' hg0 hgn sx fre tb3 e1 e2 e3 I3=> ?_)
  refine wpAny_execs_cons (wpAny_Return_some (wpAny_mono ((pe_var (X:=gF P w K mg base N qual st f (.ref cc) A outer s H E0) (pos:=np) hi (.inl hn) hdb hcd) [] s3 _ H3 (λv H'=>v=V.ref g∧H'=H3) I3 ⟨.ref g,?_,rfl,rfl⟩) (λu s4 hu=> ?_) λ_ _ z=>z.elim))
  ·have hlen:i<σ2.length:=by rw[I2.len];exact(List.getElem?_eq_some_iff.mp hi).1
   rw[List.getElem?_set,if_pos rfl,if_pos hlen]
  obtain⟨v,H4,I4,rv,ev4,e4⟩:=hu
  rw[e4]at I4
  rw[ev4]at rv
  obtain rfl:u=Value.ref g:=rv
  obtain⟨vX,sx1,isx,_⟩:=r2.val jx dx ex
  obtain⟨vY,sy1,isy,_⟩:=r2.val jy dy ey
  have kx:(σ2.set i (some (V.ref g)))[jx]?=some (some vX):=by rw[List.getElem?_set_ne (Ne.symm ix)];exact sx1
  have ky:(σ2.set i (some (V.ref g)))[jy]?=some (some vY):=by rw[List.getElem?_set_ne (Ne.symm iy)];exact sy1
  obtain⟨m,hns,hloc⟩:=id I4.loc
  obtain⟨uX,rX,lkX⟩:=hloc jx x vX hjx kx (.inr (.inl hx))
  obtain⟨uY,rY,lkY⟩:=hloc jy y vY hjy ky (.inr (.inl hy))
  have cell_of:∀ {z:Str} {c:Addr} {u:Value},(defScope st).names.lookup z=some .cell→(envOfC qual (defScope st) s.heap.objs.size f (.ref cc)).cells.lookup z=some c→Look (envOfC qual (defScope st) s.heap.objs.size f (.ref cc)) s4.heap m z u→s4.heap.IsCell c (some u):=λ{z c u} hz hc lk=>by
   rcases lk with⟨k1,_⟩|⟨_,c1,e1,e2⟩
   ·have k2:(defScope st).names.lookup z=some .local:=k1
    rw[hz]at k2
    cases k2
   ·rw[hc]at e1
    cases e1
    exact e2
  obtain⟨oX,gX,dX⟩:=cell_of hx (hcx _ _ _) lkX
  obtain⟨oY,gY,dY⟩:=cell_of hy (hcy _ _ _) lkY
  have fX:H3 (cx s.heap.objs.size)=none:=I4.freeC x _ (hcx _ _ _)
  have fY:H3 (cy s.heap.objs.size)=none:=I4.freeC y _ (hcy _ _ _)
  have aX:s.heap.objs.size≤cx s.heap.objs.size:=I4.ok.cab x _ rfl (hcx _ _ _)
  have aY:s.heap.objs.size≤cy s.heap.objs.size:=I4.ok.cab y _ rfl (hcy _ _ _)
  have nXY:cx s.heap.objs.size≠cy s.heap.objs.size:=λz=>hxy (I4.ok.inj x y _ (hcx _ _ _) (by rw[z];exact hcy _ _ _))
  generalize cx s.heap.objs.size=cX at *
  generalize cy s.heap.objs.size=cY at *
  obtain⟨H5,hH5⟩:∃H5:Hp,H5=upd (upd H3 cX (ma oX)) cY (ma oY):=⟨_,rfl⟩
  have at1:H5 cY=some (ma oY):=by rw[hH5,upd_same]
  have at2:H5 cX=some (ma oX):=by rw[hH5,upd_ne nXY,upd_same]
  have at3:∀b u,H3 b=some u→H5 b=some u:=λb u e=>by
   rw[hH5,upd_ne (λz=>by rw[z,fY]at e;cases e),upd_ne (λz=>by rw[z,fX]at e;cases e)]
   exact e
  have un:=I4.base
  have un5:Un (frs outer) [] H H5 s.heap s4.heap:=by
   refine⟨un.keep,un.slot,λb o e n hx=> ?_,un.there,λb xs e=>at3 b _ (un.tups b xs e),λb o u e=>at3 b _ (un.frzs b o u e),λb ps e=> ?_⟩
   ·have hb:=Heap.lt_size e
    rw[hH5,upd_ne (Nat.ne_of_lt (Nat.lt_of_lt_of_le hb aY)),upd_ne (Nat.ne_of_lt (Nat.lt_of_lt_of_le hb aX))]
    exact un.free b o e n hx
   ·obtain⟨more,z⟩:=un.tbls b ps e
    exact⟨more,at3 b _ z⟩
  have hok5:HOk P w H5 s4.heap:=λb o e=>by
   by_cases z1:b=cY
   ·subst z1
    rw[at1]at e
    cases e
    exact iK gY
   by_cases z2:b=cX
   ·subst z2
    rw[at2]at e
    cases e
    exact iK gX
   rw[hH5,upd_ne z1,upd_ne z2]at e
   exact(I4.hok b o e).stay (λ_ _ _ z=>z) (λc z=>at3 c _ z) λc xs z=>at3 c _ z
  have s35:Same H3 H5:=at3
  refine⟨.ref g,H5,I4.os,I4.bare,un5,hok5,rfl,q g H5 (((aO.of r2.same).trans sx).trans (.of s35)) (tb3.same s35) ⟨c',T,cX,cY,o',oX,oY,pm',doc',uX,uY,vX,vY,at3 _ _ e1,at3 _ _ e2,e3,nXY,at2,dX,at1,dY,rX,rY,wI (sx.trans (.of s35)) isx,wI (sx.trans (.of s35)) isy⟩⟩
end
def qG(qual:Str)(scope:Scope)(L f:Addr)(cd:Value)(cl:List (Str×Addr)): Env:=
 { scope:=scope,locals:=L,globals:=mainGlobals,cells:=cl,qual:=qual ++ ".<locals>.",func:=some f,code:=cd,frame:=some L,builtins:=builtinsNs }
def cxX(P:Program)(w:World)(K:PySem.W.Frag)(mg:Str→Option Value)(base:Heap)(p x y:Str)(qual:Str)(scope:Scope)(f:Addr)(cd:Value)(cX cY:Addr)(A:Around)(outer:List Env)(s:Shared)(H:Hp): Cx where
 prog:=P
 w:=w
 K:=K
 mg:=mg
 base:=base
 A:=A.deeper (qG qual scope s.heap.objs.size f cd [(x,cX),(y,cY)])
 N:=[p,x,y]
 s₀:=s
 H₀:=H
 env:=qG qual scope s.heap.objs.size f cd [(x,cX),(y,cY)]
 outer:=outer
 stack:=qG qual scope s.heap.objs.size f cd [(x,cX),(y,cY)]::outer
 ex:=[]
 calm:=true
 fn:=λ_=>false
 pn:=[]
 xe:=λ_ _=>False
structure ScX(p x y:Str)(sc:Scope): Prop where
 kind:sc.kind = .function
 co:sc.isCoroutine=false
 gen:sc.isGenerator=false
 ne:x≠y
 par:sc.names.lookup p=some .local
 fx:sc.names.lookup x=some .free
 fy:sc.names.lookup y=some .free
 nocell:∀z∈sc.names,z.2≠.cell
 only:∀z,sc.names.lookup z=some .free→z=x∨z=y
section
variable {P : Program} {w : World} {K : PySem.W.Frag} {mg : Str → Option Value} {base : Heap}
theorem yq{p x y qual:Str}{scope:Scope}{f cX cY:Addr}{cd u uX uY:Value}{v vX vY:V}{oX oY:Obj}{A:Around}{outer:List Env}{s:Shared}{H:Hp}{h':Heap}{t:Nat}(S:ScX p x y scope)(hd:A.handled=none)(e0:Env0 P w K mg base A outer s H)(r:RelV v u)
  (nc:cX≠cY) (gX:s.heap.get? cX=some oX) (dX:oX.data = .cell (some uX)) (gY:s.heap.get? cY=some oY) (dY:oY.data = .cell (some uY)) (fX:H cX=none) (fY:H cY=none) (rX:RelV vX uX) (rY:RelV vY uY)
  (hn:h'.Ns s.heap.objs.size (λy=>[(p,u)].reverse.lookup y)) (hk:∀b o,s.heap.get? b=some o→h'.get? b=some o) :
  Inv (cxX P w K mg base p x y qual scope f cd cX cY A outer s H) [] [some v,some vX,some vY] H { s with heap:=h',toks:=t }:=by
 have noA:∀b:Addr,b∉(cxX P w K mg base p x y qual scope f cd cX cY A outer s H).ex:=λb z=>absurd (show b∈([]:List Addr)from z) (by simp)
 have lx:([(x,cX),(y,cY)]:List (Str×Addr)).lookup x=some cX:=by rw[List.lookup_cons,beq_self_eq_true]
 have ly:([(x,cX),(y,cY)]:List (Str×Addr)).lookup y=some cY:=by
  have:(y==x)=false:=by simpa using Ne.symm S.ne
  rw[List.lookup_cons,this]
  show List.lookup y [(y,cY)]=_
  rw[List.lookup_cons,beq_self_eq_true]
 have lk:∀ {z:Str} {c':Addr},([(x,cX),(y,cY)]:List (Str×Addr)).lookup z=some c'→(z=x∧c'=cX)∨(z=y∧c'=cY):=λ{z c'} h=>by
  rw[List.lookup_cons]at h
  cases hb:z==x with
  | true=>rw[hb]at h;cases h;exact .inl ⟨eq_of_beq hb,rfl⟩
  | false=>
   rw[hb]at h
   have h:List.lookup z [(y,cY)]=some c':=h
   rw[List.lookup_cons]at h
   cases hb2:z==y with
   | true=>rw[hb2]at h;cases h;exact .inr ⟨eq_of_beq hb2,rfl⟩
   | false=>rw[hb2]at h;cases h
 have noc:∀z,scope.names.lookup z=some .cell→False:=λz hz=>S.nocell _ (PySem.mem_of_lookup hz) rfl
 refine⟨⟨e0.mod,S.kind,rfl,rfl,Nat.le_refl _,λy z c' h1 h2=> ?_,λy hy=> ?_,λy c' h=>absurd (show(false:Bool)=true from h) Bool.false_ne_true,λ_=>hd,Around.frames_deeper e0.frames,.inr ⟨rfl,rfl⟩,
   λb z=>absurd z (noA b),e0.bs,e0.bsz,λb _ _=>noA b,λb z=>absurd z (noA b),e0.funs,e0.frf⟩,
  rfl,e0.bare,Un.kept hk,⟨_,hn,λi y v' h1 h2 h3=> ?_⟩,λy c' h=> ?_,e0.hok.fresh (Nat.le_refl _),λy c' h=> ?_,λp hp=>absurd (show p∈([]:List (Addr×Obj))from hp) (by simp),e0.hok.kept hk,rfl⟩
 ·rcases lk h1 with⟨a1,a2⟩|⟨a1,a2⟩<;>rcases lk h2 with⟨b1,b2⟩|⟨b1,b2⟩
  ·rw[a1,b1]
  ·exact absurd (a2.symm.trans b2) nc
  ·exact absurd (b2.symm.trans a2) nc
  ·rw[a1,b1]
 ·have hy:scope.names.lookup y=some .cell∨scope.names.lookup y=some .free:=hy
  rcases hy with hy|hy
  ·exact(noc y hy).elim
  ·rcases S.only y hy with rfl|rfl
   ·exact⟨_,lx⟩
   ·exact⟨_,ly⟩
 ·match i,h1,h2 with
  | 0,h1,h2=>
   cases h1;cases h2
   exact⟨u,r,.inl ⟨S.par,by simp⟩⟩
  | 1,h1,h2=>
   cases h1;cases h2
   exact⟨uX,rX,.inr ⟨.inr S.fx,cX,lx,oX,hk _ _ gX,dX⟩⟩
  | 2,h1,h2=>
   cases h1;cases h2
   exact⟨uY,rY,.inr ⟨.inr S.fy,cY,ly,oY,hk _ _ gY,dY⟩⟩
  | n+3,h1,_=>simp[cxX]at h1
 ·rcases lk h with⟨_,rfl⟩|⟨_,rfl⟩
  ·exact⟨_,oX,hk _ _ gX,dX⟩
  ·exact⟨_,oY,hk _ _ gY,dY⟩
 ·rcases lk h with⟨_,rfl⟩|⟨_,rfl⟩
  ·exact fX
  ·exact fY
end
theorem only2{sc:Scope}{x y:Str}(h:(sc.names.all λz=> !(z.2 == .free) || (z.1==x || z.1==y))=true): ∀z,sc.names.lookup z=some .free→z=x∨z=y:=λz hz=>by
 have h1:=List.all_eq_true.mp h _ (PySem.mem_of_lookup hz)
 simpa using h1
end FM
namespace FM
open PySem PySem.Spec PyProof.Rows L2 FL
section
variable {X : Cx} {Pl : Addr} {dp : Pos} {qn : Str} {e a b : Expr} {ρ : Ro} {d : D} {pos : Pos}
def tG(X:Cx)(Pl:Addr)(dp:Pos)(qn:Str)(ρ:Ro)(d:D): TE:=λσ H Q=>RelE X H σ ρ∧Tb H Pl dp qn∧∀v H',aO H H'→Tb H' Pl dp qn→Is X.K H' v d→Q v H'
def ue(X:Cx)(Pl:Addr)(dp:Pos)(qn:Str)(e:Expr)(ρ:Ro)(d:D): Prop:=PE X e (tG X Pl dp qn ρ d)
theorem evg(h:Ev X e ρ d): ue X Pl dp qn e ρ d:=PE.imp h λσ H Q ⟨r,t,q⟩=>⟨r,λv H' s h=>q v H' (.of s) (t.same s) h⟩
theorem ue.to{d':D}(h:ue X Pl dp qn e ρ d)(z:d=d'): ue X Pl dp qn e ρ d':=z▸h
theorem wA{op:CmpOp}{r:R2}{d1 d2:D}(ho:OpR X (compareOp op) r)(ha:ue X Pl dp qn a ρ d1)(hb:ue X Pl dp qn b ρ d2)(hm:behindInMarks op b=false)
  (hr:∀v1 v2 H Q,Is X.K H v1 d1→Is X.K H v2 d2→(∀v H',Same H H'→Is X.K H' v d→Q v H')→r v1 v2 H Q):ue X Pl dp qn (.Compare a [op] [b] pos) ρ d:=
 PE.imp (pe_cmpR ho ha hb hm) λσ H Q ⟨r,t,q⟩=>⟨r,t,λv1 H1 s1 t1 h1=>⟨tZ r s1,t1,λv2 H2 s2 t2 h2=>hr v1 v2 H2 Q (wI s2 h1) h2 λv H' s3 h3=>q v H' (s1.trans (s2.trans (.of s3))) (t2.same s3) h3⟩⟩
end
def SpT(K:PySem.W.Frag)(Pl:Addr)(Pf:List Int→Prop): Sp:=λvs H Q _=>∃ns:List Int,IsAll K H vs [.ls (ns.map D.int)]∧Pf ns∧H Pl=some (.tbl #[])∧∀H',Q (.bl true) H'
section
variable {P : Program} {w : World} {K : PySem.W.Frag} {mg : Str → Option Value} {base : Heap}
end
def zj(K:PySem.W.Frag): Bool:=K.all λp=>match p.2.cls,p.2.data with
 | .none,.fields _=>false
 | _,_=>true
theorem jT:∀ {K:PySem.W.Frag} {a:Addr} {o:Obj},K.lookup a=some o→(a,o)∈K
 | [],_,_,e=>by cases e
 | (b,x)::r,a,o,e=>by
  rw[List.lookup_cons]at e
  cases hb:a==b with
  | true=>rw[hb]at e;cases e;rw[eq_of_beq hb];exact .head _
  | false=>rw[hb]at e;exact .tail _ (jT e)
theorem walk_tab{l:PySem.W.OpenLaw}{n k:Nat}{q:Program}{loose:List Str}{XP:(Str→Option Value)→Heap→Prop}{YP:World→Heap→Prop}{d:DefRec}{mk:Str}{x:Str}{K:Params→PySem.W.Frag}{Pf:List Int→Prop}
  (hn:l.most=some n) (hn2:n≤sizeLine) (hdf:d.params.defaults=[]) (hr:Room k callerA) (hY:∀(w:World) (h:Heap),YP w h→(K w.params).In h) (hdm:((recsOf q).find? λ(e:DefRec)=>e.name==mk).isSome=true) (hT:∀w:World,zj (K w.params)=true)
  (F:∀(w:World) (mg:Str→Option Value) (fa:Addr) (h:Heap),(K w.params).In h→h.Ns mainGlobals mg→mg d.name=some (.ref fa)→
   ∃(fd fdm:FuncData) (fm:Addr),(∀(s:Shared) (v:Value),BindsTo s fd ⟨[v],[]⟩ [(x,v)])∧mg mk=some (.ref fm)∧(∃o,h.get? fm=some o∧o.data = .func fdm)∧
    ∀(base:Heap) (Pl cc:Addr),(K w.params).In base→base.Ns mainGlobals mg→fdm.code = .ref cc→Tab base mg Pl cc→FnOk l.prog w (K w.params) mg base CX0 k fa fd [x] (SpT (K w.params) Pl Pf))
  (hsp:∀(ns:List Int),ns.length≤n→(∀z∈ns,Builtin.Int.intBits z≤1048576)→Pf ns) :
  PySem.W.WalkO q loose XP YP l.row.toRowW d [] (λf vs=>PySem.call f vs):=by
 intro w s₀ s₁ mg mb G Y fa o pm cd doc dV kV ho hd hcd hD hmg hg args vals as hpre hlay hrd hwl hlo
 obtain rfl:dV = .none:=PySem.W.Dflts.none hD hdf
 obtain rfl:kV = .none:=PySem.W.Dflts.noKw hD
 obtain⟨a,vs,ns,rfl,rfl,hobj,hints,hlen⟩:=Att.script_of hn hpre hwl
 have hbits:=oM hlay
 have KX:=hY w _ Y
 obtain⟨fd,fdm,fm,hbind,hfm,⟨of,hof,dof⟩,hF⟩:=F w mg fa _ KX G.T.g hmg
 obtain⟨d',hd'⟩:=Option.isSome_iff_exists.mp hdm
 have nm':d'.name=mk:=eq_of_beq (List.find?_some (p:=λ(e:DefRec)=>e.name==mk) hd')
 obtain⟨a',oa,fd',c,Pl,t1,t2,t3,t4,t5,t6⟩:=G.T.tab d' (List.mem_of_find?_eq_some hd')
 rw[nm']at t1
 have ea:a'=fm:=by rw[hfm]at t1;cases t1;rfl
 subst ea
 have ef:fd'=fdm:=by
  rw[hof]at t2;cases t2
  rw[dof]at t3;cases t3;rfl
 subst ef
 have hPl:s₁.heap.get? Pl=some (p9 #[]):=t6.2
 have neA:∀ {b:Addr} {o:Obj},s₁.heap.get? b=some o→(∀z n,o.data≠.seq z n)→b≠a:=λ{b o} e h z=>by
  subst z
  rw[hobj]at e;cases e
  exact h _ _ rfl
 have neP:∀ {b:Addr} {o:Obj},s₁.heap.get? b=some o→(∀z,o.data≠.fields z)→b≠Pl:=λ{b o} e h z=>by
  subst z
  rw[hPl]at e;cases e
  exact h _ rfl
 have core:∀H:Hp,Only H→SqL (K w.params) H a (ns.map V.int)→HOk l.prog w H s₁.heap→(∀b,H b≠none→b=a)→(H a≠none→(K w.params).lookup a=none)→
   codeAny (model l.prog w) callerA (.call (.ref fa) ⟨[.ref a],[]⟩) (λr s'=>r = .ok (.ret (.bool true))∧OldK s₁.heap s'.heap∧s'.os=s₁.os∧AllBare s'.gens) s₁:=by
  intro H hO hS hok hA hK
  have noA:∀ {b:Addr},b≠a→H b=none:=λ{b} hb=>by
   cases q:H b with
   | none=>rfl
   | some u=>exact absurd (hA b (by rw[q];simp)) hb
  have hP0:H Pl=none:=noA (neA hPl λz n q=>by cases q)
  have aP:a≠Pl:=λz=>neA hPl (λz n q=>by cases q) z.symm
  obtain⟨HT,hHT⟩:∃HT:Hp,HT=λb=>if b=Pl then some (.tbl #[])else H b:=⟨_,rfl⟩
  have tP:HT Pl=some (.tbl #[]):=by rw[hHT];exact if_pos rfl
  have tN:∀b,b≠Pl→HT b=H b:=λb hb=>by rw[hHT];exact if_neg hb
  have sHT:Same H HT:=λb u e=>by rw[tN b λz=>by rw[z,hP0]at e;cases e];exact e
  have base_of:∀ {b:Addr} {o:Obj},s₁.heap.get? b=some o→H b=none→b≠Pl→(hidT s₁.heap HT).get? b=some o:=λ{b o} e n hb=>hidT_get e (by rw[tN b hb];exact n)
  have of_base:∀ {b:Addr} {o:Obj},(hidT s₁.heap HT).get? b=some o→s₁.heap.get? b=some o∧H b=none∧b≠Pl:=λ{b o} e=>by
   obtain⟨e1,e2⟩:=of_hidT e
   by_cases hb:b=Pl
   ·rw[hb,tP]at e2;cases e2
   ·rw[tN b hb]at e2;exact⟨e1,e2,hb⟩
  have nsK:∀ {b:Addr} {m:Str→Option Value},s₁.heap.Ns b m→(hidT s₁.heap HT).Ns b m:=λ{b m} ⟨o,es,ep,e,dd,r⟩=>
   ⟨o,es,ep,base_of e (noA (neA e λz n q=>by rw[dd]at q;cases q)) (neP e λz q=>by rw[dd]at q;cases q),dd,r⟩
  have hKb:(K w.params).In (hidT s₁.heap HT):=λb o e=>by
   have e1:=KX b o e
   refine base_of e1 ?_ ?_
   ·cases q:H b with
    | none=>rfl
    | some u=>
     have e':b=a:=hA b (by rw[q];simp)
     subst e'
     rw[hK (by rw[q];simp)]at e;cases e
   ·intro z
    subst z
    rw[hPl]at e1
    cases e1
    have h2:=List.all_eq_true.mp (hT w) (b,p9 #[]) (jT e)
    exact absurd (show false=true from h2) Bool.false_ne_true
  have hM:Mod (K w.params) mg (hidT s₁.heap HT):=⟨hKb,nsK G.T.g,⟨mb,nsK G.T.b,G.T.builtins⟩,let ⟨mc,h1,h2⟩:=G.T.nolimit;⟨mc,nsK h1,h2⟩⟩
  have hokT:HOk l.prog w HT s₁.heap:=λb u e=>by
   by_cases hb:b=Pl
   ·subst hb
    rw[tP]at e;cases e
    exact hPl
   ·rw[tN b hb]at e
    exact(hok b u e).stay (λ_ _ _ z=>z) (λc z=>sHT _ _ z) λc xs z=>sHT _ _ z
  have e0:Env0 l.prog w (K w.params) mg (hidT s₁.heap HT) callerA [] s₁ HT:=
   ⟨rfl,hM,λb o e=>⟨(of_base e).1,by rw[tN b (of_base e).2.2];exact(of_base e).2.1⟩,Nat.le_of_eq (hidT_size _ _),trivial,λb hb=>absurd (show b∈([]:List Addr)from hb) (by simp),hokT,.of_eq hg⟩
  have hB:Tab (hidT s₁.heap HT) mg Pl c:=by
   refine⟨λh' ps sub hP' htr=>⟨?_,?_⟩,?_,?_,?_⟩
   ·obtain⟨o,vs,file,tf,flags,tg,inF,text,tt,op,a1,r1,r2,r3,r4,r5,r6,b1,b2,b3,b4⟩:=t5
    exact⟨o,vs,file,tf,flags,tg,inF,text,tt,p9 ps,sub _ _ (base_of a1 (noA (neA a1 λz n q=>by rw[r1]at q;cases q)) b4),r1,r2,r3,r4,r5,r6,hP',rfl,htr,b4⟩
   ·obtain⟨⟨o,vs,e1,e2,e3,e4⟩,_⟩:=t6
    have hne:c≠Pl:=λz=>by
     subst z
     rw[hPl]at e1;cases e1;cases e2
    exact⟨⟨o,vs,sub _ _ (base_of e1 (noA (neA e1 λz n q=>by rw[e3]at q;cases q)) hne),e2,e3,e4⟩,hP'⟩
   ·obtain⟨bm,ob,m1,m2,m3,m4,m5,m6⟩:=G.T.bmain
    have hne:bm≠Pl:=neP m3 λz q=>by rw[m6]at q;cases q
    refine⟨bm,ob,m1,m2,λz=> ?_,hne,base_of m3 (noA (neA m3 λz n q=>by rw[m6]at q;cases q)) hne,m4,m5,m6⟩
    obtain⟨og,es,ep,eg,dg,_⟩:=G.T.g
    subst z
    rw[eg]at m3;cases m3
    rw[dg]at m6;cases m6
   ·obtain⟨og,es,ep,eg,dg,_⟩:=G.T.g
    exact neP eg λz q=>by rw[dg]at q;cases q
   ·cases q:(hidT s₁.heap HT).get? Pl with
    | none=>rfl
    | some o=>exact absurd rfl (of_base q).2.2
  have hrun:=(hF _ Pl c hKb (nsK G.T.g) t4 hB).run callerA [] s₁ HT ⟨[.ref a],[]⟩ [.ref a] [.ref a] (λv _=>v = .bl true) E0 hr e0 (hbind s₁ (.ref a)) (.cons rfl .nil) ⟨ns,.cons (.ls (sHT.seq hS) (IsAll.ints ns)) .nil,hsp ns hlen hbits,tP,λ_=>rfl⟩
  refine codeAny_mono hrun λr s' h=> ?_
  cases r with
  | error e=>exact False.elim h
  | ok fl=>
   cases fl with
   | next=>exact False.elim h
   | brk=>exact False.elim h
   | cont=>exact False.elim h
   | ret u=>
    obtain⟨v,H',os,bare,un,hok',rv,rfl⟩:=h
    obtain rfl:u=Value.bool true:=rv
    have keep:∀b o,b≠Pl→s₁.heap.get? b=some o→s'.heap.get? b=some o:=λb o hb e=>by
     cases q:H b with
     | none=>exact un.keep b o e (by rw[tN b hb];exact q) (by simp[frs]) (by simp)
     | some u=>
      rcases hO b with z|⟨ob,xs,z⟩
      ·rw[q]at z;cases z
      ·have z2:=un.frzs b ob _ (sHT _ _ z)
       obtain⟨e1,_⟩:=hok b _ z
       obtain⟨e2,_⟩:=hok' b _ z2
       rw[e]at e1;cases e1
       exact e2
    obtain⟨more,hmore⟩:=un.tbls Pl _ tP
    have hps:s'.heap.get? Pl=some (p9 (#[]++more)):=hok' Pl _ hmore
    refine⟨rfl,⟨λb o e=> ?_,λb o e=> ?_⟩,os,bare⟩
    ·by_cases hb:b=Pl
     ·subst hb
      rw[hPl]at e;cases e
      exact .inr (.inl ⟨t6.isCodeTable,rfl,#[],#[]++more,rfl,by rw[hps];simp⟩)
     ·exact .inl (keep b o hb e)
    ·by_cases hb:b=Pl
     ·subst hb;exact⟨_,hps⟩
     ·exact⟨o,keep b o hb e⟩
 have rv:=vals_ints hints
 have lenV:=hints.length
 have hc:codeAny (model l.prog w) callerA (.call (.ref fa) ⟨[.ref a],[]⟩) (λr s'=>r = .ok (.ret (.bool true))∧OldK s₁.heap s'.heap∧s'.os=s₁.os∧AllBare s'.gens) s₁:=by
  have hl:=Nat.le_trans hlen hn2
  cases hk:(K w.params).lookup a with
  | some o=>
   have e:=KX a o hk
   rw[hobj]at e
   cases e
   refine core (λ_=>none) (λ_=>.inl rfl) (.inr ⟨_,vs.toArray,_,hk,rfl,rfl,rfl,by rw[List.size_toArray,lenV];exact hl,by simpa using rv⟩) (λb u z=>by have z':(none:Option HO)=some u:=z;cases z') (λb z=>absurd rfl z) λz=>absurd rfl z
  | none=>
   refine core (λb=>if b=a then some (.frz { cls:=.type "list",data:=.seq vs.toArray } (.lst (ns.map V.int)))else none) (λb=> ?_) (.inl (.inr ⟨{ cls:=.type "list",data:=.seq vs.toArray },if_pos rfl⟩)) (λb u z=> ?_) (λb z=> ?_) λ_=>hk
   ·by_cases hb:b=a
    ·exact .inr ⟨_,_,if_pos hb⟩
    ·exact .inl (if_neg hb)
   ·by_cases hb:b=a
    ·have z':=(if_pos hb).symm.trans z
     cases z'
     subst hb
     exact⟨hobj,by rw[List.length_map];exact hl,vs,_,rv,hobj⟩
    ·have z':=(if_neg hb).symm.trans z
     cases z'
   ·by_cases hb:b=a
    ·exact hb
    ·exact absurd (if_neg hb) z
 refine PySem.W.enter_call (codeAny_mono hc λr s' hq=> ?_)
 obtain⟨rfl,h2,h3,h4⟩:=hq
 exact⟨.inl ⟨.bool true,.bool true,[],rfl,λ_=>rfl,.bool true,Att.post_true l _,λ_=>⟨List.Pairwise.nil,λ_ hm=>(nomatch hm)⟩⟩,h2,h3,h4⟩
end FM
namespace MZ
open MP MJ MG
def pl(m n:Int): Bool:=
 if m=4 then decide (n%4=1)else if m=8 then decide (n%8=1∨n%8=7)else if m = -8 then decide (n%8=1∨n%8=3)else decide (n^(m.toNat/2)%m=1)
def yP(D m:Int): Prop:=∃p:Nat,m=(p:Int)∧Pr p∧p≠2∧(p:Int) ∣ D
def Mk2(D m:Int): Prop:=D%4=0∧((m=4∧(-D/4%8=0∨-D/4%8=1∨-D/4%8=4∨-D/4%8=5))∨(m=8∧(-D/4%8=0∨-D/4%8=6))∨(m = -8∧-D/4%8=2))
def Mk(D m:Int): Prop:=yP D m∨Mk2 D m
theorem pr_odd{p:Nat}(h:Pr p)(h2:p≠2): p%2=1:=by
 rcases Nat.mod_two_eq_zero_or_one p with z|z
 ·rcases h.2 2 (Nat.dvd_of_mod_eq_zero z)with q|q
  ·cases q
  ·omega
 ·exact z
theorem pl_pr{p:Nat}(hp:Pr p)(h2:p≠2)(n:Int): pl (p:Int) n=decide (n^(p/2)%(p:Int)=1):=by
 have:=pr_odd hp h2
 unfold pl
 rw[if_neg (by omega),if_neg (by omega),if_neg (by omega),Int.toNat_natCast]
end MZ
namespace MY
open MP MJ MG MZ
structure PdL(n:Nat)(l:List Int): Prop where
 up:l.Pairwise (· < ·)
 mem:∀k,k∈l↔∃p:Nat,k=(p:Int)∧Pr p∧p ∣ n
theorem PdL.pr{n:Nat}{l:List Int}(h:PdL n l){k:Int}(hk:k∈l): ∃p:Nat,k=(p:Int)∧Pr p∧p ∣ n:=(h.mem k).mp hk
theorem PdL.nod{n:Nat}{l:List Int}(h:PdL n l): l.Nodup:=by
 rw[List.nodup_iff_pairwise_ne]
 exact h.up.imp λz=>Int.ne_of_lt z
theorem mT{p q:Nat}(hp:Pr p)(hq:Pr q)(h:q ∣ p): q=p:=by
 rcases hp.2 q h with z|z
 ·have:=hq.1
  omega
 ·exact z
def tpS(a c:Int)(s:Int×Int)(p:Int): Int×Int:=if a%p≠0 then(s.1,s.2*p)else if c%p≠0 then(s.1*p,s.2)else s
def tp(a c:Int)(l:List Int): Int×Int:=l.foldl (tpS a c) (1,1)
def fg:List Int→Int
 | []=>1
 | x::xs=>x*fg xs
theorem lV{a c:Int}: ∀(l:List Int),(∀k∈l,0<k)→∀s:Int×Int,0<s.1→0<s.2→0<(l.foldl (tpS a c) s).1∧0<(l.foldl (tpS a c) s).2∧(l.foldl (tpS a c) s).1*(l.foldl (tpS a c) s).2≤s.1*s.2*fg l
 | [],_,s,h1,h2=>⟨h1,h2,by show s.1*s.2≤s.1*s.2*1;omega⟩
 | k::l,h,s,h1,h2=>by
  have k0:=h k List.mem_cons_self
  have hr:∀k∈l,0<k:=λk hk=>h k (List.mem_cons_of_mem _ hk)
  have pp:∀l:List Int,(∀k∈l,0<k)→0<fg l:=by
   intro l
   induction l with
   | nil=>intro _;decide
   | cons x xs ih=>intro hx;exact Int.mul_pos (hx x List.mem_cons_self) (ih λk hk=>hx k (List.mem_cons_of_mem _ hk))
  have p0:=pp l hr
  rw[List.foldl_cons]
  have s0:=Int.mul_pos h1 h2
  unfold tpS
  split
  ·obtain⟨a1,a2,a3⟩:=lV (a:=a) (c:=c) l hr (s.1,s.2*k) h1 (Int.mul_pos h2 k0)
   refine⟨a1,a2,Int.le_trans a3 (Int.le_of_eq ?_)⟩
   show s.1*(s.2*k)*fg l=s.1*s.2*(k*fg l)
   grind
  ·split
   ·obtain⟨a1,a2,a3⟩:=lV (a:=a) (c:=c) l hr (s.1*k,s.2) (Int.mul_pos h1 k0) h2
    refine⟨a1,a2,Int.le_trans a3 (Int.le_of_eq ?_)⟩
    show s.1*k*s.2*fg l=s.1*s.2*(k*fg l)
    grind
   ·obtain⟨a1,a2,a3⟩:=lV (a:=a) (c:=c) l hr s h1 h2
    refine⟨a1,a2,Int.le_trans a3 ?_⟩
    show s.1*s.2*fg l≤s.1*s.2*(k*fg l)
    refine Int.mul_le_mul_of_nonneg_left ?_ (Int.le_of_lt s0)
    have:=Int.mul_le_mul_of_nonneg_right (show 1≤k by omega) (Int.le_of_lt p0)
    omega
theorem je{n:Nat}: ∀ {l:List Int},l.Nodup→(∀k∈l,∃p:Nat,k=(p:Int)∧Pr p∧p ∣ n)→∃m:Nat,fg l=(m:Int)∧m ∣ n∧∀q:Nat,Pr q→q ∣ m→(q:Int)∈l
 | [],_,_=>⟨1,rfl,Nat.one_dvd n,λq hq h=>by have:=Nat.le_of_dvd Nat.one_pos h;have:=hq.1;omega⟩
 | k::l,nd,h=>by
  obtain⟨p,rfl,hp,hd⟩:=h k List.mem_cons_self
  rw[List.nodup_cons]at nd
  obtain⟨m,e,md,mq⟩:=je nd.2 λk hk=>h k (List.mem_cons_of_mem _ hk)
  refine⟨p*m,by show(p:Int)*fg l=_;rw[e];simp,?_,λq hq z=> ?_⟩
  ·have hnp:¬p ∣ m:=λz=>nd.1 (mq p hp z)
   exact Nat.Coprime.mul_dvd_of_dvd_of_dvd (hp.cop hnp) hd md
  ·rcases hq.mul z with z|z
   ·rw[mT hp hq z]
    exact List.mem_cons_self
   ·exact List.mem_cons_of_mem _ (mq q hq z)
theorem tp_le{n:Nat}{l:List Int}(a c:Int)(hn:0<n)(h:PdL n l): 0<(tp a c l).1∧0<(tp a c l).2∧(tp a c l).1*(tp a c l).2≤(n:Int):=by
 obtain⟨a1,a2,a3⟩:=lV (a:=a) (c:=c) l (λk hk=>by obtain⟨p,rfl,hp,_⟩:=h.pr hk;have:=hp.1;omega) (1,1) (by decide) (by decide)
 refine⟨a1,a2,Int.le_trans a3 ?_⟩
 obtain⟨m,e,md,_⟩:=je h.nod λk hk=>h.pr hk
 rw[e]
 have:=Nat.le_of_dvd hn md
 show(1:Int)*1*(m:Int)≤(n:Int)
 omega
def mk2L(r:Int): List Int:=(if r=1∨r=5∨r=4∨r=0 then [4]else [])++(if r=6∨r=0 then [8]else [])++(if r=2 then [-8]else [])
def zK(D:Int)(l:List Int): List Int:=(l.filter λk=>decide (k≠2))++(if D%4=0 then mk2L (-D/4%8)else [])
theorem wN{r m:Int}: m∈mk2L r↔(m=4∧(r=1∨r=5∨r=4∨r=0))∨(m=8∧(r=6∨r=0))∨(m = -8∧r=2):=by
 unfold mk2L
 rw[List.mem_append,List.mem_append]
 constructor
 ·rintro((h|h)|h)
  ·split at h
   ·exact .inl ⟨by simpa using h,‹_›⟩
   ·cases h
  ·split at h
   ·exact .inr (.inl ⟨by simpa using h,‹_›⟩)
   ·cases h
  ·split at h
   ·exact .inr (.inr ⟨by simpa using h,‹_›⟩)
   ·cases h
 ·rintro(⟨rfl,h⟩|⟨rfl,h⟩|⟨rfl,h⟩)
  ·exact .inl (.inl (by rw[if_pos h];simp))
  ·exact .inl (.inr (by rw[if_pos h];simp))
  ·exact .inr (by rw[if_pos h];simp)
theorem x8{D:Int}{n:Nat}{l:List Int}(hn:(n:Int) = -D)(h:PdL n l){m:Int}(hm:m∈zK D l): Mk D m:=by
 unfold zK at hm
 rcases List.mem_append.mp hm with z|z
 ·obtain⟨z1,z2⟩:=List.mem_filter.mp z
  obtain⟨p,rfl,hp,hd⟩:=h.pr z1
  refine .inl ⟨p,rfl,hp,λe=>by simp[e]at z2,?_⟩
  have:(p:Int) ∣ (n:Int):=Int.natCast_dvd_natCast.mpr hd
  rw[hn]at this
  exact Int.dvd_neg.mp this
 ·split at z
  ·refine .inr ⟨‹_›,?_⟩
   rcases wN.mp z with⟨e,q⟩|⟨e,q⟩|⟨e,q⟩
   ·exact .inl ⟨e,by omega⟩
   ·exact .inr (.inl ⟨e,by omega⟩)
   ·exact .inr (.inr ⟨e,by omega⟩)
  ·cases z
def gn:List Bool→Nat
 | []=>0
 | b::r=>2*gn r+b.toNat
theorem tp_pre{n:Nat}{l:List Int}(a c:Int)(hn:0<n)(nd:l.Nodup)(h:∀k∈l,∃p:Nat,k=(p:Int)∧Pr p∧p ∣ n): 0<(tp a c l).1∧0<(tp a c l).2∧(tp a c l).1≤(n:Int)∧(tp a c l).2≤(n:Int)∧(tp a c l).1+(tp a c l).2≤(n:Int)+1:=by
 obtain⟨a1,a2,a3⟩:=lV (a:=a) (c:=c) l (λk hk=>by obtain⟨p,rfl,hp,_⟩:=h k hk;have:=hp.1;omega) (1,1) (by decide) (by decide)
 obtain⟨m,e,md,_⟩:=je nd h
 rw[e]at a3
 have:=Nat.le_of_dvd hn md
 change 0<(tp a c l).1 at a1
 change 0<(tp a c l).2 at a2
 change (tp a c l).1*(tp a c l).2≤1*1*(m:Int)at a3
 generalize (tp a c l).1=x at *
 generalize (tp a c l).2=y at *
 have e1:x*1≤x*y:=Int.mul_le_mul_of_nonneg_left (by omega) (by omega)
 have e2:1*y≤x*y:=Int.mul_le_mul_of_nonneg_right (by omega) (by omega)
 have e3:0≤(x-1)*(y-1):=Int.mul_nonneg (by omega) (by omega)
 have e4:(x-1)*(y-1)=x*y-x-y+1:=by grind
 exact⟨a1,a2,by omega,by omega,by omega⟩
theorem jU:∀ {l:List Int},(∀k∈l,2≤k)→(2:Int)^l.length≤fg l
 | [],_=>by decide
 | k::l,h=>by
  have k2:=h k List.mem_cons_self
  have ih:=jU λk hk=>h k (List.mem_cons_of_mem _ hk)
  have p0:(0:Int)<2^l.length:=Int.pow_pos (by decide)
  show(2:Int)^(l.length+1)≤k*fg l
  rw[Int.pow_succ,Int.mul_comm]
  exact Int.mul_le_mul k2 ih (by omega) (by omega)
theorem PdL.len{n:Nat}{l:List Int}(h:PdL n l)(hn:0<n): 2^l.length≤n:=by
 have h1:=jU (l:=l) λk hk=>by obtain⟨p,rfl,hp,_⟩:=h.pr hk;have:=hp.1;omega
 obtain⟨m,e,md,_⟩:=je h.nod λk hk=>h.pr hk
 rw[e]at h1
 have:m≤n:=Nat.le_of_dvd hn md
 have h2:((2^l.length:Nat):Int)≤(m:Int):=by push_cast;exact h1
 omega
theorem mk2_len(r:Int): (mk2L r).length≤2:=by
 unfold mk2L
 rw[List.length_append,List.length_append]
 by_cases h1:r=1∨r=5∨r=4∨r=0
 ·by_cases h2:r=2
  ·omega
  ·rw[if_pos h1,if_neg h2]
   split<;>simp
 ·rw[if_neg h1]
  split<;>split<;>simp
theorem gn_lt:∀bs:List Bool,gn bs<2^bs.length
 | []=>by decide
 | b::r=>by
  have:=gn_lt r
  simp only[gn,List.length_cons,Nat.pow_succ]
  cases b<;>simp<;>omega
end MY
namespace CM
open PySem PySem.Spec L2 FL FT FU MG MP MZ MY
theorem xI{p:Nat}(hp:Pr p): ∀n:Nat,0<n→p ∣ n→p∈MD.PF n:=by
 intro n
 induction n using Nat.strongRecOn with
 | _ n ih=>
  intro n0 hd
  have n2:¬n<2:=λz=>by
   have:=Nat.le_of_dvd n0 hd
   have:=hp.1
   omega
  have e:MD.PF n=MD.mf n::MD.PF (n/MD.mf n):=by rw[MD.PF];exact dif_neg n2
  have s:=MD.mf_spec (show 2≤n by omega)
  have em:n/MD.mf n*MD.mf n=n:=Nat.div_mul_cancel s.2.1
  rw[e]
  have hd':p ∣ n/MD.mf n*MD.mf n:=by rw[em];exact hd
  rcases hp.mul hd' with z|z
  ·exact List.mem_cons_of_mem _ (ih _ (MD.mf_lt n2) (Nat.div_pos (Nat.le_of_dvd n0 s.2.1) (by omega)) z)
  ·rw[mT (MD.mf_pr (by omega)) hp z]
   exact List.mem_cons_self
theorem rE{n:Nat}(n0:0<n): PdL n (PD n):=⟨xo n,λk=>by
 rw[ul,List.mem_map]
 constructor
 ·rintro⟨p,hp,rfl⟩
  obtain⟨a,b⟩:=um p hp
  exact⟨p,rfl,a,b⟩
 ·rintro⟨p,rfl,hp,hd⟩
  exact⟨p,xI hp n n0 hd,rfl⟩⟩
structure BarM(i:Int): Prop where
 neg:i<0
 four:i%4=0∨i%4=1
 low:-1000000≤i
noncomputable def xC(i:Int): List Int:=zK i (PD (-i).toNat)
theorem vg{i m:Int}(h:BarM i)(hm:m∈xC i): Mk i m:=x8 (n:=(-i).toNat) (by have:=h.neg;omega) (rE (by have:=h.neg;omega)) hm
theorem uk{n:Nat}(n0:0<n)(h:n≤4000000): (PD n).length<22:=Nat.not_le.mp λz=>by
 have h1:=(rE n0).len n0
 have h2:=Nat.pow_le_pow_right (show 0<2 by decide) z
 omega
theorem rZ{i:Int}(h:BarM i): (xC i).length≤23:=by
 have h1:=h.neg
 have h2:=h.low
 have l1:=uk (n:=(-i).toNat) (by omega) (by omega)
 have l2:((PD (-i).toNat).filter λk=>decide (k≠2)).length≤(PD (-i).toNat).length:=List.length_filter_le _ _
 unfold xC zK
 rw[List.length_append]
 split
 ·have:=mk2_len (-i/4%8)
  omega
 ·simp only[List.length_nil]
  omega
noncomputable def qj(a b c:Int): Int×Int:=tp a c (PD (-2*(b*b-4*a*c)).toNat)
noncomputable def vv(a b c:Int): Int:=MJ.W a b c (qj a b c).1 (qj a b c).2
noncomputable def mi(a b c:Int): List Bool:=(xC (b*b-4*a*c)).map λm=> !pl m (vv a b c)
structure FormG(a b c:Int): Prop where
 n:FormN a b c
 low:-1000000≤b*b-4*a*c
theorem ut(a b c:Int): (b*b-4*a*c)%4=0∨(b*b-4*a*c)%4=1:=by
 have e:=Int.mul_emod b b 4
 have e2:(b*b-4*a*c)%4=(b*b)%4:=by
  have:b*b-4*a*c=b*b+4*(-(a*c)):=by grind
  rw[this,Int.add_mul_emod_self_left]
 rw[e2]
 rcases(show b%4=0∨b%4=1∨b%4=2∨b%4=3 by omega)with h|h|h|h<;>rw[h]at e<;>omega
theorem FormG.bm{a b c:Int}(h:FormG a b c): BarM (b*b-4*a*c):=⟨h.n.bar,ut a b c,h.low⟩
theorem FormG.two{a b c:Int}(h:FormG a b c): 0<(-2*(b*b-4*a*c)).toNat∧(-2*(b*b-4*a*c)).toNat≤2000000∧(((-2*(b*b-4*a*c)).toNat:Nat):Int) = -2*(b*b-4*a*c):=by
 have h1:=h.n.bar
 have h2:=h.low
 generalize b*b-4*a*c=i at *
 exact⟨by omega,by omega,by omega⟩
theorem FormG.tp{a b c:Int}(h:FormG a b c): 0<(qj a b c).1∧0<(qj a b c).2∧(qj a b c).1≤2000000∧(qj a b c).2≤2000000∧(qj a b c).1+(qj a b c).2≤2000001:=by
 obtain⟨t0,t1,t2⟩:=h.two
 have p:=rE t0
 obtain⟨a1,a2,a3,a4,a5⟩:=tp_pre a c t0 p.nod λk hk=>p.pr hk
 exact⟨a1,a2,by unfold qj;omega,by unfold qj;omega,by unfold qj;omega⟩
theorem x9(a b c:Int): (mi a b c).length=(xC (b*b-4*a*c)).length:=by unfold mi;rw[List.length_map]
theorem yF{r:Int}{ns:List Int}: tK (.int r) (ns.map D.int)=decide (r∈ns):=by
 cases q:tK (.int r) (ns.map D.int)with
 | true=>
  have:=kF.mp q
  obtain⟨k,hk,e⟩:=List.mem_map.mp this
  cases e
  exact(decide_eq_true hk).symm
 | false=>
  refine(decide_eq_false λz=> ?_).symm
  have:tK (.int r) (ns.map D.int)=true:=kF.mpr (List.mem_map.mpr ⟨r,z,rfl⟩)
  rw[q]at this
  cases this
theorem rJ(ns:List Int)(r:Int): ∀z∈ns.map D.int,Cm 0 z (.int r):=λz hz=>by
 obtain⟨k,_,rfl⟩:=List.mem_map.mp hz
 exact .int _ _
def yG(b:Bool): D:=.int (if b then -1 else 1)
theorem y9(l:List Bool): ∀d∈l.map yG,Fz d:=λd hd=>by
 obtain⟨k,_,rfl⟩:=List.mem_map.mp hd
 exact .int _
def vq(ds es:List D): Prop:=∃q:Int,ds=[.int q]∧es=(mk2L (q%8)).map D.int
def sj(ds es:List D): Prop:=∃i:Int,ds=[.int i]∧BarM i∧es=(xC i).map D.int
def vr(ds:List D)(d:D): Prop:=∃i m n:Int,ds=[.int m,.int n]∧BarM i∧Mk i m∧d = .bl (pl m n)
def vt(ds:List D)(d:D): Prop:=∃a b c:Int,ds=[ar a b c]∧FormG a b c∧d = .tup [.int (qj a b c).1,.int (qj a b c).2]
def su(ds es:List D): Prop:=∃a b c:Int,ds=[ar a b c]∧FormG a b c∧es=(mi a b c).map yG
def si(ds:List D)(d:D): Prop:=∃a b c:Int,ds=[ar a b c]∧FormG a b c∧Int.gcd (Int.gcd a b) c=1∧d = .int ((gn (mi a b c):Nat):Int)
theorem zh{i m:Int}(h:BarM i)(hm:Mk i m)(h4:m≠4)(h8:m≠8)(h9:m≠-8): ∃p:Nat,m=(p:Int)∧Pr p∧p≠2∧p≤1000000:=by
 rcases hm with⟨p,rfl,hp,p2,hd⟩|⟨_,z⟩
 ·refine⟨p,rfl,hp,p2,?_⟩
  have h1:=h.neg
  have h2:=h.low
  have:=Int.le_of_dvd (by omega) (Int.dvd_neg.mpr hd)
  omega
 ·rcases z with⟨e,_⟩|⟨e,_⟩|⟨e,_⟩
  ·exact absurd e h4
  ·exact absurd e h8
  ·exact absurd e h9
def PfT(ns:List Int): Prop:=ns.length≤63∧xq ns
theorem law_st(ns:List Int)(hl:ns.length≤63)(hb:∀z∈ns,Builtin.Int.intBits z≤1048576): PfT ns:=by
 obtain⟨ms,e,h1,h2,_⟩:=x6 ns hl hb
 have e':ns=ms:=List.map_inj_right (λx y h=>D.int.inj h) |>.mp (by simpa using e)
 exact⟨hl,e'▸h2⟩
abbrev jR(st:Stmt)(i:Nat): Stmt:=(defBody st).getD i (.Pass ⟨0,0,0,0⟩)
def yi(d0 dx dy:D): Prop:=∃a b c:Int,d0=ar a b c∧dx = .int ((gn (mi a b c):Nat):Int)∧dy=ar a b c∧FormG a b c∧Int.gcd (Int.gcd a b) c=1
abbrev jW:Str:="same_genus" ++ ".<locals>." ++ "is_same"
def FnM(P:Program)(w:World)(K:PySem.W.Frag)(mg:Str→Option Value)(base:Heap)(k:Nat)(x:Str)(Pl:Addr)(dp:Pos)(st:Stmt): Prop:=
 ∃f fd ppos,FnOk P w K mg base CX0 k f fd ["form"] (FM.SpM K Pl dp "is_same" jW ⟨[],[⟨"other",none,ppos⟩],none,[],[],none,[]⟩ (defBody (jR st 1)) (defScope (jR st 1)) "genus" "form" yi)∧mg x=some (.ref f)∧PySem.W.keepIn K (.ref f)=true∧Binds K fd ["form"] []
def Aa:Stmt→Expr
 | .Return (some e) _=>e
 | _=>.Constant .none 0 ⟨0,0,0,0⟩
def Ab:Stmt→Pos
 | .Return _ p=>p
 | _=>⟨0,0,0,0⟩
end CM
namespace MG
section
variable {G : Type} [AbG G]
open AbG
end
end MG
namespace MZ
open MP MJ MG
end MZ
namespace MZ
open MP MJ MG
end MZ
namespace MZ
end MZ
namespace MZ
open MP MJ MG
end MZ
namespace CM
open PySem PySem.Spec L2 FL FT FU MG MP MZ MY
end CM
namespace FL
open PySem PySem.Spec PyProof.Rows L2
section
variable {X : Cx} {a b : Expr} {ρ : Ro} {pos p1 p2 : Pos} {i : Int} {x y : Str} {d1 d2 d : D}
end
end FL
namespace FL
open PySem PySem.Spec PyProof.Rows L2
structure FunD(K:PySem.W.Frag)(x qual:Str)(st:Stmt)(f:Addr)(fd:FuncData)(dv:Value): Prop where
 ex:∃(oc:Value) (od:Option Addr) (dA:Addr) (kV doc pm:Value) (an:Option Addr) (cdv ct:Value) (osl:Array (Option Value)),
  fd=PySem.W.fnOf x qual (defArgs st) (defBody st) (defScope st) (.ref dA) kV doc pm an cdv ct∧K.lookup f=some ⟨oc,od,.func fd,osl⟩∧PySem.W.codeIn K cdv qual=true
 kp:PySem.W.keepIn K (.ref f)=true
section
variable {P : Program} {w : World} {K : PySem.W.Frag} {mg : Str → Option Value} {base : Heap}
end
section
variable {X : Cx} {e : Expr} {es : List Expr} {ρ : Ro} {ds fs : List D} {pos p : Pos}
end
end FL
namespace CM
open PySem PySem.Spec L2 FL FT FU MG MP MZ MY
end CM
namespace FL
open PySem PySem.Spec PyProof.Rows L2
set_option maxRecDepth 100000
section
variable {prog : Program} {w : World} {A : Around} {E : Value → Shared → Prop} {s : Shared} {I l : Addr} {items : Array Value}
end
section
variable {X : Cx} {a b : Expr} {ρ : Ro} {p1 p2 p3 p4 : Pos} {x : Str} {xs : List Str} {d : D}
end
end FL
namespace FL
open PySem PySem.Spec PyProof.Rows L2
section
variable {X : Cx} {a : Expr} {ρ : Ro} {p1 pos : Pos} {x : Str} {i : Int}
end
end FL
namespace CM
open PySem PySem.Spec L2 FL FT FU MG
end CM
namespace FL
open PySem PySem.Spec PyProof.Rows L2
section
variable {X : Cx} {e a b c : Expr} {es : List Expr} {ρ : Ro} {d d' : D} {ds gs : List D} {pos : Pos} {i j : Int} {k : Bool} {rest : List Stmt} {P : Po}
end
section
variable {P : Program} {w : World} {K : PySem.W.Frag} {mg : Str → Option Value} {base : Heap}
end
end FL
namespace FL
open PySem PySem.Spec PyProof.Rows L2
section
variable {P : Program} {w : World} {H : Hp} {h : Heap} {a C dx : Addr} {fs : List (Str × V)} {o : Obj}
end
section
variable {X : Cx} {e a b c o : Expr} {es : List Expr} {ρ : Ro} {d : D} {ds : List D} {pos apos : Pos} {C : Addr}
end
section
variable {X : Cx} {pins : List (Addr × Obj)} {σ : L2.St} {H : Hp} {s : Shared}
abbrev Cx.from(X:Cx)(H:Hp): Cx:={ X with H₀:=H }
theorem Inv.from(I:L2.Inv X pins σ H s)(hk:∀b,H b=none→X.H₀ b=none): L2.Inv (Cx.from X H) pins σ H s where
 ok:=⟨I.ok.mod,I.ok.kind,I.ok.glob,I.ok.blt,I.ok.above,I.ok.inj,I.ok.has,I.ok.cab,I.ok.hd,I.ok.frames,I.ok.stk,I.ok.exf,λb o e=>⟨(I.ok.bs b o e).1,(I.bs b o e).2⟩,I.ok.bsz,I.ok.noex,I.ok.exfs,I.ok.funs,λb hb=>by
  obtain⟨_,o,ho,_⟩:=I.ok.funs.mem hb
  exact I.base.free b o ho (I.ok.frf b hb) λz=>I.ok.exfs b z hb⟩
 os:=I.os
 bare:=I.bare
 base:=⟨λb o e n=>I.base.keep b o e (hk b n),λb o e n=>I.base.slot b o e (hk b n),λb o e n _=>n,I.base.there,λ_ _ h=>h,λ_ _ _ h=>h,λb ps h=>⟨#[],by have h':H b=some (.tbl ps):=h;rw[h'];simp⟩⟩
 loc:=I.loc
 cell:=I.cell
 free:=I.free
 freeC:=I.freeC
 pin:=I.pin
 hok:=I.hok
 len:=I.len
theorem Inv.back{pins':List (Addr×Obj)}{σ':L2.St}{H':Hp}{s':Shared}(I:L2.Inv X pins σ H s)(J:L2.Inv (Cx.from X H) pins' σ' H' s'): L2.Inv X pins' σ' H' s' where
 ok:=I.ok
 os:=J.os
 bare:=J.bare
 base:=⟨λb o e n h1 h2=>J.base.keep b o e (I.base.free b o e n h2) h1 h2,λb o e n h1 h2=>J.base.slot b o e (I.base.free b o e n h2) h1 h2,λb o e n h2=>J.base.free b o e (I.base.free b o e n h2) h2,J.base.there,λb xs h=>J.base.tups b xs (I.base.tups b xs h),λb o u h=>J.base.frzs b o u (I.base.frzs b o u h),λb ps h=>by
  obtain⟨m1,h1⟩:=I.base.tbls b ps h
  obtain⟨m2,h2⟩:=J.base.tbls b _ h1
  exact⟨m1++m2,by rw[h2,Array.append_assoc]⟩⟩
 loc:=J.loc
 cell:=J.cell
 free:=J.free
 freeC:=J.freeC
 pin:=J.pin
 hok:=J.hok
 len:=J.len
end
section
variable {P : Program} {w : World} {K : PySem.W.Frag} {mg : Str → Option Value} {base : Heap}
end
section
variable {X : Cx} {a : Expr} {ρ : Ro} {ds : List D} {pos : Pos} {C C' : Addr} {k : Bool}
end
end FL
namespace CM
open PySem PySem.Spec L2 FL FT FU MG
section
variable {X : Cx} {o : Expr} {ρ : Ro} {pos apos : Pos} {C0 C1 C2 C : Addr} {fs : List D} {t : Str}
end
section
variable {K : PySem.W.Frag} {C C' : Addr}
theorem uz(o:PySem.W.mroIn K C' (.type "object")=some true): (PySem.W.clsIn K C').isSome=true:=by
 unfold PySem.W.mroIn at o
 cases q:PySem.W.clsIn K C' with
 | none=>rw[q]at o;cases o
 | some _=>rfl
theorem rS(o:PySem.W.mroIn K C' (.type "object")=some true)(t:PySem.W.typeIn K (.ref C')=some (.type "type")): PySem.W.kitCls K (.ref C) (.ref C')=PySem.W.mroIn K C (.ref C'):=by
 show(if ((PySem.W.clsIn K C').isSome&&PySem.W.typeIn K (.ref C')==some (.type "type"))=true then PySem.W.subIn K (.ref C) (.ref C')else none)=_
 rw[uz o,t,if_pos (by decide)]
 rfl
theorem gf(h:PySem.W.mroIn K C (.ref C')=some true)(o:PySem.W.mroIn K C' (.type "object")=some true)(t:PySem.W.typeIn K (.ref C')=some (.type "type")): PySem.W.kitOne K (.ref C) (.ref C')=some true:=by
 unfold PySem.W.kitOne
 split
 ·rfl
 ·rw[rS o t];exact h
theorem aT(s:PySem.W.mroIn K C (.ref C)=some true)(h:PySem.W.mroIn K C (.ref C')=some false)(o:PySem.W.mroIn K C' (.type "object")=some true)(t:PySem.W.typeIn K (.ref C')=some (.type "type")): PySem.W.kitOne K (.ref C) (.ref C')=some false:=by
 unfold PySem.W.kitOne
 split
 ·rename_i z
  have e:Value.ref C=Value.ref C':=eq_of_beq z
  cases e
  rw[s]at h
  cases h
 ·rw[rS o t];exact h
end
end CM
namespace XR
open PySem PySem.Spec PyProof.Rows L2 FL
open Classical in
noncomputable def li(h:Heap)(p:Addr→Prop): Heap:={ h with objs:=h.objs.mapIdx λi o=>if p i then { o with data:=.freed } else o }
theorem rW{h:Heap}{p:Addr→Prop}{a:Addr}(n:¬p a): (li h p).get? a=h.get? a:=by
 unfold Heap.get? li
 simp only[Array.getElem?_mapIdx]
 cases q:h.objs[a]? with
 | none=>rfl
 | some o=>simp only[Option.map_some,if_neg n]
theorem pk{h:Heap}{p:Addr→Prop}{a:Addr}(n:p a): (li h p).get? a=none:=by
 unfold Heap.get? li
 simp only[Array.getElem?_mapIdx]
 cases q:h.objs[a]? with
 | none=>rfl
 | some o=>simp only[Option.map_some,if_pos n]
theorem qV{h:Heap}{p:Addr→Prop}: Heap.StaysIn (li h p) h:=λb o e=>by
 by_cases n:p b
 ·rw[pk n]at e;cases e
 ·rw[rW n]at e;exact e
structure Flown(P:Program)(w:World)(base:Heap)(l:List Env)(H:Hp)(s:Shared)(C:Addr)(H':Hp)(e:Addr)(s':Shared): Prop where
 os:s'.os=s.os
 bare:AllBare s'.gens
 un:Un (frs l) [] H H' s.heap s'.heap
 ex:∃(B:Heap) (a0:Value),Heap.StaysIn base B∧HOk P w H' B∧(∀b o,s.heap.get? b=some o→H b=none→b∉frs l→B.get? b=some o)∧(∀b o,s.heap.get? b=some o→b∉frs l→∃o',B.get? b=some o')∧Heap.FlyingW B l e (.ref C) a0 s'.heap
def qk(P:Program)(w:World)(base:Heap): CXT:=λl H s E ev s'=>∃C H' e,ev = .ref e∧Flown P w base l H s C H' e s'∧E (.ref C) none H'
theorem gK{h base B:Heap}: ∀ {l:List Env},h.FunFrames base l→(∀b∈frs l,B.get? b=none)→h.FunFrames B l
 | [],_,_=>trivial
 | env::rest,f,hb=>by
  obtain⟨k,⟨L,o,e1,e2,e3,e4⟩,r⟩:=(show env.scope.kind≠.module∧(∃L o,env.frame=some L∧base.get? L=none∧h.get? L=some o∧∀vs,o.data≠.fields vs)∧h.FunFrames base rest from f)
  have m:L∈frs (env::rest):=List.mem_filterMap.mpr ⟨env,List.mem_cons_self,e1⟩
  refine(show env.scope.kind≠.module∧(∃L o,env.frame=some L∧B.get? L=none∧h.get? L=some o∧∀vs,o.data≠.fields vs)∧h.FunFrames B rest from⟨k,⟨L,o,e1,hb L m,e3,e4⟩,gK r λb hb'=>hb b ?_⟩)
  obtain⟨z,z1,z2⟩:=List.mem_filterMap.mp hb'
  exact List.mem_filterMap.mpr ⟨z,List.mem_cons_of_mem _ z1,z2⟩
section
variable {X : Cx} {pins : List (Addr × Obj)} {σ : L2.St} {H : Hp} {s : Shared} {E : Value → Shared → Prop} {Q : Unit → Shared → Prop}
theorem kG(I:L2.Inv X pins σ H s)(hst:X.stack=X.env::X.outer)(hf:X.env.frame=some X.env.locals){b:Addr}{o:Obj}(e:X.s₀.heap.get? b=some o)(n:b∉X.fs): b∉frs X.stack:=by
 rw[hst]
 intro z
 obtain⟨z,z1,z2⟩:=List.mem_filterMap.mp z
 rcases List.mem_cons.mp z1 with rfl|z1
 ·rw[hf]at z2
  cases z2
  exact absurd (Nat.lt_of_lt_of_le (Heap.lt_size e) I.ok.above) (Nat.lt_irrefl _)
 ·exact n (List.mem_filterMap.mpr ⟨z,z1,z2⟩)
theorem qT{C e:Addr}{h':Heap}{vs:List Value}(I:L2.Inv X pins σ H s)(hst:X.stack=X.env::X.outer)(hf:X.env.frame=some X.env.locals)(hex:X.ex=[])(m:Heap.MadeExcOf s.heap h' e (.ref C) vs)
  (q:∀s'',Flown X.prog X.w X.base X.outer X.H₀ X.s₀ C H e s''→Q () s''):wpAny (model X.prog X.w) X.A (leaving X.env (.ref e)) Q E { s with heap:=h' }:=by
 have nex:∀b:Addr,b∉X.ex:=λb z=>by rw[hex]at z;cases z
 have fr:X.A.frames=some (X.env::X.outer):=by rw[← hst];exact I.ok.frames
 have ff:s.heap.FunFrames X.base (X.env::X.outer):=by rw[← hst];exact I.stack
 have inB:∀ {b:Addr},b∉frs X.stack→(li s.heap (·∈frs X.stack)).get? b=s.heap.get? b:=λn=>rW n
 refine wpAny_leaves_madeW (base:=li s.heap (·∈frs X.stack)) (h:=s.heap) fr hf qV (gK ff λb hb=>pk (p:=(·∈frs X.stack)) (by show b∈frs X.stack;rw[hst];exact hb)) m λh2 t fl _ _ up=>q _ ?_
 have hokB:HOk X.prog X.w H (li s.heap (·∈frs X.stack)):=λa o e=>(I.hok a o e).stay (λb u hb z=>by
  refine(inB λy=> ?_).trans z
  have:=I.stkFree b y
  rcases hb with rfl|hb
  ·rw[e]at this;cases this
  ·rw[hb]at this;cases this) (λ_ z=>z) (λ_ _ z=>z)
 have keepB:∀b o,X.s₀.heap.get? b=some o→X.H₀ b=none→b∉frs X.outer→(li s.heap (·∈frs X.stack)).get? b=some o:=λb o e n nf=>by
  rw[inB (kG I hst hf e nf)]
  exact I.base.keep b o e n nf (nex b)
 have slot:∀b o,X.s₀.heap.get? b=some o→X.H₀ b=none→b∈frs X.outer→∃sl,h2.get? b=some { o with slots:=sl }:=λb o e n hb=>by
  obtain⟨sl,e1⟩:=I.base.slot b o e n hb (nex b)
  obtain⟨_,o',e2,nd⟩:=I.ok.funs.mem hb
  rw[e]at e2
  cases e2
  obtain⟨sl2,e3⟩:=up b _ (m.keeps b _ e1) nd
  exact⟨sl2,e3⟩
 have there:∀b o,X.s₀.heap.get? b=some o→b∉frs X.outer→∃o',(li s.heap (·∈frs X.stack)).get? b=some o':=λb o e nf=>by
  obtain⟨o',z⟩:=I.base.there b o e (nex b)
  exact⟨o',by rw[inB (kG I hst hf e nf)];exact z⟩
 refine⟨I.os,I.bare,⟨λb o e n nf _=>fl.1 b o (keepB b o e n nf),λb o e n hb _=>slot b o e n hb,λb o e n _=>I.base.free b o e n (nex b),λb o e _=> ?_,I.base.tups,I.base.frzs,I.base.tbls⟩,li s.heap (·∈frs X.stack),.ref t,λb o e=> ?_,hokB,keepB,there,fl⟩
 ·by_cases hb:b∈frs X.outer
  ·obtain⟨sl,z⟩:=slot b o e (I.ok.frf b hb) hb
   exact⟨_,z⟩
  ·obtain⟨o',z⟩:=there b o e hb
   exact⟨o',fl.1 b o' z⟩
 ·have z:=I.bk b o e
  rw[inB]
  ·exact z
  ·intro y
   have:=(I.stack.mem y).1
   rw[e]at this
   cases this
theorem mH{C e:Addr}{H':Hp}{s':Shared}{B h2:Heap}{a0:Value}(I:L2.Inv X pins σ H s)(hst:X.stack=X.env::X.outer)(hf:X.env.frame=some X.env.locals)(hex:X.ex=[])(os:s'.os=s.os)(bare:AllBare s'.gens)
  (un:Un (frs X.stack) [] H H' s.heap s'.heap) (b1:Heap.StaysIn X.base B) (b2:HOk X.prog X.w H' B) (b3:∀b o,s.heap.get? b=some o→H b=none→b∉frs X.stack→B.get? b=some o) (b4:∀b o,s.heap.get? b=some o→b∉frs X.stack→∃o',B.get? b=some o')
  (fl2:Heap.FlyingW B X.outer e (.ref C) a0 h2) (up:s'.heap.UpToSlots h2):Flown X.prog X.w X.base X.outer X.H₀ X.s₀ C H' e { s' with heap:=h2 }:=by
 have nex:∀b:Addr,b∉X.ex:=λb z=>by rw[hex]at z;cases z
 have n0:∀b:Addr,b∉([]:List Addr):=λb z=>by cases z
 have keepB:∀b o,X.s₀.heap.get? b=some o→X.H₀ b=none→b∉frs X.outer→B.get? b=some o:=λb o e n nf=>
  b3 b o (I.base.keep b o e n nf (nex b)) (I.base.free b o e n (nex b)) (kG I hst hf e nf)
 have sub:∀b∈frs X.outer,b∈frs X.stack:=λb hb=>by
  rw[hst]
  obtain⟨z,z1,z2⟩:=List.mem_filterMap.mp hb
  exact List.mem_filterMap.mpr ⟨z,List.mem_cons_of_mem _ z1,z2⟩
 have slot:∀b o,X.s₀.heap.get? b=some o→X.H₀ b=none→b∈frs X.outer→∃sl,h2.get? b=some { o with slots:=sl }:=λb o e n hb=>by
  obtain⟨sl,e1⟩:=I.base.slot b o e n hb (nex b)
  obtain⟨_,o',e2,nd⟩:=I.ok.funs.mem hb
  rw[e]at e2
  cases e2
  obtain⟨sl1,e3⟩:=un.slot b _ e1 (I.base.free b o e n (nex b)) (sub b hb) (n0 b)
  obtain⟨sl2,e4⟩:=up b _ e3 nd
  exact⟨sl2,e4⟩
 have there:∀b o,X.s₀.heap.get? b=some o→b∉frs X.outer→∃o',B.get? b=some o':=λb o e nf=>by
  obtain⟨o',z⟩:=I.base.there b o e (nex b)
  exact b4 b o' z (kG I hst hf e nf)
 refine⟨os.trans I.os,bare,⟨λb o e n nf _=>fl2.1 b o (keepB b o e n nf),λb o e n hb _=>slot b o e n hb,λb o e n _=> ?_,λb o e _=> ?_,λb xs h=>un.tups b xs (I.base.tups b xs h),λb o u h=>un.frzs b o u (I.base.frzs b o u h),λb ps h=> ?_⟩,B,a0,b1,b2,keepB,there,fl2⟩
 ·obtain⟨o',z⟩:=I.base.there b o e (nex b)
  exact un.free b o' z (I.base.free b o e n (nex b)) (n0 b)
 ·by_cases hb:b∈frs X.outer
  ·obtain⟨sl,z⟩:=slot b o e (I.ok.frf b hb) hb
   exact⟨_,z⟩
  ·obtain⟨o',z⟩:=there b o e hb
   exact⟨o',fl2.1 b o' z⟩
 ·obtain⟨m1,h1⟩:=I.base.tbls b ps h
  obtain⟨m2,h3⟩:=un.tbls b _ h1
  exact⟨m1++m2,by rw[h3,Array.append_assoc]⟩
theorem lh{C e:Addr}{H':Hp}{s':Shared}(I:L2.Inv X pins σ H s)(hst:X.stack=X.env::X.outer)(hf:X.env.frame=some X.env.locals)(hex:X.ex=[])(F:Flown X.prog X.w X.base X.stack H s C H' e s')
  (q:∀s'',Flown X.prog X.w X.base X.outer X.H₀ X.s₀ C H' e s''→Q () s''):wpAny (model X.prog X.w) X.A (leaving X.env (.ref e)) Q E s':=by
 have fr:X.A.frames=some (X.env::X.outer):=by rw[← hst];exact I.ok.frames
 obtain⟨B,a0,b1,b2,b3,b4,fl⟩:=F.ex
 exact wpAny_leaves_onW fr hf (by rw[← hst];exact fl) λh2 fl2 up=>q _ (mH I hst hf hex F.os F.bare F.un b1 b2 b3 b4 fl2 up)
structure FlownH(P:Program)(w:World)(base:Heap)(l:List Env)(H:Hp)(s:Shared)(C:Addr)(H':Hp)(e L:Addr)(s':Shared): Prop where
 os:s'.os=s.os
 bare:AllBare s'.gens
 un:Un (frs l) [] H H' s.heap s'.heap
 ex:∃(B:Heap) (a0:Value),Heap.StaysIn base B∧HOk P w H' B∧(∀b o,s.heap.get? b=some o→H b=none→b∉frs l→B.get? b=some o)∧(∀b o,s.heap.get? b=some o→b∉frs l→∃o',B.get? b=some o')∧Heap.HeldW B l e (.ref C) a0 L s'.heap
theorem qS{C e:Addr}{H':Hp}{s':Shared}(I:L2.Inv X pins σ H s)(hst:X.stack=X.env::X.outer)(hf:X.env.frame=some X.env.locals)(hex:X.ex=[])(F:FlownH X.prog X.w X.base X.stack H s C H' e X.env.locals s')
  (q:∀s'',Flown X.prog X.w X.base X.outer X.H₀ X.s₀ C H' e s''→Q () s''):wpAny (model X.prog X.w) X.A (leaving X.env (.ref e)) Q E s':=by
 obtain⟨B,a0,b1,b2,b3,b4,fl⟩:=F.ex
 unfold leaving
 refine wpAny_bind (wpAny_noteFrame_againW hf fl.2.2.2 (wpAny_landsW fl λh2 fl2 up=>q _ (mH (a0:=a0) I hst hf hex F.os F.bare F.un b1 b2 b3 b4 ?_ up)))
 obtain⟨k1,k2,k3,k4⟩:=fl2
 rw[hst]at k3
 exact⟨k1,k2,k3.2.2,k4⟩
end
end XR
namespace XR
open PySem PySem.Spec PyProof.Rows L2 FL
def yC(K:PySem.W.Frag)(Pf:List D→D→Prop)(Px:List D→Addr→Prop): Sp:=λvs H Q E=>∃ds,IsAll K H vs ds∧((∃d,Pf ds d∧∀v H',Same H H'→Is K H' v d→Q v H')∨∃C,Px ds C∧∀H',Same H H'→E (.ref C) none H')
def aG(P:Program)(w:World)(K:PySem.W.Frag)(mg:Str→Option Value)(base:Heap)(k:Nat)(x:Str)(Pf:List D→D→Prop)(Px:List D→Addr→Prop): Prop:=
 ∃f fd ps,FnOk P w K mg base (qk P w base) k f fd ps (yC K Pf Px)∧mg x=some (.ref f)∧PySem.W.keepIn K (.ref f)=true∧Binds K fd ps []
def jO(X:Cx)(C:Addr)(ρ:Ro): Prop:=∀(pins:List (Addr×Obj)) (σ:L2.St) (H:Hp) (s:Shared) (H':Hp) (e:Addr) (s':Shared),L2.Inv X pins σ H s→RelS X X.H₀ H σ ρ→Same H H'→Flown X.prog X.w X.base X.stack H s C H' e s'→X.xe (.ref e) s'
def xr(X:Cx)(C:Addr)(ρ:Ro): Prop:=∀(pins:List (Addr×Obj)) (σ:L2.St) (H:Hp) (s:Shared) (e:Addr) (h':Heap) (vs:List Value),L2.Inv X pins σ H s→RelS X X.H₀ H σ ρ→Heap.MadeExcOf s.heap h' e (.ref C) vs→X.xe (.ref e) { s with heap:=h' }
def yT(X:Cx)(C:Addr)(ρ:Ro): Prop:=∀(pins:List (Addr×Obj)) (σ:L2.St) (H:Hp) (s:Shared) (H':Hp) (e:Addr) (s':Shared),L2.Inv X pins σ H s→RelS X X.H₀ H σ ρ→Same H H'→FlownH X.prog X.w X.base X.stack H s C H' e X.env.locals s'→X.xe (.ref e) s'
structure Thr(X:Cx)(C:Addr): Prop where
 held:∀ {ρ:Ro},yT X C ρ
 made:∀ {ρ:Ro},xr X C ρ
 on:∀ {ρ:Ro},jO X C ρ
abbrev cxX(P:Program)(w:World)(K:PySem.W.Frag)(mg:Str→Option Value)(base:Heap)(N:List Str)(qual:Str)(st:Stmt)(f:Addr)(cdv:Value)(A:Around)(outer:List Env)(s:Shared)(H:Hp)(E:XK): Cx:=
 cxOf (qk P w base) P w K mg base N qual (defScope st) f cdv A outer s H E
section
variable {P : Program} {w : World} {K : PySem.W.Frag} {mg : Str → Option Value} {base : Heap}
theorem sN{N:List Str}{qual:Str}{st:Stmt}{f:Addr}{cdv:Value}{A:Around}{outer:List Env}{s:Shared}{H:Hp}{E:XK}{C:Addr}(hE:∀H',Same H H'→E (.ref C) none H'): Thr (cxX P w K mg base N qual st f cdv A outer s H E) C where
 held:=λpins σ H1 s1 H2 e s' I r sm2 F=>qS I rfl rfl rfl F λs'' F'=>⟨C,H2,e,rfl,F',hE H2 (r.same.trans sm2)⟩
 made:=λpins σ H1 s1 e h' vs I r m=>qT I rfl rfl rfl m λs'' F=>⟨C,H1,e,rfl,F,hE H1 r.same⟩
 on:=λpins σ H1 s1 H2 e s' I r sm2 F=>lh I rfl rfl rfl F λs'' F'=>⟨C,H2,e,rfl,F',hE H2 (r.same.trans sm2)⟩
theorem xW{x qual:Str}{st:Stmt}{f:Addr}{fd:FuncData}{N ps:List Str}{k:Nat}{Pf:List D→D→Prop}{Px:List D→Addr→Prop}(F:Fun K x qual st f fd)(S:FnScope N ps (defScope st))
  (hl:∀ds d,Pf ds d→ds.length=ps.length∧∀d∈ds,aR d=none) (hlx:∀ds C,Px ds C→ds.length=ps.length∧∀d∈ds,aR d=none)
  (hbody:∀(cdv:Value) (A:Around) (outer:List Env) (s:Shared) (H:Hp) (E:XK),Room k (A.deeper (envOfC qual (defScope st) s.heap.objs.size f cdv))→∀ds d,Pf ds d→
   Do (gF P w K mg base N qual st f cdv A outer s H E) (defBody st) (nV N ds) { nx:=λ_=>d = .non,rt:=λd'=>d'=d })
  (hthr:∀(cdv:Value) (A:Around) (outer:List Env) (s:Shared) (H:Hp) (E:XK),Room k (A.deeper (envOfC qual (defScope st) s.heap.objs.size f cdv))→∀ds C,Px ds C→Thr (cxX P w K mg base N qual st f cdv A outer s H E) C→
   Do (cxX P w K mg base N qual st f cdv A outer s H E) (defBody st) (nV N ds) { nx:=λ_=>False,rt:=λ_=>False }):FnOk P w K mg base (qk P w base) (k+1) f fd ps (yC K Pf Px):=by
 obtain⟨oc,od,kV,doc,pm,an,cdv,ct,osl,rfl,lk,hcd⟩:=F.ex
 refine fn_of lk hcd S (λvs H Q E h=> ?_) λA outer s H vs Q E hr h=> ?_
 ·obtain⟨ds,h1,⟨d,h2,_⟩|⟨C,h2,_⟩⟩:=h
  ·rw[h1.length];exact(hl ds d h2).1
  ·rw[h1.length];exact(hlx ds C h2).1
 ·obtain⟨ds,h1,⟨d,h2,q⟩|⟨C,h2,q⟩⟩:=h
  ·refine⟨_,PSs.nox (hbody cdv A outer s H E hr ds d h2),?_⟩
   refine⟨bb (X:=gF P w K mg base N qual st f cdv A outer s H E) h1 (hl ds d h2).2,λσ' H' ρ' _ r' z=> ?_,λv H' d' sm hv _ z=> ?_,λ_ _ _ _ _ z=>z.elim,λ_ _ _ _ _ z=>z.elim⟩
   ·have z':d = .non:=z
    subst z'
    exact q _ H' r'.same .non
   ·have z':d'=d:=z
    subst z'
    exact q v H' sm hv
  ·refine⟨_,hthr cdv A outer s H E hr ds C h2 (sN q),?_⟩
   exact⟨bb (X:=cxX P w K mg base N qual st f cdv A outer s H E) h1 (hlx ds C h2).2,λ_ _ _ _ _ z=>z.elim,λ_ _ _ _ _ _ z=>z.elim,λ_ _ _ _ _ z=>z.elim,λ_ _ _ _ _ z=>z.elim⟩
end
def Rs(X:Cx)(e:Expr)(ρ:Ro): Prop:=∀(pins:List (Addr×Obj)) (s:Shared) (σ:L2.St) (H:Hp) (Q:Value→Shared→Prop),L2.Inv X pins σ H s→RelS X X.H₀ H σ ρ→wpAny (model X.prog X.w) X.A (eval e X.env) Q X.xe s
section
variable {X : Cx} {e a b c : Expr} {es : List Expr} {ρ : Ro} {d : D} {ds : List D} {pos : Pos} {rest : List Stmt} {Po' : Po} {C : Addr}
theorem ag{k:Nat}{x:Str}{Pf:List D→D→Prop}{Px:List D→Addr→Prop}{p:Pos}(G:aG X.prog X.w X.K X.mg X.base k x Pf Px)(hr:Room k X.A)(ha:gx X (e::es) ρ ds)(hp:Px ds C)(ht:jO X C ρ)(hg:Gl X x:=by rfl)(hdb:(x==("__debug__": Str))=false:=by decide)
  (he:starEach (e::es) X.env=(false,eval e X.env)::starEach es X.env:=by rfl) (hpl:(backTo pos (starEach es X.env)).any (·.1)=false:=by rfl):Rs X (.Call (.Name x p) (e::es) [] pos) ρ:=by
 intro pins s σ H Q I rs
 obtain⟨f,fd,ps,F,hm,hk,hb⟩:=G
 refine wpAny_Call_Name_kw (ld_glob I hg hm ?_ hdb)
 refine PySem.W.callWith_K (h₀:=X.base) I.ok.mod.kin hk (thn (ha pos pins s σ H (λvs H1=>Same H H1∧IsAll X.K H1 vs ds) I ⟨rs.e,λvs H' s1 h1=>⟨s1,h1⟩⟩) λus s1 ⟨vs,H1,I1,r,sm,hv⟩=>⟨I1.kIn,?_⟩) he hpl
 have sp:yC X.K Pf Px vs H1 (λ_ _=>False) (λc _ H'=>c = .ref C∧Same H1 H'):=⟨ds,hv,.inr ⟨C,hp,λH' s'=>⟨rfl,s'⟩⟩⟩
 have hl:(us++[]).length=ps.length:=by rw[List.append_nil,← r.length];exact F.len _ _ _ _ sp
 have hb1:=hb s1 us I1.kIn hl
 rw[List.append_nil]at hb1
 refine wpAny_call (codeAny_mono (F.run X.A X.stack s1 H1 ⟨us,[]⟩ us vs (λ_ _=>False) (λc _ H'=>c = .ref C∧Same H1 H') hr I1.env0 hb1 r sp) λr s' hq=> ?_)
 cases r with
 | error e=>
  obtain⟨C',H2,e',rfl,Fl,z,sm2⟩:=(show qk X.prog X.w X.base X.stack H1 s1 (λc _ H'=>c = .ref C∧Same H1 H') e s' from hq)
  cases z
  exact ht pins σ H1 s1 H2 e' s' I1 (rs.mono sm) sm2 Fl
 | ok fl=>
  cases fl with
  | ret u=>obtain⟨_,_,_,_,_,_,_,z⟩:=(show CE X.stack X.prog X.w H1 s1 (λ_ _=>False) u s' from hq);exact z.elim
  | next=>exact False.elim hq
  | brk=>exact False.elim hq
  | cont=>exact False.elim hq
end
end XR
namespace XR
open PySem PySem.Spec PyProof.Rows L2 FL
theorem wC{K:PySem.W.Frag}{h:Heap}{C:Addr}{bmB:List Value}{newId:String}(X:K.In h)(q:PySem.W.excIn K C bmB newId=true):
  ∃bm N nm qn bs hd sn sub ab col dd k0 k1 k2 k3 k5,∃mN:Str→Option Value,h.get? C=some (excClassObj nm qn C N bs bm hd sn sub ab col dd k0 k1 k2 k3 k5 newId)∧h.Ns N mN∧mN "__init__"=none∧OwnTail h bmB bm:=by
 unfold PySem.W.excIn at q
 split at q
 case h_2=>cases q
 case h_1 dd cd sl ho=>
  split at q
  case h_2=>cases q
  case h_1 C' bm k0 k1 k2 k3 n k5 hm hs=>
   simp only[Bool.and_eq_true,beq_iff_eq,Bool.not_eq_true']at q
   obtain⟨⟨⟨⟨⟨e1,e2⟩,hdel⟩,ht⟩,hok⟩,hni⟩:=q
   subst e1 e2
   cases cd with
   | mk nm bs mro ns qn hd sn sub ab col del=>
    have hm':mro=_:=hm
    have hdel':del=false:=hdel
    subst hm' hdel'
    have hsl:sl = #[k0,k1,k2,k3,some (.builtin n),k5]:=by
     cases sl with
     | mk l=>
      have:l=_:=hs
      rw[this]
    subst hsl
    exact⟨bm,ns,nm,qn,bs,hd,sn,sub,ab,col,dd,k0,k1,k2,k3,k5,_,X _ _ ho,.of_isNs (PySem.W.isNs_of_in X hok),PySem.W.nsMap_none_of_in X hok hni,PySem.W.tail_of_in X ht⟩
section
variable {X : Cx} {e a b c : Expr} {es : List Expr} {ρ : Ro} {d : D} {ds : List D} {pos : Pos} {rest : List Stmt} {Pp : Po} {C : Addr}
theorem cn{x:Str}{bmB bmN:List Value}{B Bn newId nid initId inN:String}{np cpos:Pos}(ht:xr X C ρ)(q:PySem.W.excIn X.K C bmB newId=true)(Fn:ExcBaseFacts Bn newId inN bmN)(hBn:bmB.contains (.type Bn)=true)(FB:ExcBaseFacts B nid initId bmB)(hm:X.mg x=some (.ref C))
  (hh:X.A.handled=none) (ha:gx X (e::es) ρ ds) (hl:ds.length≤1000) (hg:Gl X x:=by rfl) (hdb:(x==("__debug__": Str))=false:=by decide)
  (he:starEach (e::es) X.env=(false,eval e X.env)::starEach es X.env:=by rfl) (hpl:(backTo cpos (starEach es X.env)).any (·.1)=false:=by rfl) :
  Do X (.Raise (some (.Call (.Name x np) (e::es) [] cpos)) none pos::rest) ρ Pp:=by
 intro pins s σ H D I ⟨r,_⟩
 refine wpAny_execs_cons ?_
 obtain⟨bm,N,nm,qn,bs,hd,sn,sub,ab,col,dd,k0,k1,k2,k3,k5,mN,hC,hN,hni,T⟩:=wC I.ok.mod.kin q
 refine wpAny_Raise_call_subU (C:=C) (nm:=nm) (q:=qn) (N:=N) (bs:=bs) (bm:=bm) (hdct:=hd) (sn:=sn) (sub:=sub) (ab:=ab) (col:=col) (dd:=dd) (k0:=k0) (k1:=k1) (k2:=k2) (k3:=k3) (k5:=k5)
  Fn hBn FB (mN:=mN) (T.hasType FB.hasBase) hh (by rw[he];show(false || (backTo cpos (starEach es X.env)).any (·.1))=false;rw[hpl];rfl) hni (ld_glob I hg hm ⟨rfl,?_⟩ hdb)
 have h:=thn (ha cpos pins s σ H (λvs H1=>Same H H1∧IsAll X.K H1 vs ds) I ⟨r.e,λvs H' s1 h1=>⟨s1,h1⟩⟩) (Q':=λus s2=>us.length≤sizeLine∧(∀b o,X.base.get? b=some o→s2.heap.get? b=some o)∧∀h' e,Heap.MadeExcOf s2.heap h' e (.ref C) us→X.xe (.ref e) { s2 with heap:=h' })
  λus s2 ⟨vs,H1,I1,rr,sm,hv⟩=>⟨by rw[← rr.length,hv.length,sizeLine_eq];omega,I1.bk,λh' e m=>ht pins σ H1 s2 e h' us I1 (r.mono sm) m⟩
 rw[he]at h ⊢
 exact Calls.evalArgs_plain (wpAny_mono h (λvs s₂ h₂=>⟨rfl,h₂.1,h₂.2.1 _ _ hC,hN.keeps h₂.2.1,T.keeps h₂.2.1,h₂.2.2⟩) λ_ _ y=>y)
def tX(X:Cx)(ρ:Ro): TE:=λσ H _=>RelS X X.H₀ H σ ρ
theorem Rs.pe(h:Rs X e ρ): PE X e (tX X ρ):=λpins s σ H Q I r=>h pins s σ H _ I r
theorem Rs.of(h:PE X e (tX X ρ)): Rs X e ρ:=λpins s σ H Q I r=>wpAny_mono (h pins s σ H (λ_ _=>False) I r) (λ_ _ ⟨_,_,_,_,z⟩=>z.elim) λ_ _ z=>z
theorem aq(h:Rs X e ρ)(hs:swapsWith e none pos.line X.env=pure false:=by rfl): Do X (.Expr e pos::rest) ρ Pp:=
 PSs.imp (pss_cons (u:=tNever) (ps_expr h.pe hs) pss_never) λ_ _ _ ⟨r,_⟩=>r
theorem am(h:Rs X e ρ): Do X (.Return (some e) pos::rest) ρ Pp:=
 PSs.imp (pss_cons (u:=tNever) (ps_ret h.pe) pss_never) λ_ _ _ ⟨r,_⟩=>r
theorem g8(n:Nat){x:Str}{pos':Pos}(h:Rs X e ρ)(hN:X.N.Nodup)(hi:X.N[n]?=some x:=by rfl)(hx:Loc X.env.scope x:=by first|exact Or.inl rfl|exact Or.inr rfl)
  (hs:swapsWith e (some (.Name x pos')) pos.line X.env=pure false:=by rfl) (hf:X.fn x=true∨X.env.scope.names.lookup x=some .local:=by first|exact .inl rfl|exact .inr rfl):Do X (.Assign [.Name x pos'] e pos::rest) ρ Pp:=
 PSs.imp (pss_cons (u:=tNever) (ps_set hN hi hx h.pe hs hf) pss_never) λ_ _ _ ⟨r,_⟩=>r
def RsA(X:Cx)(es:List Expr)(ρ:Ro): Prop:=PA X es λσ H _=>RelS X X.H₀ H σ ρ
theorem wX(h:Rs X e ρ)(hs:starEach (e::es) X.env=(false,eval e X.env)::starEach es X.env:=by rfl): RsA X (e::es) ρ:=
 PA.imp (pa_cons h.pe (t:=λ_ _ _=>False) (λ_ _ _ _ _ _ _ z=>z.elim) hs) λ_ _ _ r=>r
end
end XR
namespace XR
open PySem PySem.Spec PyProof.Rows L2 FL
section
variable {X : Cx} {pins : List (Addr × Obj)} {σ : L2.St} {H H' : Hp} {s s' : Shared} {C e : Addr}
theorem zc{B h5:Heap}{a0:Value}(I:L2.Inv X pins σ H s)(os:s'.os=s.os)(bare:AllBare s'.gens)(un:Un (frs X.stack) [] H H' s.heap s'.heap)(b2:HOk X.prog X.w H' B)
  (b3:∀b o,s.heap.get? b=some o→H b=none→b∉frs X.stack→B.get? b=some o) (b4:∀b o,s.heap.get? b=some o→b∉frs X.stack→∃o',B.get? b=some o')
  (fl:Heap.FlyingW B X.stack e (.ref C) a0 h5) (up:s'.heap.UpToSlots h5):L2.Inv X pins σ H' { s' with heap:=h5 }:=by
 have n0:∀b:Addr,b∉([]:List Addr):=λb z=>by cases z
 have slot:∀b o,s.heap.get? b=some o→H b=none→b∈frs X.stack→∃sl,h5.get? b=some { o with slots:=sl }:=λb o e n hb=>by
  obtain⟨sl,e1⟩:=un.slot b o e n hb (n0 b)
  obtain⟨_,o',e2,nd⟩:=I.stack.mem hb
  rw[e]at e2
  cases e2
  obtain⟨sl2,e3⟩:=up b _ e1 nd
  exact⟨sl2,e3⟩
 have un5:Un (frs X.stack) [] H H' s.heap h5:=by
  refine⟨λb o e n nf _=>fl.1 b o (b3 b o e n nf),λb o e n hb _=>slot b o e n hb,un.free,λb o e _=> ?_,un.tups,un.frzs,un.tbls⟩
  by_cases hb:b∈frs X.stack
  ·obtain⟨sl,z⟩:=slot b o e (I.stkFree b hb) hb
   exact⟨_,z⟩
  ·obtain⟨o',z⟩:=b4 b o e hb
   exact⟨o',fl.1 b o' z⟩
 have ce:CE X.stack X.prog X.w H s (λ_ H2=>H2=H') Value.none { s' with heap:=h5 }:=⟨.non,H',os,bare,un5,b2.kept fl.1,rfl,rfl⟩
 obtain⟨v,H2,J,_,z⟩:=I.after ce
 subst z
 exact J
end
section
variable {X : Cx} {ρ : Ro} {pos : Pos} {rest body : List Stmt} {P : Po} {h0 : ExceptHandler} {hs : List ExceptHandler}
end
end XR
namespace XR
open PySem PySem.Spec PyProof.Rows L2 FL
section
variable {X : Cx} {pins : List (Addr × Obj)} {σ : L2.St} {H H' : Hp} {s s' : Shared} {C e : Addr}
theorem se{P:Program}{w:World}{h:Heap}{a:Addr}{o:HO}(x:ObjOk P w H h a o): ∃ob,h.get? a=some ob:=by
 cases o with
 | lst xs=>obtain⟨_,_,_,_,e⟩:=x;exact⟨_,e⟩
 | tup xs=>obtain⟨_,_,_,ob,e,_⟩:=x;exact⟨_,e⟩
 | dK kvs=>obtain⟨_,_,_,_,o,_,_,e,_⟩:=x;exact⟨_,e⟩
 | dT kvs=>obtain⟨_,_,_,_,o,_,_,e,_⟩:=x;exact⟨_,e⟩
 | set S n=>obtain⟨o,_,_,_,e,_⟩:=x;exact⟨_,e⟩
 | ins C dx fs=>obtain⟨_,_,_,e,_⟩:=x;exact⟨_,e⟩
 | own y=>obtain⟨_,e⟩:=x;exact⟨_,e⟩
 | xd fs=>obtain⟨_,⟨_,_,_,e,_⟩,_⟩:=x;exact⟨_,e⟩
 | rng lo hi=>obtain⟨_,_,_,e⟩:=x;exact⟨_,e⟩
 | frz ob u=>obtain⟨e,_⟩:=x;exact⟨_,e⟩
 | tbl ps=>exact⟨_,(show h.get? a=some _ from x)⟩
 | met f y=>exact⟨_,(show h.get? a=some _ from x)⟩
 | ext φ=>obtain⟨_,⟨_,e⟩,_⟩:=x;exact⟨_,e⟩
theorem zd{B h5:Heap}{a0:Value}{oe:Obj}(I:L2.Inv X pins σ H s)(os:s'.os=s.os)(bare:AllBare s'.gens)(un:Un (frs X.stack) [] H H' s.heap s'.heap)(b2:HOk X.prog X.w H' B)
  (b3:∀b o,s.heap.get? b=some o→H b=none→b∉frs X.stack→B.get? b=some o) (b4:∀b o,s.heap.get? b=some o→b∉frs X.stack→∃o',B.get? b=some o')
  (fl:Heap.FlyingW B X.stack e (.ref C) a0 h5) (up:s'.heap.UpToSlots h5) (he:h5.get? e=some oe):L2.Inv X pins σ (upd H' e (.frz oe (.own e))) { s' with heap:=h5 }:=by
 have n0:∀b:Addr,b∉([]:List Addr):=λb z=>by cases z
 have nH:H' e=none:=by
  cases q:H' e with
  | none=>rfl
  | some u=>
   obtain⟨ob,z⟩:=se (b2 e u q)
   rw[fl.2.1]at z
   cases z
 have nS:s.heap.get? e=none:=by
  cases q:s.heap.get? e with
  | none=>rfl
  | some o=>
   exfalso
   by_cases hb:e∈frs X.stack
   ·obtain⟨_,o',e2,nd⟩:=fl.2.2.1.mem hb
    obtain⟨o3,vs,_,_,_,z1,_,z2,_⟩:=fl.2.2.2
    rw[z1]at e2
    cases e2
    exact nd _ z2
   ·obtain⟨o',z⟩:=b4 e o q hb
    rw[fl.2.1]at z
    cases z
 have keepu:∀ {b:Addr} {u:HO},H' b=some u→upd H' e (.frz oe (.own e)) b=some u:=λz=>by rw[upd_ne (ne_of_none z nH)];exact z
 have slot:∀b o,s.heap.get? b=some o→H b=none→b∈frs X.stack→∃sl,h5.get? b=some { o with slots:=sl }:=λb o e n hb=>by
  obtain⟨sl,e1⟩:=un.slot b o e n hb (n0 b)
  obtain⟨_,o',e2,nd⟩:=I.stack.mem hb
  rw[e]at e2
  cases e2
  obtain⟨sl2,e3⟩:=up b _ e1 nd
  exact⟨sl2,e3⟩
 have un5:Un (frs X.stack) [] H (upd H' e (.frz oe (.own e))) s.heap h5:=by
  refine⟨λb o e n nf _=>fl.1 b o (b3 b o e n nf),λb o e n hb _=>slot b o e n hb,λb o z n hx=> ?_,λb o e _=> ?_,λb xs z=>keepu (un.tups b xs z),λb o u z=>keepu (un.frzs b o u z),λb ps z=> ?_⟩
  ·rw[upd_ne (λy=>by subst y;rw[nS]at z;cases z)]
   exact un.free b o z n hx
  ·by_cases hb:b∈frs X.stack
   ·obtain⟨sl,z⟩:=slot b o e (I.stkFree b hb) hb
    exact⟨_,z⟩
   ·obtain⟨o',z⟩:=b4 b o e hb
    exact⟨o',fl.1 b o' z⟩
  ·obtain⟨more,y⟩:=un.tbls b ps z
   exact⟨more,keepu y⟩
 have hok:HOk X.prog X.w (upd H' e (.frz oe (.own e))) h5:=λb u z=>by
  by_cases hb:b=e
  ·subst hb
   rw[upd_same]at z
   cases z
   exact⟨he,_,he⟩
  ·rw[upd_ne hb]at z
   exact((b2.kept fl.1) b u z).stay (λ_ _ _ y=>y) (λ_ y=>keepu y) (λ_ _ y=>keepu y)
 have ce:CE X.stack X.prog X.w H s (λ_ H2=>H2=upd H' e (.frz oe (.own e))) Value.none { s' with heap:=h5 }:=⟨.non,_,os,bare,un5,hok,rfl,rfl⟩
 obtain⟨v,H2,J,_,z⟩:=I.after ce
 subst z
 exact J
theorem ud{M:Model}{A:Around}{E:Value→Shared→Prop}{i:Nat}{x:Str}{v:V}{Q:Unit→Shared→Prop}(I:L2.Inv X pins σ H s)(hN:X.N.Nodup)(hi:X.N[i]?=some x)(hk:X.env.scope.names.lookup x=some .local)(hv:σ[i]?=some (some v))
  (h:∀s',L2.Inv X pins (σ.set i none) H s'→Q () s'):wpAny M A (unbindName X.env x) Q E s:=by
 obtain⟨m,hn,hl⟩:=id I.loc
 have hcls:(X.env.scope.kind == .class || (X.env.scope.kind == .module&&X.env.locals != X.env.globals))=false:=by rw[I.ok.kind];rfl
 have hiσ:i<σ.length:=by rw[I.len];exact(List.getElem?_eq_some_iff.mp hi).1
 have cne:=I.cne
 obtain⟨u,_,lk⟩:=hl i x v hi hv (.inl hk)
 have mu:m x=some u:=by
  rcases lk with⟨_,z⟩|⟨z,_⟩
  ·exact z
  ·have z':X.env.scope.names.lookup x=some .cell∨X.env.scope.names.lookup x=some .free:=z
   rw[hk]at z'
   rcases z' with z'|z'<;>cases z'
 refine wpAny_unbindName_local hk hn mu hcls λh' u' hn' hs=> ?_
 obtain⟨oL,_,_,hoL,_⟩:=id hn
 have old:∀ {b:Addr} {o:Obj},X.s₀.heap.get? b=some o→b≠X.env.locals:=λz=>Nat.ne_of_lt (Nat.lt_of_lt_of_le (Heap.lt_size z) I.ok.above)
 refine h _ ⟨I.ok,I.os,I.bare,⟨λb o e n hb hx=>(hs.2 b (old e)).trans (I.base.keep b o e n hb hx),λb o e n hb hx=> ?_,I.base.free,λb o e hx=> ?_,I.base.tups,I.base.frzs,I.base.tbls⟩,⟨_,hn',λj y v' e1 e2 e3=> ?_⟩,λy c e=> ?_,I.free,I.freeC,λp hp=> ?_,λb ob z=> ?_,by simpa using I.len⟩
 ·obtain⟨sl,e1⟩:=I.base.slot b o e n hb hx
  exact⟨sl,(hs.2 b (old e)).trans e1⟩
 ·obtain⟨o',e1⟩:=I.base.there b o e hx
  exact⟨o',(hs.2 b (old e)).trans e1⟩
 ·by_cases hj:j=i
  ·subst hj
   rw[List.getElem?_set_self hiσ]at e2
   cases e2
  ·rw[List.getElem?_set_ne (Ne.symm hj)]at e2
   obtain⟨u',r',q⟩:=hl j y v' e1 e2 e3
   refine⟨u',r',?_⟩
   rcases q with⟨k,e⟩|⟨k,c,e,z⟩
   ·refine .inl ⟨k,?_⟩
    have:y≠x:=λe=>hj (nodup_ix hN e1 (e▸hi))
    simp[this,e]
   ·exact .inr ⟨k,c,e,z.sameBut hs (cne y c e)⟩
 ·obtain⟨w',z⟩:=I.cell y c e
  exact⟨w',z.sameBut hs (cne y c e)⟩
 ·obtain⟨e,n,ne,nf,d⟩:=I.pin p hp
  exact⟨(hs.2 p.1 ne).trans e,n,ne,nf,d⟩
 ·refine(I.hok b ob z).stay (λc w' hc q=>(hs.2 c ?_).trans q) (λ_ q=>q) λ_ _ q=>q
  rintro rfl
  rcases hc with rfl|hc
  ·rw[I.free]at z;cases z
  ·rw[I.free]at hc;cases hc
end
end XR
namespace XR
open PySem PySem.Spec PyProof.Rows L2 FL
abbrev tr(X:Cx)(H:Hp)(pins:List (Addr×Obj))(E:Value→Shared→Prop): Cx:={ X with H₀:=H,pn:=X.pn++pins,xe:=E }
abbrev zw(X:Cx)(e:Addr): Cx:={ X with A:=X.A.mark (some (.ref e)),calm:=false,xe:=λ_ _=>False }
section
variable {X : Cx} {pins pins' : List (Addr × Obj)} {σ : L2.St} {H : Hp} {s : Shared} {E : Value → Shared → Prop} {e : Addr}
theorem zA(I:L2.Inv X pins σ H s)(sm:Same X.H₀ H): L2.Inv (tr X H pins E) [] σ H s:=by
 have J:=Inv.from I (λb z=>by
  cases hb:X.H₀ b with
  | none=>rfl
  | some u=>rw[sm b u hb]at z;cases z)
 exact⟨⟨J.ok.mod,J.ok.kind,J.ok.glob,J.ok.blt,J.ok.above,J.ok.inj,J.ok.has,J.ok.cab,J.ok.hd,J.ok.frames,J.ok.stk,J.ok.exf,J.ok.bs,J.ok.bsz,J.ok.noex,J.ok.exfs,J.ok.funs,J.ok.frf⟩,J.os,J.bare,J.base,J.loc,J.cell,J.free,J.freeC,λp hp=>J.pin p (by simpa using hp),J.hok,J.len⟩
theorem rk{σ':L2.St}{H':Hp}{s':Shared}(I:L2.Inv X pins σ H s)(J:L2.Inv (tr X H pins E) pins' σ' H' s'): L2.Inv X pins σ' H' s':=
 Inv.back I (X:=X) ⟨⟨J.ok.mod,J.ok.kind,J.ok.glob,J.ok.blt,J.ok.above,J.ok.inj,J.ok.has,J.ok.cab,J.ok.hd,J.ok.frames,J.ok.stk,J.ok.exf,J.ok.bs,J.ok.bsz,J.ok.noex,J.ok.exfs,J.ok.funs,J.ok.frf⟩,J.os,J.bare,J.base,J.loc,J.cell,J.free,J.freeC,λp hp=>J.pin p (List.mem_append_left _ hp),J.hok,J.len⟩
theorem vN(I:L2.Inv X pins σ H s): L2.Inv (zw X e) pins σ H s:=
 ⟨⟨I.ok.mod,I.ok.kind,I.ok.glob,I.ok.blt,I.ok.above,I.ok.inj,I.ok.has,I.ok.cab,λz=>(nomatch z),I.ok.frames,I.ok.stk,I.ok.exf,I.ok.bs,I.ok.bsz,I.ok.noex,I.ok.exfs,I.ok.funs,I.ok.frf⟩,I.os,I.bare,I.base,I.loc,I.cell,I.free,I.freeC,I.pin,I.hok,I.len⟩
theorem w8{σ':L2.St}{H':Hp}{s':Shared}(J:L2.Inv X pins σ H s)(I:L2.Inv (zw X e) pins σ' H' s'): L2.Inv X pins σ' H' s':=
 ⟨J.ok,I.os,I.bare,I.base,I.loc,I.cell,I.free,I.freeC,I.pin,I.hok,I.len⟩
end
def zS(X:Cx)(hs:List ExceptHandler)(C:Addr)(ρ:Ro)(P:Po): Prop:=
 ∀(pins:List (Addr×Obj)) (σ:L2.St) (H:Hp) (s:Shared) (D:Ends) (e:Addr) (B:Heap) (a0:Value),Heap.FlyingW B X.stack e (.ref C) a0 s.heap→
  (∀h',Heap.FlyingW B X.stack e (.ref C) a0 h'→s.heap.UpToSlots h'→L2.Inv X pins σ H { s with heap:=h' })→
  (∀h' oe,Heap.FlyingW B X.stack e (.ref C) a0 h'→s.heap.UpToSlots h'→h'.get? e=some oe→L2.Inv X pins σ (upd H e (.frz oe (.own e))) { s with heap:=h' })→H e=none→xb X ρ P D σ H→
  wpAny (model X.prog X.w) X.A (handleBy (.ref e) X.env hs) (SP X pins D) X.xe s
section
variable {X : Cx} {ρ : Ro} {pos : Pos} {rest body : List Stmt} {P : Po} {h0 : ExceptHandler} {hs : List ExceptHandler} {C C' : Addr}
theorem xi(h:Heap): h.UpToSlots h:=λb o e _=>⟨o.slots,e⟩
end
end XR
namespace XR
open PySem PySem.Spec PyProof.Rows L2 FL
section
variable {X : Cx} {ρ : Ro} {pos np : Pos} {P : Po} {hs : List ExceptHandler} {C : Addr} {c : Value} {x : Str} {b₀ : Stmt} {suite body : List Stmt} {nm : Option Str}
theorem xU{B h:Heap}{l:List Env}{e:Addr}{a0:Value}{M:Model}(fl:Heap.FlyingW B l e (.ref C) a0 h): PySem.W.Looks M h (typeOf (.ref e)) (.ref C):=by
 obtain⟨ob,hob,hc⟩:=fl.there
 rw[← hc]
 exact(PySem.W.Looks.ld hob).andThen .now
theorem xY(i:Nat){n:Str}(hm:X.mg x=some c)(he:PySem.W.exmOne X.K (.ref C) c=some true)(h:∀e,Do (zw X e) (b₀::suite) (ρ.set i (some (.exn C))) { nx:=λ_=>False,rt:=P.rt })(hN:X.N.Nodup)(hi:X.N[i]?=some n:=by rfl)(hk:X.env.scope.names.lookup n=some .local:=by rfl)
  (hg:Gl X x:=by rfl) (hd:(x==("__debug__": Str))=false:=by decide):zS X (.ExceptHandler (some (.Name x np)) (some n) (b₀::suite) pos::hs) C ρ P:=by
 intro pins σ H s D e B a0 fl inv invE nE q
 have J:L2.Inv X pins σ H s:=inv s.heap fl (xi _)
 refine wpAny_handleBy_cons (codeAny_handlers_test (ld_glob (X:=zw X e) (vN J) hg hm ?_ hd)) (by intro z;cases z)
 refine PySem.W.exm_one J.kIn (xU fl) he _ _ _ _ (λ_ _ z=>z) ?_
 refine codeAny_handlers_suite_as ?_
 refine lands_againW fl λh6 fl6 up6=> ?_
 obtain⟨oe,hoe,hc⟩:=fl6.there
 have J6:=invE h6 oe fl6 up6 hoe
 have sm:Same H (upd H e (.frz oe (.own e))):=λb u z=>by rw[upd_ne (ne_of_none z nE)];exact z
 refine store_ok (X:=zw X e) (vN J6) hN hi (.inl hk) (v:=.ref e) rfl (λs7 J7=> ?_) (.inr hk)
 have r7:RelS X X.H₀ (upd H e (.frz oe (.own e))) (σ.set i (some (.ref e))) (ρ.set i (some (.exn C))):=(q.1.mono sm).set (.exn upd_same hc) i (.inl (.exn C)) (λa z=>by cases z)
 refine wpAny_mono (h e pins s7 _ _ { nx:=λ_ _=>False,rt:=D.rt,bk:=λ_ _=>False,ct:=λ_ _=>False } J7 ⟨⟨r7.same,r7.len,r7.val,r7.own⟩,λ_ _ _ _ _ z=>z.elim,q.2.2.1,λ_ _ _ _ _ z=>z.elim,λ_ _ _ _ _ z=>z.elim⟩) (λf s8 z=> ?_) λ_ _ z=>False.elim z
 cases f with
 | next=>obtain⟨_,_,_,y⟩:=z;exact y.elim
 | brk=>obtain⟨_,_,_,y⟩:=z;exact y.elim
 | cont=>obtain⟨_,_,_,y⟩:=z;exact y.elim
 | ret u=>
  obtain⟨v,σ',H2,J8,rv,hq⟩:=z
  have J8':=w8 J J8
  have hl:i<σ'.length:=by rw[J8'.len];exact(List.getElem?_eq_some_iff.mp hi).1
  refine wpAny_bind (wpAny_bindName (store_ok J8' hN hi (.inl hk) (v:=.non) rfl (λs9 J9=> ?_) (.inr hk)))
  refine wpAny_onRaise (ud J9 hN hi hk (by rw[List.getElem?_set_self hl]) λs10 J10=>⟨v,_,H2,J10,rv,hq⟩)
theorem g9{K:PySem.W.Frag}{C':Addr}{b:Bool}(hb:PySem.W.mroIn K C' (.type "BaseException")=some true)(t:PySem.W.typeIn K (.ref C')=some (.type "type"))(h:PySem.W.mroIn K C (.ref C')=some b): PySem.W.exmOne K (.ref C) (.ref C')=some b:=by
 have i:(PySem.W.clsIn K C').isSome=true:=by
  unfold PySem.W.mroIn at hb
  cases q:PySem.W.clsIn K C' with
  | none=>rw[q]at hb;cases hb
  | some _=>rfl
 unfold PySem.W.exmOne
 rw[if_pos (by rw[show PySem.W.subIn K (.ref C') (.type "BaseException")=some true from hb];rfl)]
 show(if ((PySem.W.clsIn K C').isSome&&PySem.W.typeIn K (.ref C')==some (.type "type"))=true then PySem.W.subIn K (.ref C) (.ref C')else none)=_
 rw[i,t,if_pos (by decide)]
 exact h
end
end XR
namespace XR
open PySem PySem.Spec PySem.Calls PyProof.Rows PySem.W PySem.Builtin PySem.Builtin.ObjectAttr PySem.Builtin.Getset_descriptor
section
variable {prog : Program} {w : World} {A : Around} {E : Value → Shared → Prop} {s : Shared} {K : Frag} {x D : Addr}
abbrev Of(h:Heap)(x D:Addr): Prop:=∃ox,h.get? x=some ox∧ox.cls = .ref D
theorem pz{M:Model}{h:Heap}(I:Of h x D): Looks M h (typeOf (.ref x)) (.ref D):=by
 obtain⟨ox,hx,hc⟩:=I
 rw[← hc]
 exact(Looks.ld hx).andThen .now
theorem wP{M:Model}{h:Heap}(X:K.In h)(ha:findIn K (.ref D) "__class__"=some (some (.builtin "object.__class__")))
  (hn:specialIn K (.builtin "object.__class__") "__get__"=some (some (.builtin "getset_descriptor.__get__"))) (htk:takesIn K (.builtin "object.__class__")=some true):Looks M h (find (.ref x) (.ref D) "__class__") (.bind (.builtin "getset_descriptor.__get__") (.builtin "object.__class__")):=by
 have q1:=looks_findIn (M:=M) X ha
 have q2:Looks M h (getOf (some (.builtin "object.__class__"))) (some (.builtin "getset_descriptor.__get__")):=looks_specialIn X hn
 have q3:=looks_takesIn (M:=M) X htk
 refine q1.andThen (q2.andThen ?_)
 have q4:Looks M h (dataDescriptor? (some (.builtin "object.__class__")) (some (.builtin "getset_descriptor.__get__"))) (some (.builtin "getset_descriptor.__get__",.builtin "object.__class__")):=q3.andThen .now
 exact q4.andThen (Looks.tag .now)
theorem yc{s:Shared}{tp:Value}{R:Result→Shared→Prop}(X:K.In s.heap)(I:Of s.heap x D)(hm:mroIn K D (.type "object")=some true)(h:R (.ok (.ret (.ref D))) s):
  codeAny (model prog w) A (.call (.builtin "getset_descriptor.__get__") ⟨[.builtin "object.__class__",.ref x,tp],[]⟩) R s:=by
 obtain⟨h1,g1,d1,t1,o1⟩:=s
 have q0:=pz (M:=model prog w) I
 have q1:=looks_mroIn (M:=model prog w) X hm
 refine codeAny_call_builtin KF.slot_gs.plain KF.entry_gs (KF.slot_gs.check _ _ _ _ _ _ _ _ KF.type_class
  (KF.args_gs _ _ _) ?_)
 unfold Builtin.«getset_descriptor.__get__»
 unfold descrGet
 rw[dga_obj]
 refine wpAny_bind (wpAny_pure ?_)
 unfold descrGetter descrCheckInstance
 unfold descrNameAndClass isInstance
 simp only[KF.owner_class]
 repeat lk
 refine⟨Code.quiet_builtin _ (by decide +kernel),
  codeAny_builtin KF.entry_class ?_⟩
 unfold Builtin.«object.__class__»
 unfold shownTypeOf
 repeat lk
 exact h
structure ExF(K:Frag)(D:Addr): Prop where
 ga:findIn K (.ref D) "__getattribute__"=some (some (.builtin "BaseException.__getattribute__"))
 gr:findIn K (.ref D) "__getattr__"=some none
 at_:findIn K (.ref D) "__class__"=some (some (.builtin "object.__class__"))
 sp:specialIn K (.builtin "object.__class__") "__get__"=some (some (.builtin "getset_descriptor.__get__"))
 tk:takesIn K (.builtin "object.__class__")=some true
 ob:mroIn K D (.type "object")=some true
 be:mroIn K D (.type "BaseException")=some true
theorem ExF.cls(f:ExF K D): (clsIn K D).isSome=true:=by
 have o:=f.ob
 unfold mroIn at o
 cases q:clsIn K D with
 | none=>rw[q]at o;cases o
 | some _=>rfl
theorem tz{M:Model}{h:Heap}{g:Array GenState}{d:Drawn}{t:Nat}{os:OsState}{nameV:Value}{Q:Unit→Shared→Prop}(X:K.In h)(I:Of h x D)(f:ExF K D)(hq:Q () ⟨h,g,d,t,os⟩): wpAny M A (checkBuiltinCall "BaseException.__getattribute__" ⟨[.ref x,nameV],[]⟩) Q E ⟨h,g,d,t,os⟩:=by
 have k1:builtinKind "BaseException.__getattribute__"=some .slot:=by decide +kernel
 have k2:splitId "BaseException.__getattribute__"=some ("BaseException","__getattribute__"):=by decide +kernel
 have k3:=PySem.F.args_bexc_ga (.ref x) nameV
 have k4:Looks M h (isInstance (.ref x) (.type "BaseException")) true:=(pz (M:=M) I).andThen (looks_subIn X f.be)
 simp only[checkBuiltinCall,k1,k2]
 refine wpAny_bind (k4.at ?_)
 repeat(first|exact hq|wp_step)
theorem tF{h:Heap}{g:Array GenState}{d:Drawn}{t:Nat}{os:OsState}{tk:Tok}{Q:PySem.Fin→Shared→Prop}(X:K.In h)(I:Of h x D)(f:ExF K D)
  (hq:Q (.done (.ret (.ref D))) ⟨h,g,d,t,os⟩):wpAny (model prog w) A (Builtin.«object.__getattribute__» ⟨[.ref x,.str "__class__" tk],[]⟩) Q E ⟨h,g,d,t,os⟩:=by
 have k0:=pz (M:=model prog w) I
 have k1:=wP (M:=model prog w) (x:=x) X f.at_ f.sp f.tk
 refine wpAny_bind (wpAny_pure (wpAny_bind (wpAny_pure (wpAny_bind (k0.at (wpAny_bind (k1.at ?_)))))))
 show wpAny _ _ (holding [Value.builtin "object.__class__"] (call (.builtin "getset_descriptor.__get__") [.builtin "object.__class__",.ref x,.ref D]) >>= ret) _ _ _
 exact wpAny_bind (wpAny_holding (wpAny_call (yc (s:=⟨h,g,d,t,os⟩) X I f.ob (wpAny_pure hq))))
theorem tE{Q:Option Value→Shared→Prop}(X:K.In s.heap)(I:Of s.heap x D)(f:ExF K D)(h:Q (some (.ref D)) { s with toks:=s.toks+1 }): wpAny (model prog w) A (getAttr? (.ref x) "__class__") Q E s:=by
 obtain⟨h1,g1,d1,t1,o1⟩:=s
 have k0:=pz (M:=model prog w) I
 have k1:=looks_findIn (M:=model prog w) X f.ga
 have k2:=looks_findIn (M:=model prog w) X f.gr
 unfold getAttr? getAttrBy? getAttrBy
 refine wpAny_bind (wpAny_mkText (wpAny_bind (wpAny_attempt (wpAny_holding (wpAny_bind (k0.at (wpAny_bind (k1.at ?_))))))))
 have k3:(Value.builtin "BaseException.__getattribute__"== Value.builtin "object.__getattribute__")=false:=by decide +kernel
 dsimp only
 rw[k3,Bool.and_false,if_neg (by decide)]
 unfold getAttrByItsOwn
 refine wpAny_bind (show wpAny _ _ (typeLookup (.ref D) "__getattr__") _ _ _ from k2.at ?_)
 refine wpAny_bind (wpAny_attempt (wpAny_holding ?_))
 show wpAny _ _ (boundAndCalled (.builtin "BaseException.__getattribute__") (.ref x) (.str "__class__" t1)) _ _ _
 have k4:=PySem.F.excAttr_ValueError.ga.bind (.ref x)
 have fin:codeAny (model prog w) A (.call (.builtin "BaseException.__getattribute__") ⟨[.ref x,.str "__class__" t1],[]⟩) (λr s'=>r = .ok (.ret (.ref D))∧s'=⟨h1,g1,d1,t1+1,o1⟩) ⟨h1,g1,d1,t1+1,o1⟩:=
  codeAny_call_builtin PySem.F.excAttr_ValueError.ga.plain PySem.F.entry_bexc_ga (tz X I f (tF X I f ⟨rfl,rfl⟩))
 unfold boundAndCalled
 rw[k4]
 refine wpAny_bind (wpAny_pure ?_)
 refine wpAny_call (codeAny_mono fin λr s' z=> ?_)
 obtain⟨rfl,rfl⟩:=z
 exact handed_on rfl (wpAny_pure h)
theorem rH{h:Heap}(X:K.In h)(f:ExF K D): ∃c' d' cd sl,h.get? D=some ⟨c',d',.cls cd,sl⟩:=by
 obtain⟨cd0,q⟩:=Option.isSome_iff_exists.mp f.cls
 unfold clsIn at q
 split at q
 ·rename_i c' d' cd' sl' ho
  exact⟨c',d',cd',sl',X _ _ ho⟩
 ·cases q
theorem vc(f:ExF K D): KitX K (.ref x) (.ref D) (λh=>Of h x D) where
 ty:=λ_ _ _ I=>pz I
 it:=λ_ _ X _=>by
  obtain⟨_,_,_,_,o⟩:=rH X f
  intro A1 Q1 E1 s1 k1 q1
  unfold isType
  unfold loadHead
  exact wpAny_bind (wpAny_loadPart (k1 _ _ o) (wpAny_pure q1))
 ne:=λh tp dd its n sl X htp=>Bool.eq_false_iff.mpr λq=>by
  obtain⟨_,_,_,_,o⟩:=rH X f
  cases beq_iff_eq.mp q
  rw[o]at htp
  cases htp
 ca:=λX I k=>tE X I f k
end
end XR
namespace XR
open PySem PySem.Spec PyProof.Rows L2 FL
theorem mC{X:Cx}{C:Addr}{k:Bool}{cv:V}{c:Value}(f:ExF X.K C)(hc:∀u,RelV cv u→u=c)(hk:PySem.W.kitOne X.K (.ref C) c=some k):
  CallR X (.builtin "isinstance") (λvs H Q=>∃v,vs=[v,cv]∧Is X.K H v (.exn C)∧Q (.bl k) H):=by
 intro pins s σ H xs us Q I r h
 obtain⟨v,rfl,h,q⟩:=h
 obtain⟨u,w',rfl,rx,ry⟩:=vals2 r
 obtain rfl:=hc _ ry
 obtain⟨a,o,rfl,e1,e2⟩:=h.exn_inv
 obtain rfl:u=Value.ref a:=rx
 obtain⟨e3,_⟩:=(show ObjOk X.prog X.w H s.heap a (.frz o (.own a))from I.hok a _ e1)
 exact PySem.W.kia_one (vc f) I.kIn ⟨o,e3,e2⟩ hk (λz=>nomatch z) λtk=>⟨.bl k,H,I.tok tk,rfl,q⟩
section
variable {X : Cx} {a : Expr} {ρ : Ro} {pos : Pos} {C C' : Addr} {k : Bool}
theorem eN{x:Str}{p p2:Pos}(hm:X.mg "isinstance"=none)(ha:Ev X a ρ (.exn C))(hmC:X.mg x=some (.ref C'))(f:ExF X.K C)(hk:PySem.W.kitOne X.K (.ref C) (.ref C')=some k)
  (hg:Gl X "isinstance":= by rfl) (hgT:Gl X x:=by rfl) (hd:(x==("__debug__": Str))=false:=by decide)
  (he:starEach [a,.Name x p2] X.env=[(false,eval a X.env),(false,eval (.Name x p2) X.env)]:=by rfl) (hb:(backTo pos (starEach [.Name x p2] X.env)).any (·.1)=false:=by rfl) :
  Ev X (.Call (.Name "isinstance" p) [a,.Name x p2] [] pos) ρ (.bl k):=
 fb (mC (cv:=.ref C') f (λu z=>z) hk) hm (by decide +kernel) (ad ha (ad (d:=.ob C') (PE.imp (pe_glob hgT hmC (v:=.ref C') rfl hd) λ_ H _ ⟨_,q⟩=>q _ H (Same.refl H) (.ob C')) ae) he) (λvs H Q h q=>by
  obtain⟨v,v',rfl,h1,h2⟩:=ol h
  cases h2.ob_inv
  exact⟨v,rfl,h1,q _ H (Same.refl H) (.bl k)⟩) hg (by decide) (by decide) he hb
end
end XR
namespace XR
open PySem PySem.Spec PyProof.Rows L2 FL
theorem jG{K:PySem.W.Frag}{C:Addr}{b:Bool}(h:PySem.W.mroIn K C (.type "ValueError")=some b): PySem.W.kitOne K (.ref C) (.type "ValueError")=some b:=by
 show(if (Value.ref C==Value.type "ValueError")=true then some true else PySem.W.kitCls K (.ref C) (.type "ValueError"))=some b
 rw[if_neg (by intro z;cases beq_iff_eq.mp z)]
 show(if PySem.W.kitMeta "ValueError"=true then PySem.W.subIn K (.ref C) (.type "ValueError")else none)=some b
 rw[if_pos (by decide +kernel)]
 exact h
section
variable {X : Cx} {a c : Expr} {ρ : Ro} {pos : Pos} {C : Addr} {k : Bool}
theorem uQ{x:Str}{U:String}{p p2:Pos}(hm:X.mg "isinstance"=none)(ha:Ev X a ρ (.exn C))(hmT:X.mg x=none)(hv:bootBuiltins x=some (.type U))(f:ExF X.K C)(hk:PySem.W.kitOne X.K (.ref C) (.type U)=some k)
  (hg:Gl X "isinstance":= by rfl) (hgT:Gl X x:=by rfl) (hn:x≠ "__name__":= by decide) (hd:(x==("__debug__": Str))=false:=by decide)
  (he:starEach [a,.Name x p2] X.env=[(false,eval a X.env),(false,eval (.Name x p2) X.env)]:=by rfl) (hb:(backTo pos (starEach [.Name x p2] X.env)).any (·.1)=false:=by rfl) :
  Ev X (.Call (.Name "isinstance" p) [a,.Name x p2] [] pos) ρ (.bl k):=
 fb (mC (cv:=.ty U) f (λu z=>z) hk) hm (by decide +kernel) (ad ha (ad (xA hmT hv hgT hn hd) ae) he) (λvs H Q h q=>by
  obtain⟨v,v',rfl,h1,h2⟩:=ol h
  cases h2.ty_inv
  exact⟨v,rfl,h1,q _ H (Same.refl H) (.bl k)⟩) hg (by decide) (by decide) he hb
theorem uO{x:Str}{C':Addr}{p2:Pos}(hm:X.mg x=some (.ref C'))(hg:Gl X x:=by rfl)(hd:(x==("__debug__": Str))=false:=by decide): Ev X (.Name x p2) ρ (.ob C'):=
 PE.imp (pe_glob hg hm (v:=.ref C') rfl hd) λ_ H _ ⟨_,q⟩=>q _ H (Same.refl H) (.ob C')
end
end XR
namespace XR
open PySem PySem.Spec PyProof.Rows L2 FL
section
variable {X : Cx} {e a b c : Expr} {es : List Expr} {ρ : Ro} {d : D} {ds : List D} {pos : Pos} {C : Addr}
end
section
variable {M : Model} {A : Around} {E : Value → Shared → Prop} {s : Shared} {env : Env}
def zW(M:Model)(A:Around)(E:Value→Shared→Prop)(Q:Value→Shared→Prop)(acc:Value)(cenv:Env)(r:Result)(s':Shared): Prop:=
 match r with
 | .ok _=>∃m,s'.heap.Ns cenv.locals m∧∀h',Heap.SameBut cenv.locals s'.heap h'→Q acc { s' with heap:=h' }
 | .error x=>∃m,s'.heap.Ns cenv.locals m∧∀h',Heap.SameBut cenv.locals s'.heap h'→wpAny M A (PySem.passOn "comprehension.variables-let-go" x cenv:Sem Value) (λ_ _=>False) E { s' with heap:=h' }
theorem yW{e:Expr}{scope:Scope}{pos:Pos}{newAcc first:Sem Value}{g:Comprehension}{gs:List Comprehension}{cl:List (Str×Addr)}{Q:Value→Shared→Prop}
  (hcl:clausesOf e=g::gs) (hs:∀x,foldedSetIterable g.iter env x=pure x) (hclos:closureFor scope env=pure cl) (hkind:scope.kind = .function) (hnames:∀x∈scope.names,x.2 = .local→scope.names.lookup x.1=some .local)
  (h:wpAny M A first (λx s₁=>wpAny M A (pyIter x) (λit s₂=>wpAny M A newAcc (λacc s₃=>wpAny M A (newFunctionEnv scope env.globals cl [] env.qual none .none (some env)) (λcenv s₄=>
   codeAny M A (.compStart e 0 it acc { cenv with scope:=relabel scope env }) (zW M A E Q acc { cenv with scope:=relabel scope env }) s₄) E s₃) E s₂) E s₁) E s) :
  wpAny M A (comprehension e scope env pos newAcc false first none) Q E s:=by
 unfold comprehension
 rw[hclos,hcl]
 refine wpAny_bind (wpAny_mono h (λx s₁ h₁=>wpAny_bind (wpAny_standAt (wpAny_bind (wpAny_of_eq (hs x) (wpAny_bind (wpAny_holding (wpAny_mono h₁ (λit s₂ h₂=>wpAny_standIf (wpAny_bind (wpAny_mono h₂ (λacc s₃ h₃=>
  wpAny_bind (wpAny_pure (wpAny_bind (wpAny_mono h₃ (λcenv s₄ h₄=> ?_) λ_ _ h'=>h')))) λ_ _ h'=>h'))) λ_ _ h'=>h'))))))) λ_ _ h'=>h')
 dsimp only
 have hv:∀y∈(scope.names.filter λy=>(y.2 == .local || y.2 == .cell)&&y.1 != (".0": Str)).reverse,y.2 = .local→Env.kindOf { cenv with scope:=relabel scope env } y.1=some .local:=
  λy hy hl=>lookup_relabel_local (hnames y (List.mem_filter.mp (List.mem_reverse.mp hy)).1 hl)
 refine wpAny_holding (wpAny_bind (wpAny_attempt (wpAny_holding (wpAny_run (codeAny_mono h₄ λr s' hr=> ?_)))))
 cases r with
 | ok f=>
  obtain⟨m,hn,hr⟩:=(show ∃m,s'.heap.Ns cenv.locals m∧∀h',Heap.SameBut cenv.locals s'.heap h'→Q acc { s' with heap:=h' } from hr)
  exact wpAny_bind (wpAny_holding (wpAny_comp_letGo (cenv:={ cenv with scope:=relabel scope env }) hkind _ s' m hv hn λh' m' _ hs'=>wpAny_pure (hr h' hs')))
 | error y=>
  obtain⟨m,hn,hr⟩:=(show ∃m,s'.heap.Ns cenv.locals m∧∀h',Heap.SameBut cenv.locals s'.heap h'→wpAny M A (PySem.passOn "comprehension.variables-let-go" y { cenv with scope:=relabel scope env }:Sem Value) (λ_ _=>False) E { s' with heap:=h' } from hr)
  exact wpAny_bind (wpAny_holding (wpAny_comp_letGo (cenv:={ cenv with scope:=relabel scope env }) hkind _ s' m hv hn λh' m' _ hs'=>wpAny_mono (hr h' hs') (λ_ _ f=>f.elim) λ_ _ z=>z))
end
section
variable {prog : Program} {w : World} {A : Around} {R : Result → Shared → Prop} {s : Shared}
end
end XR
namespace XR
open PySem PySem.Spec PyProof.Rows L2 FL
end XR
namespace XR
open PySem PySem.Spec PyProof.Rows L2 FL
section
variable {X : Cx} {e a b c : Expr} {es : List Expr} {ρ : Ro} {d : D} {ds : List D} {pos p1 p2 : Pos} {C : Addr}
end
end XR
namespace FL
open PySem PySem.Spec PyProof.Rows L2
section
variable {X : Cx} {a b : Expr} {ρ : Ro} {x y : Str} {i : Int} {p1 p2 pos : Pos}
end
end FL
namespace FL
open PySem PySem.Spec PyProof.Rows L2
section
variable {X : Cx} {a b e tg : Expr} {ρ : Ro} {x y : Str} {i : Int} {p1 p2 pos : Pos}
end
end FL
namespace FL
open PySem PySem.Spec PyProof.Rows L2
section
variable {X : Cx} {a b c e : Expr} {ρ : Ro} {x y z : Str} {i : Int} {p1 p2 pos : Pos}
end
end FL
namespace RD
open PySem PySem.NumText PyProof.Rows FL
end RD
namespace RD
open PySem PySem.NumText PyProof.Rows FL
end RD
namespace RD
open PySem PySem.NumText PyProof.Rows FL
end RD
namespace CM
open PySem PySem.Spec L2 FL FT FU
abbrev yw:List Value:=[Value.type "ValueError",Value.type "Exception",Value.type "BaseException",Value.type "object"]
end CM
namespace FL
open PySem PySem.Spec PyProof.Rows L2
section
variable {X : Cx} {a b : Expr} {ρ : Ro} {pos : Pos} {i : Int} {ds : List D}
end
end FL
namespace CM
open PySem PySem.Spec L2 FL FT FU RD PySem.NumText
end CM
namespace FL
open PySem PySem.Spec PyProof.Rows L2
end FL
namespace CM
open PySem PySem.Spec L2 FL FT FU RD XR
theorem yU:bootBuiltins "ValueError"=some (.type "ValueError"):=by decide +kernel
structure EcF(K:PySem.W.Frag)(C:Addr): Prop where
 x:ExF K C
 t:PySem.W.typeIn K (.ref C)=some (.type "type")
 s:PySem.W.mroIn K C (.ref C)=some true
 v:PySem.W.mroIn K C (.type "ValueError")=some true
end CM
namespace CM
open PySem PySem.Spec L2 FL FT FU RD PySem.NumText PyProof.Rows
end CM
namespace XR
open PySem PySem.Spec PyProof.Rows L2 FL
abbrev aH:List D→D→Prop:=λ_ _=>False
section
variable {X : Cx} {e a b c iter elt tg : Expr} {es ifs : List Expr} {ρ : Ro} {d : D} {ds : List D} {pos p1 p2 : Pos} {rest A : List Stmt} {Pp : Po}
theorem lH(h:Rs X e ρ)(he:starEach [e] X.env=[(false,eval e X.env)]:=by rfl): Rs X (.List [e] pos) ρ:=Rs.of (PE.imp (pe_lst (wX h he)) λ_ _ _ r=>r)
theorem pU{scope:Scope}{cl:List (Str×Addr)}(h:Rs X iter ρ)(hclos:closureFor scope X.env=pure cl)(hkind:scope.kind = .function:=by rfl)(hnames:scope.names.all (λy=> !(y.2 == .local) || (scope.names.lookup y.1==some .local))=true:=by rfl)
  (hs:∀x,foldedSetIterable iter X.env x=pure x:=by intro _;rfl):Rs X (.ListComp elt [⟨tg,iter,ifs,0⟩] scope pos) ρ:=by
 intro pins s σ H Q I r
 rw[eval_ListComp]
 exact yW rfl hs hclos hkind (λy hy z=>by
  have:=List.all_eq_true.mp hnames y hy
  rw[z]at this
  simpa using this) (h pins s σ H _ I r)
theorem wn(h:Rs X iter ρ)(hs:∀x,foldedSetIterable iter X.env x=pure x:=by intro _;rfl): Do X (.For tg iter A [] pos::rest) ρ Pp:=by
 intro pins s σ H D I ⟨r,_⟩
 refine wpAny_execs_cons ?_
 exact wpAny_For (h pins s σ H _ I r) hs
end
section
variable {P : Program} {w : World} {K : PySem.W.Frag} {mg : Str → Option Value} {base : Heap}
theorem ay{x qual:Str}{st:Stmt}{f:Addr}{fd:FuncData}{N ps:List Str}{k:Nat}{Px:List D→Addr→Prop}(F:Fun K x qual st f fd)(S:FnScope N ps (defScope st))(hm:mg x=some (.ref f))(hb:Binds K fd ps [])
  (hlx:∀ds C,Px ds C→ds.length=ps.length∧∀d∈ds,aR d=none)
  (hthr:∀(cdv:Value) (A:Around) (outer:List Env) (s:Shared) (H:Hp) (E:XK),Room k (A.deeper (envOfC qual (defScope st) s.heap.objs.size f cdv))→∀ds C,Px ds C→Thr (cxX P w K mg base N qual st f cdv A outer s H E) C→
   Do (cxX P w K mg base N qual st f cdv A outer s H E) (defBody st) (nV N ds) { nx:=λ_=>False,rt:=λ_=>False }):aG P w K mg base (k+1) x aH Px:=
 ⟨f,fd,ps,xW F S (λ_ _ h=>h.elim) hlx (λ_ _ _ _ _ _ _ _ _ h=>h.elim) hthr,hm,F.kp,hb⟩
end
end XR
namespace CM
open PySem PySem.Spec L2 FL FT FU XR MD
structure Ex23(K:PySem.W.Frag)(mg:Str→Option Value)(cl:Nat→Addr): Prop where
 q:∀k,k<6→PySem.W.excIn K (cl k) yw "ValueError.__new__"=true
 m0:mg "NotAForm"=some (.ref (cl 0))
 m1:mg "NotATurning"=some (.ref (cl 1))
 m2:mg "NoBar"=some (.ref (cl 2))
 m3:mg "OtherBar"=some (.ref (cl 3))
 m4:mg "NotBare"=some (.ref (cl 4))
 m5:mg "OutOfBounds"=some (.ref (cl 5))
 mv:mg "ValueError"=none
 x:∀k,k<6→ExF K (cl k)
 e:∃CE:Addr,mg "FormError"=some (.ref CE)∧∀k,k<6→PySem.W.exmOne K (.ref (cl k)) (.ref CE)=some true∧PySem.W.kitOne K (.ref (cl k)) (.ref CE)=some true
 w:∃Cw:Addr,mg "NotWritten"=some (.ref Cw)∧∀k,k<6→PySem.W.kitOne K (.ref (cl k)) (.ref Cw)=some false
 v:∀k,k<6→PySem.W.kitOne K (.ref (cl k)) (.type "ValueError")=some true
 k:∀i j,i<6→j<6→PySem.W.kitOne K (.ref (cl i)) (.ref (cl j))=some (decide (i=j))
def uh:D→Option Bool
 | .int _=>some true
 | .bl _=>some false
 | .str _=>some false
 | .non=>some false
 | .fl _=>some false
 | .tup _=>some false
 | _=>none
theorem pf{K:PySem.W.Frag}: PySem.W.kitOne K (.type "str") (.type "int")=some false:=iY (by decide +kernel) (by decide +kernel) (by decide +kernel)
theorem pb{K:PySem.W.Frag}: PySem.W.kitOne K (.type "NoneType") (.type "int")=some false:=iY (by decide +kernel) (by decide +kernel) (by decide +kernel)
theorem nY{K:PySem.W.Frag}: PySem.W.kitOne K (.type "list") (.type "int")=some false:=iY (by decide +kernel) (by decide +kernel) (by decide +kernel)
theorem mm{K:PySem.W.Frag}: PySem.W.kitOne K (.type "tuple") (.type "int")=some false:=iY (by decide +kernel) (by decide +kernel) (by decide +kernel)
theorem mj{K:PySem.W.Frag}: PySem.W.kitOne K (.type "str") (.type "tuple")=some false:=iY (by decide +kernel) (by decide +kernel) (by decide +kernel)
theorem mh{K:PySem.W.Frag}: PySem.W.kitOne K (.type "NoneType") (.type "tuple")=some false:=iY (by decide +kernel) (by decide +kernel) (by decide +kernel)
theorem lg{K:PySem.W.Frag}: PySem.W.kitOne K (.type "list") (.type "tuple")=some false:=iY (by decide +kernel) (by decide +kernel) (by decide +kernel)
def eP(ds:List D)(d:D): Prop:=∃(e:D) (b:Bool),ds=[e]∧uh e=some b∧d = .bl b
theorem om{d:D}{b:Bool}(h:uh d=some b): aR d=none:=by
 cases d<;>first|rfl|cases h
def d7(ds:List D)(d:D): Prop:=∃(e:D) (n:Nat),ds=[e,.int (n:Int)]∧((∃(es:List D) (bs:List Bool),e = .tup es∧es.length≤1000∧es.map uh=bs.map some∧d = .bl (decide (es.length=n)&&bs.all id))∨((e = .non∨(∃x,e = .str x)∨∃es,e = .fl es)∧d = .bl false))
inductive BadF:D→Prop
 | lst (es:List D):BadF (.fl es)
 | non:BadF .non
 | str (x:Str):BadF (.str x)
 | tup {es:List D} {bs:List Bool} (hl:es.length≤10) (hw:es.map uh=bs.map some) (h:(decide (es.length=3)&&bs.all id)=false):BadF (.tup es)
 | num {a b c:Int} (ha:Bd a 8000) (hb:Bd b 8000) (hc:Bd c 8000) (h:¬(0<a∧b*b-4*a*c<0)):BadF (ar a b c)
inductive BadT:D→Prop
 | lst (es:List D):BadT (.fl es)
 | non:BadT .non
 | tup {es:List D} {bs:List Bool} (hl:es.length≤10) (hw:es.map uh=bs.map some) (h:(decide (es.length=4)&&bs.all id)=false):BadT (.tup es)
 | num {p q r s:Int} (hp:Bd p 1000) (hq:Bd q 1000) (hr:Bd r 1000) (hs:Bd s 1000) (h:¬p*s-q*r=1):BadT (dj p q r s)
inductive BadW:D→Prop
 | of {d:D} (h:uh d=some false):BadW d
inductive BadB:D→Prop
 | of {d:D} (h:uh d=some false):BadB d
 | num {i:Int} (h:¬(i<0∧(i%4=0∨i%4=1))):BadB (.int i)
theorem BadF.own{d:D}(h:BadF d): aR d=none:=by cases h<;>rfl
theorem BadT.own{d:D}(h:BadT d): aR d=none:=by cases h<;>rfl
theorem BadW.own{d:D}(h:BadW d): aR d=none:=by cases h with|of h=>exact om h
theorem BadB.own{d:D}(h:BadB d): aR d=none:=by
 cases h with
 | of h=>exact om h
 | num h=>rfl
def lC(ds:List D)(d:D): Prop:=∃e,ds=[e]∧BadF e∧d = .bl false
def ir(ds:List D)(d:D): Prop:=∃e,ds=[e]∧BadT e∧d = .bl false
def mM(ds:List D)(d:D): Prop:=∃e,ds=[e]∧BadB e∧d = .bl false
def gB(lo hi:Int)(d:D): Prop:=BadW d∨∃i,d = .int i∧(i<lo∨hi<i)
theorem gB.own{lo hi:Int}{d:D}(h:gB lo hi d): aR d=none:=by
 rcases h with h|⟨i,rfl,_⟩
 ·exact h.own
 ·rfl
def xl(lo i:Int): Prop:=i<0∧(i%4=0∨i%4=1)∧lo≤i
def sU(lo:Int)(d:D): Prop:=BadB d∨∃i,d = .int i∧i<0∧(i%4=0∨i%4=1)∧i<lo
theorem sU.own{lo:Int}{d:D}(h:sU lo d): aR d=none:=by
 rcases h with h|⟨i,rfl,_⟩
 ·exact h.own
 ·rfl
abbrev la(a b c:Int): Nat:=Int.gcd (Int.gcd a b) c
def gv(a b c:Int): Int:=b*b-4*a*c
def gz(C0:Addr)(ds:List D)(C:Addr): Prop:=∃d,ds=[d]∧BadF d∧C=C0
def yJ(C0:Addr)(ds:List D)(C:Addr): Prop:=∃d e,ds=[d,e]∧BadF d∧aR e=none∧C=C0
def yI(C0:Addr)(ds:List D)(C:Addr): Prop:=∃d,ds=[d]∧BadT d∧C=C0
def yH(C0:Addr)(ds:List D)(C:Addr): Prop:=∃d,ds=[d]∧BadB d∧C=C0
def qd(lo:Int)(C0:Addr)(ds:List D)(C:Addr): Prop:=∃d,ds=[d]∧sU lo d∧C=C0
def xD(lo:Int)(C0:Addr)(ds:List D)(C:Addr): Prop:=∃d e,ds=[d,e]∧sU lo d∧aR e=none∧C=C0
def bL(C0:Addr)(ds:List D)(C:Addr): Prop:=∃d lo,ds=[d,.int lo]∧sU lo d∧C=C0
def sQ(C0:Addr)(ds:List D)(C:Addr): Prop:=∃d,ds=[d]∧BadW d∧C=C0
def fB(C0:Addr)(ds:List D)(C:Addr): Prop:=∃d lo hi,ds=[d,.int lo,.int hi]∧gB lo hi d∧C=C0
def g7(C0:Addr)(ds:List D)(C:Addr): Prop:=∃a b c,ds=[ar a b c]∧FormN a b c∧la a b c≠1∧C=C0
def v5(C0:Addr)(ds:List D)(C:Addr): Prop:=∃a b c x y z,ds=[ar a b c,ar x y z]∧FormN a b c∧FormN x y z∧gv a b c≠gv x y z∧C=C0
def lY(cl:Nat→Addr)(ds:List D)(C:Addr): Prop:=yJ (cl 0) ds C∨∃a b c t,ds=[ar a b c,t]∧FormN a b c∧BadT t∧C=cl 1
def qf(cl:Nat→Addr)(ds:List D)(C:Addr): Prop:=∃t u,ds=[t,u]∧C=cl 1∧((BadT t∧aR u=none)∨∃p q r s,t=dj p q r s∧TurnN p q r s∧BadT u)
def v6(cl:Nat→Addr)(ds:List D)(C:Addr): Prop:=yJ (cl 0) ds C∨∃a b c d,ds=[ar a b c,d]∧FormN a b c∧BadF d∧C=cl 0
def jt(cl:Nat→Addr)(ds:List D)(C:Addr): Prop:=v6 cl ds C∨∃a b c x y z,ds=[ar a b c,ar x y z]∧FormN a b c∧FormN x y z∧
 ((gv a b c≠gv x y z∧C=cl 3)∨(gv a b c=gv x y z∧la a b c≠1∧C=cl 4)∨(gv a b c=gv x y z∧la a b c=1∧la x y z≠1∧C=cl 4))
def lX(cl:Nat→Addr)(ds:List D)(C:Addr): Prop:=yJ (cl 0) ds C∨∃a b c d,ds=[ar a b c,d]∧FormN a b c∧gB 0 10000 d∧C=cl 5
def iQ(cl:Nat→Addr)(ds:List D)(C:Addr): Prop:=gz (cl 0) ds C∨g7 (cl 4) ds C
def fZ(cl:Nat→Addr)(ds:List D)(C:Addr): Prop:=yJ (cl 0) ds C∨∃a b c d,ds=[ar a b c,d]∧FormN a b c∧aR d=none∧((la a b c≠1∧C=cl 4)∨(la a b c=1∧gB (-1000) 1000 d∧C=cl 5))
def kK(cl:Nat→Addr)(ds:List D)(C:Addr): Prop:=gz (cl 0) ds C∨∃a b c,ds=[ar a b c]∧FormN a b c∧((gv a b c < -4000∧C=cl 2)∨(-4000≤gv a b c∧la a b c≠1∧C=cl 4))
def cJ(lo:Int)(cl:Nat→Addr)(ds:List D)(C:Addr): Prop:=gz (cl 0) ds C∨∃a b c,ds=[ar a b c]∧FormN a b c∧((la a b c≠1∧C=cl 4)∨(la a b c=1∧gv a b c<lo∧C=cl 2))
def rC(cl:Nat→Addr)(ds:List D)(C:Addr): Prop:=xD (-4000) (cl 2) ds C∨∃i d,ds=[.int i,d]∧xl (-4000) i∧gB 0 10000 d∧C=cl 5
def iR(cl:Nat→Addr)(ds:List D)(C:Addr): Prop:=(∃d e,ds=[d,e]∧BadB d∧aR e=none∧C=cl 2)∨∃i d,ds=[.int i,d]∧i<0∧(i%4=0∨i%4=1)∧C=cl 5∧(gB 1 10000 d∨∃n:Int,d = .int n∧1≤n∧n≤10000∧Int.gcd i n≠1)
def wb(i:Int)(d:D): Prop:=gB 3 10000 d∨∃n:Nat,d = .int (n:Int)∧3≤n∧n≤10000∧(PF n≠[n]∨i%(n:Int)=0)
theorem wb.own{i:Int}{d:D}(h:wb i d): aR d=none:=by
 rcases h with h|⟨n,rfl,_⟩
 ·exact h.own
 ·rfl
def xF(cl:Nat→Addr)(ds:List D)(C:Addr): Prop:=∃i d,ds=[.int i,d]∧wb i d∧C=cl 5
def ot(cl:Nat→Addr)(ds:List D)(C:Addr): Prop:=xD (-1000000) (cl 2) ds C∨∃i d,ds=[.int i,d]∧xl (-1000000) i∧wb i d∧C=cl 5
end CM
namespace XR
open PySem PySem.Spec PyProof.Rows L2 FL
def uj(P:Program)(w:World)(K:PySem.W.Frag)(mg:Str→Option Value)(base:Heap)(k:Nat)(x:Str)(i:Int)(Px:List D→Addr→Prop): Prop:=
 ∃f fd ps dv,FnOk P w K mg base (qk P w base) k f fd ps (yC K aH Px)∧mg x=some (.ref f)∧PySem.W.keepIn K (.ref f)=true∧Binds K fd ps []∧Binds K fd ps [dv]∧RelV (.int i) dv
section
variable {P : Program} {w : World} {K : PySem.W.Frag} {mg : Str → Option Value} {base : Heap}
theorem wE{x qual:Str}{st:Stmt}{f:Addr}{fd:FuncData}{dv:Value}{i:Int}{N ps:List Str}{k:Nat}{Px:List D→Addr→Prop}(F:FunD K x qual st f fd dv)(S:FnScope N ps (defScope st))(hm:mg x=some (.ref f))(hb:Binds K fd ps [])(hb2:Binds K fd ps [dv])(hv:RelV (.int i) dv)
  (hlx:∀ds C,Px ds C→ds.length=ps.length∧∀d∈ds,aR d=none)
  (hthr:∀(cdv:Value) (A:Around) (outer:List Env) (s:Shared) (H:Hp) (E:XK),Room k (A.deeper (envOfC qual (defScope st) s.heap.objs.size f cdv))→∀ds C,Px ds C→Thr (cxX P w K mg base N qual st f cdv A outer s H E) C→
   Do (cxX P w K mg base N qual st f cdv A outer s H E) (defBody st) (nV N ds) { nx:=λ_=>False,rt:=λ_=>False }):uj P w K mg base (k+1) x i Px:=by
 refine⟨f,fd,ps,dv,?_,hm,F.kp,hb,hb2,hv⟩
 obtain⟨oc,od,dA,kV,doc,pm,an,cdv,ct,osl,rfl,lk,hcd⟩:=F.ex
 refine fn_of lk hcd S (λvs H Q E h=> ?_) λA outer s H vs Q E hr h=> ?_
 ·obtain⟨ds,h1,⟨d,h2,_⟩|⟨C,h2,_⟩⟩:=h
  ·exact h2.elim
  ·rw[h1.length];exact(hlx ds C h2).1
 ·obtain⟨ds,h1,⟨d,h2,q⟩|⟨C,h2,q⟩⟩:=h
  ·exact h2.elim
  ·refine⟨_,hthr cdv A outer s H E hr ds C h2 (sN q),?_⟩
   exact⟨bb (X:=cxX P w K mg base N qual st f cdv A outer s H E) h1 (hlx ds C h2).2,λ_ _ _ _ _ z=>z.elim,λ_ _ _ _ _ _ z=>z.elim,λ_ _ _ _ _ z=>z.elim,λ_ _ _ _ _ z=>z.elim⟩
end
section
variable {X : Cx} {e a b c : Expr} {es : List Expr} {ρ : Ro} {d : D} {ds : List D} {pos : Pos} {C : Addr}
theorem pQ{k:Nat}{x:Str}{i:Int}{Px:List D→Addr→Prop}{p:Pos}(G:uj X.prog X.w X.K X.mg X.base k x i Px)(hr:Room k X.A)(ha:gx X (e::es) ρ ds)(hp:Px (ds++[.int i]) C)(ht:jO X C ρ)(hg:Gl X x:=by rfl)(hdb:(x==("__debug__": Str))=false:=by decide)
  (he:starEach (e::es) X.env=(false,eval e X.env)::starEach es X.env:=by rfl) (hpl:(backTo pos (starEach es X.env)).any (·.1)=false:=by rfl):Rs X (.Call (.Name x p) (e::es) [] pos) ρ:=by
 intro pins s σ H Q I rs
 obtain⟨f,fd,ps,dv,F,hm,hk,_,hb,rv⟩:=G
 refine wpAny_Call_Name_kw (ld_glob I hg hm ?_ hdb)
 refine PySem.W.callWith_K (h₀:=X.base) I.ok.mod.kin hk (thn (ha pos pins s σ H (λvs H1=>Same H H1∧IsAll X.K H1 vs ds) I ⟨rs.e,λvs H' s1 h1=>⟨s1,h1⟩⟩) λus s1 ⟨vs,H1,I1,r,sm,hv⟩=>⟨I1.kIn,?_⟩) he hpl
 have sp:yC X.K aH Px (vs++[V.int i]) H1 (λ_ _=>False) (λc _ H'=>c = .ref C∧Same H1 H'):=⟨ds++[.int i],hv.append (.cons (.int i) .nil),.inr ⟨C,hp,λH' s'=>⟨rfl,s'⟩⟩⟩
 have r2:Vals (vs++[V.int i]) (us++[dv]):=Vals.append r (.cons rv .nil)
 have hl:(us++[dv]).length=ps.length:=by rw[← r2.length];exact F.len _ _ _ _ sp
 have hb1:=hb s1 us I1.kIn hl
 refine wpAny_call (codeAny_mono (F.run X.A X.stack s1 H1 ⟨us,[]⟩ (us++[dv]) (vs++[V.int i]) (λ_ _=>False) (λc _ H'=>c = .ref C∧Same H1 H') hr I1.env0 hb1 r2 sp) λr s' hq=> ?_)
 cases r with
 | error e=>
  obtain⟨C',H2,e',rfl,Fl,z,sm2⟩:=(show qk X.prog X.w X.base X.stack H1 s1 (λc _ H'=>c = .ref C∧Same H1 H') e s' from hq)
  cases z
  exact ht pins σ H1 s1 H2 e' s' I1 (rs.mono sm) sm2 Fl
 | ok fl=>
  cases fl with
  | ret u=>obtain⟨_,_,_,_,_,_,_,z⟩:=(show CE X.stack X.prog X.w H1 s1 (λ_ _=>False) u s' from hq);exact z.elim
  | next=>exact False.elim hq
  | brk=>exact False.elim hq
  | cont=>exact False.elim hq
end
structure RoomS(k:Nat)(A:Around): Prop where
 dp:A.depth+3*k+5<recursionLimit
 un:A.units+16*k+200<cLine
theorem RoomS.of{k:Nat}{A:Around}(r:Room k A)(hd:Option Value): RoomS k (A.mark hd):=⟨r.dp,r.un⟩
structure FnSOk(P:Program)(w:World)(K:PySem.W.Frag)(mg:Str→Option Value)(base:Heap)(k:Nat)(f:Addr)(fd:FuncData)(ps:List Str)(sp:Sp): Prop where
 len:∀vs H Q E,sp vs H Q E→vs.length=ps.length
 run:∀(A:Around) (outer:List Env) (s:Shared) (H:Hp) (args:Args) (us:List Value) (vs:List V) (Q:VK),RoomS k A→Env0 P w K mg base A outer s H→BindsTo s fd args (ps.zip us)→Vals vs us→sp vs H Q (λ_ _ _=>False)→
  codeAny (model P w) A (.call (.ref f) args) (λr s'=>match r with | .ok (.ret u)=>CE outer P w H s Q u s'|_=>False) s
def zD(P:Program)(w:World)(K:PySem.W.Frag)(mg:Str→Option Value)(base:Heap)(k:Nat)(x:Str)(Pf:List D→List D→Prop): Prop:=
 ∃f fd ps,FnSOk P w K mg base k f fd ps (zT K Pf)∧mg x=some (.ref f)∧PySem.W.keepIn K (.ref f)=true∧Binds K fd ps []
abbrev zG(P:Program)(w:World)(K:PySem.W.Frag)(mg:Str→Option Value)(base:Heap)(N:List Str)(qual:Str)(st:Stmt)(f:Addr)(cdv:Value)(A:Around)(outer:List Env)(s:Shared)(H:Hp): Cx:=
 { cxOf CX0 P w K mg base N qual (defScope st) f cdv A outer s H (λ_ _ _=>False)with calm:=false,xe:=λ_ _=>False }
section
variable {P : Program} {w : World} {K : PySem.W.Frag} {mg : Str → Option Value} {base : Heap}
theorem xV{x qual:Str}{st:Stmt}{f:Addr}{fd:FuncData}{N ps:List Str}{k:Nat}{Pf:List D→List D→Prop}(F:Fun K x qual st f fd)(S:FnScope N ps (defScope st))(hm:mg x=some (.ref f))(hb:Binds K fd ps [])
  (hl:∀ds es,Pf ds es→ds.length=ps.length∧∀d∈ds,aR d=none)
  (hbody:∀(cdv:Value) (A:Around) (outer:List Env) (s:Shared) (H:Hp),∀ds es,Pf ds es→
   Do (zG P w K mg base N qual st f cdv A outer s H) (defBody st) (nV N ds) { nx:=λ_=>False,rt:=λd'=>∃l,d' = .lst l es }):zD P w K mg base (k+1) x Pf:=by
 refine⟨f,fd,ps,⟨λvs H Q E h=> ?_,λA outer s H args us vs Q hr e0 hbb r hsp=> ?_⟩,hm,F.kp,hb⟩
 ·obtain⟨ds,es,h1,h2,_⟩:=h
  rw[h1.length]
  exact(hl ds es h2).1
 ·obtain⟨oc,od,kV,doc,pm,an,cdv,ct,osl,rfl,lk,hcd⟩:=F.ex
  obtain⟨ds,es,h1,h2,q⟩:=hsp
  have hl':vs.length=ps.length:=by rw[h1.length];exact(hl ds es h2).1
  have KX:K.In s.heap:=e0.mod.kin.keeps λb o e=>(e0.bs b o e).1
  have lim:s.heap.NoLimit:=e0.mod.nolimit.keeps λb o e=>(e0.bs b o e).1
  have hkind:∀y∈ps.zip us,(defScope st).names.lookup y.1=some .local∨((defScope st).names.lookup y.1=some .cell∧((cellsFrom (s.heap.objs.size+1) (defScope st).names []).lookup y.1).isSome=true):=λ⟨n,v⟩ hy=>by
   rcases S.par n (List.of_mem_zip hy).1 with q|q
   ·exact .inl q
   ·exact .inr ⟨q,PySem.W.cellsFrom_some _ _ _ (.inl q)⟩
  have hdp:A.depth<recursionLimit:=by have:=hr.dp;omega
  refine codeAny_call_function hdp (KX _ _ lk) rfl S.co S.gen rfl (PySem.W.codeRec_of KX hcd) (hbb _ _ _ _ ?_)
  refine wpAny_newFunctionEnv_cells S.kind hkind λenv he s1 x=> ?_
  subst he
  refine⟨lim.keeps x.toInCall.keep,codeAny_func ?_⟩
  have e1:Env0 P w K mg base { A with handled:=none } outer s H:=⟨e0.frames,e0.mod,e0.bs,e0.bsz,e0.funs,e0.frf,e0.hok,e0.bare⟩
  have I0:Inv (cxOf CX0 P w K mg base N qual (defScope st) f cdv { A with handled:=none } outer s H (λ_ _ _=>False)) [] (L2.start N vs) H s1:=inv_start S rfl e1 hl' r x
  have I:Inv (zG P w K mg base N qual st f cdv A outer s H) [] (L2.start N vs) H s1:=
   ⟨⟨I0.ok.mod,I0.ok.kind,I0.ok.glob,I0.ok.blt,I0.ok.above,I0.ok.inj,I0.ok.has,I0.ok.cab,λz=>(nomatch z),I0.ok.frames,I0.ok.stk,I0.ok.exf,I0.ok.bs,I0.ok.bsz,I0.ok.noex,I0.ok.exfs,I0.ok.funs,I0.ok.frf⟩,I0.os,I0.bare,I0.base,I0.loc,I0.cell,I0.free,I0.freeC,I0.pin,I0.hok,I0.len⟩
  have fin:∀ {σ':L2.St} {H':Hp} {v:V} {u:Value} {s':Shared},Inv (zG P w K mg base N qual st f cdv A outer s H) [] σ' H' s'→RelV v u→Q v H'→CE outer P w H s Q u s':=λ{σ' H' v u s'} J rv q=>⟨v,H',J.os,J.bare,J.base,J.hok,rv,q⟩
  refine wpAny_mono (hbody cdv A outer s H ds es h2 [] s1 (L2.start N vs) H { nx:=λ_ _=>False,rt:=Q,bk:=λ_ _=>False,ct:=λ_ _=>False } I ⟨bb (X:=zG P w K mg base N qual st f cdv A outer s H) h1 (hl ds es h2).2,λ_ _ _ _ _ z=>z.elim,λv H' d' sm hv fr z=> ?_,λ_ _ _ _ _ z=>z.elim,λ_ _ _ _ _ z=>z.elim⟩) (λfl s' hs=> ?_) λ_ _ z=>False.elim z
  ·obtain⟨l,z⟩:∃l,d' = .lst l es:=z
   subst z
   obtain⟨rfl,us',a1,a2⟩:=hv.lst_inv
   exact q l us' H' (fr l rfl) sm a1 a2
  ·cases fl with
   | ret u=>
    obtain⟨v,σ',H',J,rv,q⟩:=hs
    exact fin J rv q
   | next=>obtain⟨_,_,_,q⟩:=hs;exact False.elim q
   | brk=>obtain⟨_,_,_,q⟩:=hs;exact False.elim q
   | cont=>obtain⟨_,_,_,q⟩:=hs;exact False.elim q
end
section
variable {X : Cx} {e : Expr} {es : List Expr} {ρ : Ro} {ds fs : List D} {pos : Pos}
theorem tq{k:Nat}{x:Str}{Pf:List D→List D→Prop}{p:Pos}(G:zD X.prog X.w X.K X.mg X.base k x Pf)(hr:RoomS k X.A)(ha:gx X (e::es) ρ ds)(hp:Pf ds fs)(hg:Gl X x:=by rfl)(hdb:(x==("__debug__": Str))=false:=by decide)
  (he:starEach (e::es) X.env=(false,eval e X.env)::starEach es X.env:=by rfl) (hpl:(backTo pos (starEach es X.env)).any (·.1)=false:=by rfl):iS X (.Call (.Name x p) (e::es) [] pos) ρ fs:=by
 intro pins s σ H Q I ⟨rs,q⟩
 obtain⟨f,fd,ps,F,hm,hk,hb⟩:=G
 refine wpAny_Call_Name_kw (ld_glob I hg hm ?_ hdb)
 refine PySem.W.callWith_K (h₀:=X.base) I.ok.mod.kin hk (thn (ha pos pins s σ H (λvs H1=>Same H H1∧IsAll X.K H1 vs ds) I ⟨rs,λvs H' s1 h1=>⟨s1,h1⟩⟩) λus s1 ⟨vs,H1,I1,r,sm,hv⟩=>⟨I1.kIn,?_⟩) he hpl
 have sp:zT X.K Pf vs H1 (λv H'=>∃a us,v=V.ref a∧H1 a=none∧Same H1 H'∧H' a=some (.lst us)∧IsAll X.K H' us fs) (λ_ _ _=>False):=⟨ds,fs,hv,hp,λa us H' h0 s' h1 h2=>⟨a,us,rfl,h0,s',h1,h2⟩⟩
 have hl:(us++[]).length=ps.length:=by rw[List.append_nil,← r.length];exact F.len _ _ _ _ sp
 have hb1:=hb s1 us I1.kIn hl
 rw[List.append_nil]at hb1
 refine wpAny_call (codeAny_mono (F.run X.A X.stack s1 H1 ⟨us,[]⟩ us vs _ hr I1.env0 hb1 r sp) λr s' hq=> ?_)
 cases r with
 | error e=>exact False.elim hq
 | ok fl=>
  cases fl with
  | ret u=>
   obtain⟨v,H2,I2,rv,a,us',rfl,h0,sm2,h1,h2⟩:=I1.after hq
   exact⟨.ref a,H2,I2,rv,q a us' H2 (sm.free h0) (sm.trans sm2) h1 h2⟩
  | next=>exact False.elim hq
  | brk=>exact False.elim hq
  | cont=>exact False.elim hq
end
end XR
namespace XR
open PySem PySem.Spec PyProof.Rows L2 FL
section
variable {X : Cx} {e a b c : Expr} {es : List Expr} {ρ : Ro} {d : D} {ds : List D} {pos p1 : Pos} {C : Addr}
theorem cB{j:Nat}(ha:gx X es ρ ds)(hb:Ev X b ρ (.int (j:Int)))(hj:ds[j]?=some d)(hl:ds.length≤1000:=by exact Nat.le_of_ble_eq_true rfl)(hs:PlainIx b:=by exact λ_ _=>rfl): Ev X (.Subscript (.List es p1) b pos) ρ d:=qJ (iS.ev (aQ ha hl)) rfl hb (atI_nat hj) hs
theorem pR{k:Nat}{x:Str}{Pf:List D→D→Prop}{Px:List D→Addr→Prop}{p:Pos}{Rs':List D→Prop}(G:aG X.prog X.w X.K X.mg X.base k x Pf Px)(hr:Room k X.A)(ha:ql X (e::es) ρ Rs')(hp:∀ds,Rs' ds→Px ds C)(ht:jO X C ρ)(hg:Gl X x:=by rfl)(hdb:(x==("__debug__": Str))=false:=by decide)
  (he:starEach (e::es) X.env=(false,eval e X.env)::starEach es X.env:=by rfl) (hpl:(backTo pos (starEach es X.env)).any (·.1)=false:=by rfl):Rs X (.Call (.Name x p) (e::es) [] pos) ρ:=by
 intro pins s σ H Q I rs
 obtain⟨f,fd,ps,F,hm,hk,hb⟩:=G
 refine wpAny_Call_Name_kw (ld_glob I hg hm ?_ hdb)
 refine PySem.W.callWith_K (h₀:=X.base) I.ok.mod.kin hk (thn (ha pos pins s σ H (λvs H1=>∃ds,Rs' ds∧Same H H1∧IsAll X.K H1 vs ds) I ⟨rs.e,λds vs H' x1 s1 h1=>⟨ds,x1,s1,h1⟩⟩) λus s1 ⟨vs,H1,I1,r,ds,x1,sm,hv⟩=>⟨I1.kIn,?_⟩) he hpl
 have sp:yC X.K Pf Px vs H1 (λ_ _=>False) (λc _ H'=>c = .ref C∧Same H1 H'):=⟨ds,hv,.inr ⟨C,hp ds x1,λH' s'=>⟨rfl,s'⟩⟩⟩
 have hl:(us++[]).length=ps.length:=by rw[List.append_nil,← r.length];exact F.len _ _ _ _ sp
 have hb1:=hb s1 us I1.kIn hl
 rw[List.append_nil]at hb1
 refine wpAny_call (codeAny_mono (F.run X.A X.stack s1 H1 ⟨us,[]⟩ us vs (λ_ _=>False) (λc _ H'=>c = .ref C∧Same H1 H') hr I1.env0 hb1 r sp) λr s' hq=> ?_)
 cases r with
 | error e=>
  obtain⟨C',H2,e',rfl,Fl,z,sm2⟩:=(show qk X.prog X.w X.base X.stack H1 s1 (λc _ H'=>c = .ref C∧Same H1 H') e s' from hq)
  cases z
  exact ht pins σ H1 s1 H2 e' s' I1 (rs.mono sm) sm2 Fl
 | ok fl=>
  cases fl with
  | ret u=>obtain⟨_,_,_,_,_,_,_,z⟩:=(show CE X.stack X.prog X.w H1 s1 (λ_ _=>False) u s' from hq);exact z.elim
  | next=>exact False.elim hq
  | brk=>exact False.elim hq
  | cont=>exact False.elim hq
end
end XR
namespace CM
open PySem PySem.Spec L2 FL FT FU XR MD
def Mo(m:Int): Prop:=0≤m∧m<10^12
theorem i0{m:Int}(h:Mo m): Bd m 64:=by
 refine Bd.of_lt ?_
 obtain⟨h0,h1⟩:=h
 have:(10:Int)^12=1000000000000:=by decide
 have:(2:Nat)^64=18446744073709551616:=by decide
 omega
theorem vL{i:Int}(h:i.natAbs<2^64): Bd i 64:=Bd.of_lt h
theorem pv{m i:Int}(h:Mo m)(h1:-(20*m+1000000000)≤i)(h2:i≤20*m+1000000000): Bd i 1000:=by
 refine Bd.up (vL ?_) _ (by decide)
 obtain⟨h0,hm⟩:=h
 have:(10:Int)^12=1000000000000:=by decide
 have:(2:Nat)^64=18446744073709551616:=by decide
 omega
theorem fK{m a b c:Int}(h:Mo m)(a1:0<a)(a2:a≤20*m+1000000000)(b1:-(20*m+1000000000)≤b)(b2:b≤20*m+1000000000)(c1:-(20*m+1000000000)≤c)(c2:c≤20*m+1000000000)(hb:b*b-4*a*c<0): FormN a b c:=
 ⟨a1,hb,(pv h (by obtain⟨h0,_⟩:=h;omega) a2).up _ (by decide),(pv h b1 b2).up _ (by decide),(pv h c1 c2).up _ (by decide)⟩
theorem ll{m a b c:Int}(h:Mo m)(a1:-(20*m+1000000000)≤a)(a2:a≤20*m+1000000000)(b1:-(20*m+1000000000)≤b)(b2:b≤20*m+1000000000)(c1:-(20*m+1000000000)≤c)(c2:c≤20*m+1000000000)(hn:¬(0<a∧b*b-4*a*c<0)): BadF (ar a b c):=
 .num ((pv h a1 a2).up _ (by decide)) ((pv h b1 b2).up _ (by decide)) ((pv h c1 c2).up _ (by decide)) hn
def n5(ds:List D): Prop:=∃c m:Int,ds=[.int c,.int m]∧Mo m
def lF(_:List D)(d:D): Prop:=BadF d∧Fz d
def vV(cl:Nat→Addr)(ds:List D)(C:Addr): Prop:=∃(k:Nat) (d:D),ds=[.int (k:Int),d]∧(k≤10∨k=18∨k=19)∧BadF d∧C=cl 0
def vW(cl:Nat→Addr)(ds:List D)(C:Addr): Prop:=∃(k:Nat) (d:D),ds=[.int (k:Int),d]∧11≤k∧k≤17∧BadF d∧C=cl 0
def rB(cl:Nat→Addr)(ds:List D)(C:Addr): Prop:=∃(k:Nat) (d:D),ds=[.int (k:Int),d]∧k≤10∧(BadB d∨k<5∧sU (-4000) d)∧C=cl 2
def v4(cl:Nat→Addr)(ds:List D)(C:Addr): Prop:=∃(k:Nat) (m:Int),ds=[.int (k:Int),.int m]∧k≤11∧Mo m∧C=cl 2
def v3(cl:Nat→Addr)(ds:List D)(C:Addr): Prop:=∃(k:Nat),ds=[.int (k:Int),.int 5000]∧k≤9∧C=cl 4
def vZ(cl:Nat→Addr)(ds:List D)(C:Addr): Prop:=∃(k:Nat) (m:Int),ds=[.int (k:Int),.int m]∧k≤9∧Mo m∧C=cl 5
def xE(cl:Nat→Addr)(ds:List D)(C:Addr): Prop:=∃(k w:Nat) (m:Int),ds=[.int (k:Int),.int (w:Int),.int m]∧k<6∧w<1000∧¬(k=0∧w%21=20)∧Mo m∧C=cl k
def iA(k:Nat): List D:=[.bl true,.bl (decide (k=0)),.bl (decide (k=1)),.bl (decide (k=2)),.bl (decide (k=3)),.bl (decide (k=4)),.bl (decide (k=5)),.bl false,.bl true]
def sy(cl:Nat→Addr)(ds es:List D): Prop:=∃k,ds=[.exn (cl k)]∧k<6∧es=iA k
end CM
namespace CM
open PySem PySem.Spec L2 FL FT FU XR MD
def zI:Nat→D→Bool
 | _,.non=>true
 | _,.bl _=>true
 | _,.int _=>true
 | _,.str _=>true
 | n+1,.tup ds=>ds.all (zI n)
 | n+1,.fl ds=>ds.all (zI n)
 | _,_=>false
theorem dk:∀(n:Nat) (d:D),zI n d=true→Fz d:=by
 intro n
 induction n with
 | zero=>intro d h;cases d<;>first|exact .non|exact .bl _|exact .int _|exact .str _|cases h
 | succ n ih=>intro d h;cases d<;>first|exact .non|exact .bl _|exact .int _|exact .str _|exact .tup λd hd=>ih d (List.all_eq_true.mp h d hd)|exact .fl λd hd=>ih d (List.all_eq_true.mp h d hd)|cases h
theorem fzs{ds:List D}(h:ds.all (zI 4)=true): ∀d∈ds,Fz d:=λd hd=>dk 4 d (List.all_eq_true.mp h d hd)
end CM
namespace FL
open PySem PySem.Spec PyProof.Rows L2
structure Doo(X:Cx)(sts:List Stmt)(ρ:Ro)(P:Po): Prop where
 out:Do X sts ρ P
section
variable {X : Cx} {e : Expr} {ρ : Ro} {d : D} {ds : List D} {pos : Pos} {rest : List Stmt} {P : Po}
theorem gy{es r:List Expr}{m:Nat}(ha:Ev X (.Tuple es m pos) ρ d)(hr:gx X r ρ ds): gx X (.Tuple es m pos::r) ρ (d::ds):=ad ha hr rfl
theorem yE{es r:List Expr}(ha:Ev X (.List es pos) ρ d)(hr:gx X r ρ ds): gx X (.List es pos::r) ρ (d::ds):=ad ha hr rfl
theorem aF{c:Const}{r:List Expr}{m:Nat}(ha:Ev X (.Constant c m pos) ρ d)(hr:gx X r ρ ds): gx X (.Constant c m pos::r) ρ (d::ds):=ad ha hr rfl
theorem uI{op:UnaryOp}{a:Expr}{r:List Expr}(ha:Ev X (.UnaryOp op a pos) ρ d)(hr:gx X r ρ ds): gx X (.UnaryOp op a pos::r) ρ (d::ds):=ad ha hr rfl
theorem mD{op:Operator}{a b:Expr}{r:List Expr}(ha:Ev X (.BinOp a op b pos) ρ d)(hr:gx X r ρ ds): gx X (.BinOp a op b pos::r) ρ (d::ds):=ad ha hr rfl
theorem ug{a b:Expr}{r:List Expr}(ha:Ev X (.Subscript a b pos) ρ d)(hr:gx X r ρ ds): gx X (.Subscript a b pos::r) ρ (d::ds):=ad ha hr rfl
theorem ii{x:Str}{r:List Expr}(ha:Ev X (.Name x pos) ρ d)(hr:gx X r ρ ds): gx X (.Name x pos::r) ρ (d::ds):=ad ha hr rfl
theorem wv{f:Expr}{as:List Expr}{ks:List Keyword}{r:List Expr}(ha:Ev X (.Call f as ks pos) ρ d)(hr:gx X r ρ ds): gx X (.Call f as ks pos::r) ρ (d::ds):=ad ha hr rfl
theorem uG(n:Nat){x:Str}{pos':Pos}(he:iS X e ρ ds)(hz:∀d∈ds,Fz d)(h:∀l,¬Mu ρ l→Doo X rest (ρ.set n (some (.lst l ds))) P)(hN:X.N.Nodup)(hi:X.N[n]?=some x:=by rfl)(hx:Loc X.env.scope x:=by first|exact Or.inl rfl|exact Or.inr rfl)
  (hs:swapsWith e (some (.Name x pos')) pos.line X.env=pure false:=by rfl) (hf:X.fn x=true∨X.env.scope.names.lookup x=some .local:=by first|exact .inl rfl|exact .inr rfl):Doo X (.Assign [.Name x pos'] e pos::rest) ρ P:=
 ⟨iX n he hz (λl hl=>(h l hl).out) hN hi hx hs hf⟩
theorem wt(he:Ev X e ρ d)(h:P.rt d)(hn:∀a,aR d=some a→Mu ρ a:=by intro _ z;cases z): Doo X (.Return (some e) pos::rest) ρ P:=⟨ax he h hn⟩
end
end FL
namespace CM
open MD
theorem vz{n d:Nat}(h2:2≤d)(hd:d ∣ n)(hn:d≠n): PF n≠[n]:=λz=>by
 have hp:=(um n (by rw[z];simp)).1
 rcases hp.2 d hd with z1|z1
 ·omega
 ·exact hn z1
end CM
namespace FM
open PySem PySem.Spec PyProof.Rows L2 FL XR
abbrev xM(P:Program)(w:World)(K:PySem.W.Frag)(mg:Str→Option Value)(base:Heap)(p x y:Str)(qual:Str)(scope:Scope)(f:Addr)(cd:Value)(cX cY:Addr)(A:Around)(outer:List Env)(s:Shared)(H:Hp)(E:XK): Cx:=
 { FM.cxX P w K mg base p x y qual scope f cd cX cY A outer s H with xe:=λe s'=>wpAny (model P w) (A.deeper (qG qual scope s.heap.objs.size f cd [(x,cX),(y,cY)])) (leaving (qG qual scope s.heap.objs.size f cd [(x,cX),(y,cY)]) e) (λ_ s''=>qk P w base outer H s E e s'') (λe' s''=>qk P w base outer H s E e' s'') s' }
section
variable {P : Program} {w : World} {K : PySem.W.Frag} {mg : Str → Option Value} {base : Heap}
theorem uy{nm qn p x y:Str}{ppos:Pos}{ibody:List Stmt}{sc:Scope}{dx dy d0:D}{g Ce:Addr}{k:Nat}{A:Around}{outer:List Env}{s:Shared}{H:Hp}{u:Value}{v:V}
  (S:ScX p x y sc) (hr:Room (k+1) A) (e0:Env0 P w K mg base A outer s H) (C:yB K H g nm qn ⟨[],[⟨p,none,ppos⟩],none,[],[],none,[]⟩ ibody sc x y dx dy) (ru:RelV v u) (hv:Is K H v d0) (own:aR d0=none) (fx:Fz dx) (fy:Fz dy)
  (hbind:∀(cl:List (Str×Addr)) (T:Addr) (pm cd doc u:Value),bindArgs (uf nm qn ⟨[],[⟨p,none,ppos⟩],none,[],[],none,[]⟩ ibody sc cl T pm cd doc) ⟨[u],[]⟩=pure [(p,u)])
  (hbody:∀(cd:Value) (cX cY:Addr) (H:Hp) (E:XK),Room k (A.deeper (qG qn sc s.heap.objs.size g cd [(x,cX),(y,cY)]))→(∀ρ,jO (xM P w K mg base p x y qn sc g cd cX cY A outer s H E) Ce ρ)→
   Do (xM P w K mg base p x y qn sc g cd cX cY A outer s H E) ibody [some d0,some dx,some dy] { nx:=λ_=>False,rt:=λ_=>False }) :
  codeAny (model P w) A (.call (.ref g) ⟨[u],[]⟩) (CR (qk P w base) outer P w H s (λ_ _=>False) (λc _ H'=>c = .ref Ce∧Same H H')) s:=by
 obtain⟨c',T,cX,cY,o',oX,oY,pm,doc,uX,uY,vX,vY,a1,a2,⟨cvs,ct,cd1,cd2⟩,a4,a5,a6,a7,a8,a9,a10,a11,a12⟩:=C
 have og:s.heap.get? g=some (wj (uf nm qn ⟨[],[⟨p,none,ppos⟩],none,[],[],none,[]⟩ ibody sc [(x,cX),(y,cY)] T pm (.ref c') doc)):=(e0.hok g _ a1).1
 have oc:s.heap.get? c'=some o':=(e0.hok c' _ a2).1
 have gX:s.heap.get? cX=some oX:=(e0.hok cX _ a5).1
 have gY:s.heap.get? cY=some oY:=(e0.hok cY _ a7).1
 have lim:s.heap.NoLimit:=e0.mod.nolimit.keeps λb o e=>(e0.bs b o e).1
 obtain⟨H0,hH0⟩:∃H0:Hp,H0=λb=>if b=cX∨b=cY then none else H b:=⟨_,rfl⟩
 have z1:H0 cX=none:=by rw[hH0];exact if_pos (.inl rfl)
 have z2:H0 cY=none:=by rw[hH0];exact if_pos (.inr rfl)
 have z3:∀b,b≠cX→b≠cY→H0 b=H b:=λb n1 n2=>by rw[hH0];exact if_neg λz=>z.elim n1 n2
 have z4:∀b o,H0 b=some o→H b=some o∧b≠cX∧b≠cY:=λb o e=>by
  have n1:b≠cX:=λz=>by rw[z,z1]at e;cases e
  have n2:b≠cY:=λz=>by rw[z,z2]at e;cases e
  exact⟨by rw[← z3 b n1 n2];exact e,n1,n2⟩
 have z5:∀b,H b=none→H0 b=none:=λb n=>by
  by_cases h1:b=cX
  ·rw[h1];exact z1
  by_cases h2:b=cY
  ·rw[h2];exact z2
  rw[z3 b h1 h2]
  exact n
 have sx:aO H H0:=λb o e n=>by
  rw[z3 b (λz=>by rw[z,a5]at e;cases e;exact n.2 _ _ rfl) (λz=>by rw[z,a7]at e;cases e;exact n.2 _ _ rfl)]
  exact e
 have hok0:HOk P w H0 s.heap:=λb o e=>by
  obtain⟨e1,n1,n2⟩:=z4 b o e
  refine(e0.hok b o e1).stay (λ_ _ _ z=>z) (λc z=> ?_) λc xs z=>sx c _ z (qY xs)
  rw[z3 c (λw=>by rw[w,a5]at z;cases z) (λw=>by rw[w,a7]at z;cases z)]
  exact z
 have e1:Env0 P w K mg base A outer s H0:=⟨e0.frames,e0.mod,λb o e=>⟨(e0.bs b o e).1,z5 b (e0.bs b o e).2⟩,e0.bsz,e0.funs,λb hb=>z5 b (e0.frf b hb),hok0,e0.bare⟩
 refine codeAny_call_function hr.depth og rfl S.co S.gen rfl ⟨c',o',cvs,ct,rfl,oc,cd1,cd2⟩ (wpAny_of_eq (hbind _ _ _ _ _ _) ?_)
 refine wpAny_newFunctionEnv S.nocell (λy hy=> ?_) (λh' hn hs=> ?_) S.kind
 ·have hy':y=(p,u):=by simpa using hy
  subst hy'
  exact S.par
 have hk:∀b o,s.heap.get? b=some o→h'.get? b=some o:=λb o e=>(hs.2 b (Nat.ne_of_lt (Heap.lt_size e))).trans (Heap.get?_push_of_some _ e)
 refine⟨lim.keeps hk,codeAny_func ?_⟩
 have I0:Inv (FM.cxX P w K mg base p x y qn sc g (.ref c') cX cY A outer s H0) [] [some v,some vX,some vY] H0 { s with heap:=h',toks:=s.toks+[(p,u)].length }:=yq S hr.hd e1 ru a4 gX a6 gY a8 z1 z2 a9 a10 hn hk
 have I:Inv (xM P w K mg base p x y qn sc g (.ref c') cX cY A outer s H0 (λc _ H'=>c = .ref Ce∧Same H0 H')) [] [some v,some vX,some vY] H0 { s with heap:=h',toks:=s.toks+[(p,u)].length }:=
  ⟨⟨I0.ok.mod,I0.ok.kind,I0.ok.glob,I0.ok.blt,I0.ok.above,I0.ok.inj,I0.ok.has,I0.ok.cab,I0.ok.hd,I0.ok.frames,I0.ok.stk,I0.ok.exf,I0.ok.bs,I0.ok.bsz,I0.ok.noex,I0.ok.exfs,I0.ok.funs,I0.ok.frf⟩,I0.os,I0.bare,I0.base,I0.loc,I0.cell,I0.free,I0.freeC,I0.pin,I0.hok,I0.len⟩
 have v0:=wI sx hv
 have vx:=wI sx a11
 have vy:=wI sx a12
 have hrel:RelS (xM P w K mg base p x y qn sc g (.ref c') cX cY A outer s H0 (λc _ H'=>c = .ref Ce∧Same H0 H')) H0 H0 [some v,some vX,some vY] [some d0,some dx,some dy]:=by
  refine⟨Same.refl _,rfl,λi d' e=> ?_,λa ⟨i,d',e,z⟩=> ?_⟩
  ·match i,e with
   | 0,e=>cases e;exact⟨v,rfl,v0,.inr (.inl v0)⟩
   | 1,e=>cases e;exact⟨vX,rfl,vx,.inl fx⟩
   | 2,e=>cases e;exact⟨vY,rfl,vy,.inl fy⟩
   | n+3,e=>simp at e
  ·exfalso
   match i,e with
   | 0,e=>cases e;rw[own]at z;cases z
   | 1,e=>cases e;exact fx.no_own z
   | 2,e=>cases e;exact fy.no_own z
   | n+3,e=>simp at e
 have nofr:∀b,H b≠none→b∉frs outer:=λb hb z=>hb (e0.frf b z)
 have back:∀(ev:Value) (s':Shared),qk P w base outer H0 s (λc _ H'=>c = .ref Ce∧Same H0 H') ev s'→qk P w base outer H s (λc _ H'=>c = .ref Ce∧Same H H') ev s':=by
  rintro ev s' ⟨C1,H',e,rfl,Fl,hc,sm⟩
  have un:=Fl.un
  obtain⟨B,a0,b1,b2,b3,b4,fl⟩:=Fl.ex
  have fX:H' cX=none:=un.free cX oX gX z1 (by simp)
  have fY:H' cY=none:=un.free cY oY gY z2 (by simp)
  have kX:B.get? cX=some oX:=b3 cX oX gX z1 (nofr cX (by rw[a5];simp))
  have kY:B.get? cY=some oY:=b3 cY oY gY z2 (nofr cY (by rw[a7];simp))
  obtain⟨H5,hH5⟩:∃H5:Hp,H5=upd (upd H' cX (ma oX)) cY (ma oY):=⟨_,rfl⟩
  have at1:H5 cY=some (ma oY):=by rw[hH5,upd_same]
  have at2:H5 cX=some (ma oX):=by rw[hH5,upd_ne a4,upd_same]
  have at3:∀b u,H' b=some u→H5 b=some u:=λb u e=>by
   rw[hH5,upd_ne (λz=>by rw[z,fY]at e;cases e),upd_ne (λz=>by rw[z,fX]at e;cases e)]
   exact e
  have at4:∀b,b≠cX→b≠cY→H5 b=H' b:=λb n1 n2=>by rw[hH5,upd_ne n2,upd_ne n1]
  have s5:Same H H5:=λb o e=>by
   by_cases n1:b=cX
   ·subst n1;rw[a5]at e;cases e;exact at2
   by_cases n2:b=cY
   ·subst n2;rw[a7]at e;cases e;exact at1
   exact at3 b o (sm b o (by rw[z3 b n1 n2];exact e))
  refine⟨C1,H5,e,rfl,⟨Fl.os,Fl.bare,⟨λb o e n hb hx=>un.keep b o e (z5 b n) hb hx,λb o e n hb hx=>un.slot b o e (z5 b n) hb hx,λb o e n hx=> ?_,un.there,λb xs e=>s5 _ _ e,λb o u e=>s5 _ _ e,λb ps e=>⟨#[],by rw[s5 _ _ e];simp⟩⟩,B,a0,b1,λb o e=> ?_,λb o e n nf=>b3 b o e (z5 b n) nf,b4,fl⟩,hc,s5⟩
  ·rw[at4 b (λz=>by rw[z,a5]at n;cases n) (λz=>by rw[z,a7]at n;cases n)]
   exact un.free b o e (z5 b n) hx
  ·by_cases n2:b=cY
   ·subst n2
    rw[at1]at e
    cases e
    exact iK kY
   by_cases n1:b=cX
   ·subst n1
    rw[at2]at e
    cases e
    exact iK kX
   rw[at4 b n1 n2]at e
   exact(b2 b o e).stay (λ_ _ _ z=>z) (λc z=>at3 c _ z) λc xs z=>at3 c _ z
 have thr:∀ρ,jO (xM P w K mg base p x y qn sc g (.ref c') cX cY A outer s H0 (λc _ H'=>c = .ref Ce∧Same H0 H')) Ce ρ:=λρ pins σ H1 s1 H2 e s' I r sm2 F=>lh I rfl rfl rfl F λs'' F'=>⟨Ce,H2,e,rfl,F',rfl,r.same.trans sm2⟩
 refine wpAny_mono (hbody (.ref c') cX cY H0 _ (hr.deeper _) thr [] _ _ H0 { nx:=λ_ _=>False,rt:=λ_ _=>False } I ⟨hrel,λσ' H' ρ' _ r' z=>z.elim,λv H' d' sm hv _ z=>z.elim,λ_ _ _ _ _ z=>z.elim,λ_ _ _ _ _ z=>z.elim⟩) (λfl s' hs'=> ?_) λe s' hs'=>wpAny_mono hs' (λ_ s'' z=>back _ s'' z) λe' s'' z=>back _ s'' z
 cases fl with
 | ret u=>obtain⟨_,_,_,_,_,q⟩:=hs';exact False.elim q
 | next=>obtain⟨_,_,_,q⟩:=hs';exact False.elim q
 | brk=>obtain⟨_,_,_,q⟩:=hs';exact False.elim q
 | cont=>obtain⟨_,_,_,q⟩:=hs';exact False.elim q
end
def yQ(K:PySem.W.Frag)(Pl:Addr)(dp:Pos)(qn:Str)(Px:List D→Addr→Prop): Sp:=λvs H _ E=>∃ds C,IsAll K H vs ds∧Px ds C∧Tb H Pl dp qn∧∀H',aO H H'→Tb H' Pl dp qn→E (.ref C) none H'
def sR(P:Program)(w:World)(K:PySem.W.Frag)(mg:Str→Option Value)(base:Heap)(k:Nat)(x:Str)(Pl:Addr)(dp:Pos)(qn:Str)(Px:List D→Addr→Prop): Prop:=
 ∃f fd ps,FnOk P w K mg base (qk P w base) k f fd ps (yQ K Pl dp qn Px)∧mg x=some (.ref f)∧PySem.W.keepIn K (.ref f)=true∧Binds K fd ps []
def zU(K:PySem.W.Frag)(Pl:Addr)(dp:Pos)(qn:Str)(Pf:List D→List D→Prop): Sp:=λvs H Q _=>∃ds es,IsAll K H vs ds∧Pf ds es∧Tb H Pl dp qn∧∀v H',aO H H'→Tb H' Pl dp qn→Is K H' v (.ls es)→Q v H'
def wc(P:Program)(w:World)(K:PySem.W.Frag)(mg:Str→Option Value)(base:Heap)(k:Nat)(x:Str)(Pl:Addr)(dp:Pos)(qn:Str)(Pf:List D→List D→Prop): Prop:=
 ∃f fd ps,FnOk P w K mg base CX0 k f fd ps (zU K Pl dp qn Pf)∧mg x=some (.ref f)∧PySem.W.keepIn K (.ref f)=true∧Binds K fd ps []
def qm(X:Cx)(Pl:Addr)(dp:Pos)(qn:Str)(C:Addr)(ρ:Ro): Prop:=∀(pins:List (Addr×Obj)) (σ:L2.St) (H:Hp) (s:Shared) (H':Hp) (e:Addr) (s':Shared),L2.Inv X pins σ H s→RelE X H σ ρ→aO H H'→aO X.H₀ H'→Tb H' Pl dp qn→Flown X.prog X.w X.base X.stack H s C H' e s'→X.xe (.ref e) s'
theorem qm.on{X:Cx}{Pl:Addr}{dp:Pos}{qn:Str}{C:Addr}{ρ:Ro}(h:qm X Pl dp qn C ρ)(tb:Tb X.H₀ Pl dp qn): jO X C ρ:=λpins σ H s H' e s' I r sm F=>h pins σ H s H' e s' I r.e (.of sm) (.of (r.same.trans sm)) (tb.same (r.same.trans sm)) F
section
variable {P : Program} {w : World} {K : PySem.W.Frag} {mg : Str → Option Value} {base : Heap} {Pl : Addr} {dp : Pos} {qn : Str}
theorem oV{x qual:Str}{st:Stmt}{f:Addr}{fd:FuncData}{N ps:List Str}{k:Nat}{Px:List D→Addr→Prop}(F:Fun K x qual st f fd)(S:FnScope N ps (defScope st))(hm:mg x=some (.ref f))(hb:Binds K fd ps [])
  (hlx:∀ds C,Px ds C→ds.length=ps.length∧∀d∈ds,aR d=none)
  (hthr:∀(cdv:Value) (A:Around) (outer:List Env) (s:Shared) (H:Hp) (E:XK),Room k (A.deeper (envOfC qual (defScope st) s.heap.objs.size f cdv))→∀ds C,Px ds C→Tb H Pl dp qn→(∀ρ,qm (XR.cxX P w K mg base N qual st f cdv A outer s H E) Pl dp qn C ρ)→
   Do (XR.cxX P w K mg base N qual st f cdv A outer s H E) (defBody st) (nV N ds) { nx:=λ_=>False,rt:=λ_=>False }):sR P w K mg base (k+1) x Pl dp qn Px:=by
 refine⟨f,fd,ps,?_,hm,F.kp,hb⟩
 obtain⟨oc,od,kV,doc,pm,an,cdv,ct,osl,rfl,lk,hcd⟩:=F.ex
 refine fn_of lk hcd S (λvs H Q E h=> ?_) λA outer s H vs Q E hr h=> ?_
 ·obtain⟨ds,C,h1,h2,_⟩:=h
  rw[h1.length]
  exact(hlx ds C h2).1
 ·obtain⟨ds,C,h1,h2,tb,q⟩:=h
  refine⟨_,hthr cdv A outer s H E hr ds C h2 tb (λρ pins σ H1 s1 H2 e s' I r sm sx tb F=>lh I rfl rfl rfl F λs'' F'=>⟨C,H2,e,rfl,F',q H2 sx tb⟩),?_⟩
  exact⟨bb (X:=XR.cxX P w K mg base N qual st f cdv A outer s H E) h1 (hlx ds C h2).2,λ_ _ _ _ _ z=>z.elim,λ_ _ _ _ _ _ z=>z.elim,λ_ _ _ _ _ z=>z.elim,λ_ _ _ _ _ z=>z.elim⟩
end
section
variable {X : Cx} {Pl : Addr} {dp : Pos} {qn : Str} {e a b : Expr} {es : List Expr} {ρ : Ro} {ds fs : List D} {pos : Pos} {C : Addr}
theorem pS{k:Nat}{x:Str}{Px:List D→Addr→Prop}{p:Pos}{Rs':List D→Prop}(G:sR X.prog X.w X.K X.mg X.base k x Pl dp qn Px)(hr:Room k X.A)(ha:ql X (e::es) ρ Rs')(hp:∀ds,Rs' ds→Px ds C)(tb:Tb X.H₀ Pl dp qn)(ht:qm X Pl dp qn C ρ)(hg:Gl X x:=by rfl)(hdb:(x==("__debug__": Str))=false:=by decide)
  (he:starEach (e::es) X.env=(false,eval e X.env)::starEach es X.env:=by rfl) (hpl:(backTo pos (starEach es X.env)).any (·.1)=false:=by rfl):Rs X (.Call (.Name x p) (e::es) [] pos) ρ:=by
 intro pins s σ H Q I rs
 obtain⟨f,fd,ps,F,hm,hk,hb⟩:=G
 refine wpAny_Call_Name_kw (ld_glob I hg hm ?_ hdb)
 refine PySem.W.callWith_K (h₀:=X.base) I.ok.mod.kin hk (thn (ha pos pins s σ H (λvs H1=>∃ds,Rs' ds∧Same H H1∧IsAll X.K H1 vs ds) I ⟨rs.e,λds vs H' x1 s1 h1=>⟨ds,x1,s1,h1⟩⟩) λus s1 ⟨vs,H1,I1,r,ds,x1,sm,hv⟩=>⟨I1.kIn,?_⟩) he hpl
 have sp:yQ X.K Pl dp qn Px vs H1 (λ_ _=>False) (λc _ H'=>c = .ref C∧aO H1 H'∧Tb H' Pl dp qn):=⟨ds,C,hv,hp ds x1,tb.same (rs.same.trans sm),λH' s' t'=>⟨rfl,s',t'⟩⟩
 have hl:(us++[]).length=ps.length:=by rw[List.append_nil,← r.length];exact F.len _ _ _ _ sp
 have hb1:=hb s1 us I1.kIn hl
 rw[List.append_nil]at hb1
 refine wpAny_call (codeAny_mono (F.run X.A X.stack s1 H1 ⟨us,[]⟩ us vs (λ_ _=>False) (λc _ H'=>c = .ref C∧aO H1 H'∧Tb H' Pl dp qn) hr I1.env0 hb1 r sp) λr s' hq=> ?_)
 cases r with
 | error e=>
  obtain⟨C',H2,e',rfl,Fl,z,sx,t2⟩:=(show qk X.prog X.w X.base X.stack H1 s1 (λc _ H'=>c = .ref C∧aO H1 H'∧Tb H' Pl dp qn) e s' from hq)
  cases z
  exact ht pins σ H1 s1 H2 e' s' I1 (rs.mono sm).e sx ((aO.of (rs.same.trans sm)).trans sx) t2 Fl
 | ok fl=>
  cases fl with
  | ret u=>obtain⟨_,_,_,_,_,_,_,z⟩:=(show CE X.stack X.prog X.w H1 s1 (λ_ _=>False) u s' from hq);exact z.elim
  | next=>exact False.elim hq
  | brk=>exact False.elim hq
  | cont=>exact False.elim hq
theorem wY{k k2:Nat}{f:Addr}{fd:FuncData}{x0 mk nm p x y:Str}{ppos p1 p2 p3:Pos}{ibody:List Stmt}{sc:Scope}{Pf:D→D→D→Prop}{d0 dx dy d1:D}{ea eb:Expr}
  (F:FnOk X.prog X.w X.K X.mg X.base CX0 k f fd [x0] (SpM X.K Pl dp nm qn ⟨[],[⟨p,none,ppos⟩],none,[],[],none,[]⟩ ibody sc x y Pf)) (hm:X.mg mk=some (.ref f)) (hkp:PySem.W.keepIn X.K (.ref f)=true) (hb:Binds X.K fd [x0] [])
  (hr:Room k X.A) (ha:Ev X ea ρ d0) (hpf:Pf d0 dx dy) (he:Ev X eb ρ d1) (S:ScX p x y sc) (hr2:Room (k2+1) X.A) (own:aR d1=none) (fx:Fz dx) (fy:Fz dy)
  (hbind:∀(cl:List (Str×Addr)) (T:Addr) (pm cd doc u:Value),bindArgs (uf nm qn ⟨[],[⟨p,none,ppos⟩],none,[],[],none,[]⟩ ibody sc cl T pm cd doc) ⟨[u],[]⟩=pure [(p,u)])
  (tb:Tb X.H₀ Pl dp qn) (ht:qm X Pl dp qn C ρ)
  (hbody:∀(s:Shared) (g:Addr) (cd:Value) (cX cY:Addr) (H:Hp) (E:XK),Room k2 (X.A.deeper (qG qn sc s.heap.objs.size g cd [(x,cX),(y,cY)]))→(∀ρ,jO (xM X.prog X.w X.K X.mg X.base p x y qn sc g cd cX cY X.A X.stack s H E) C ρ)→
   Do (xM X.prog X.w X.K X.mg X.base p x y qn sc g cd cX cY X.A X.stack s H E) ibody [some d1,some dx,some dy] { nx:=λ_=>False,rt:=λ_=>False })
  (hg:Gl X mk:=by rfl) (hdb:(mk==("__debug__": Str))=false:=by decide) (he1:starEach [ea] X.env=[(false,eval ea X.env)]:=by rfl) (he2:starEach [eb] X.env=[(false,eval eb X.env)]:=by rfl) :
  Rs X (.Call (.Call (.Name mk p1) [ea] [] p2) [eb] [] p3) ρ:=by
 intro pins s σ H Q I rs
 have r:=rs.e
 have t:=tb.same rs.same
 have ee:eval (.Call (.Call (.Name mk p1) [ea] [] p2) [eb] [] p3) X.env=(do callWith p3 (← eval (.Call (.Name mk p1) [ea] [] p2) X.env) [] (backTo p3 (starEach [eb] X.env)) (backToKw p3 (keywordEach [] X.env))):=rfl
 rw[ee]
 refine wpAny_bind ?_
 have hin:=(pe_call F hr hg hm hkp hb .nil pass0 (ad ha ae he1) hdb he1 rfl:PE X (.Call (.Name mk p1) [ea] [] p2) _) pins s σ H (λv H1=>∃g,v=V.ref g∧aO H H1∧Tb H1 Pl dp qn∧yB X.K H1 g nm qn ⟨[],[⟨p,none,ppos⟩],none,[],[],none,[]⟩ ibody sc x y dx dy) I
  ⟨r,λvs H1 s1 h1=>⟨d0,dx,dy,by rw[List.append_nil];exact h1,hpf,t.same s1,λg H' sx tb cl=>⟨g,rfl,(aO.of s1).trans sx,tb,cl⟩⟩⟩
 refine thn hin λu s1 hu=> ?_
 obtain⟨v,H1,I1,rv,g,rfl,sx,tb,cl⟩:=hu
 obtain rfl:u=Value.ref g:=rv
 obtain⟨c',T,cX,cY,o',oX,oY,pm,doc,uX,uY,vX,vY,a1,arest⟩:=id cl
 refine qE (oc:=.type "function") (od:=none) (fd:=uf nm qn ⟨[],[⟨p,none,ppos⟩],none,[],[],none,[]⟩ ibody sc [(x,cX),(y,cY)] T pm (.ref c') doc) (osl:= #[]) ?_ he2 rfl
 refine thn ((ad he ae he2) p3 pins s1 σ H1 (λvs H2=>Same H1 H2∧IsAll X.K H2 vs [d1]) I1 ⟨tZ r sx,λvs H2 s2 h2=>⟨s2,h2⟩⟩) λus s2 hu=> ?_
 obtain⟨vs,H2,I2,rvs,sm2,hvs⟩:=hu
 obtain⟨v2,rfl,hv2⟩:=eO hvs
 obtain⟨u2,rfl,ru2⟩:=vals1 rvs
 refine⟨(I2.hok g _ (sm2 _ _ a1)).1,?_⟩
 refine wpAny_call (codeAny_mono (uy (Ce:=C) S hr2 I2.env0 (cl.same sm2) ru2 hv2 own fx fy hbind (λcd cX cY H0 E hrr th=>hbody s2 g cd cX cY H0 E hrr th)) λr s' hq=> ?_)
 cases r with
 | error e=>
  obtain⟨C',H3,e',rfl,Fl,z,sm3⟩:=(show qk X.prog X.w X.base X.stack H2 s2 (λc _ H'=>c = .ref C∧Same H2 H') e s' from hq)
  cases z
  exact ht pins σ H2 s2 H3 e' s' I2 ((tZ r sx).mono sm2) (.of sm3) ((aO.of rs.same).trans (sx.trans (.of (sm2.trans sm3)))) (tb.same (sm2.trans sm3)) Fl
 | ok fl=>
  cases fl with
  | ret u=>obtain⟨_,_,_,_,_,_,_,z⟩:=(show CE X.stack X.prog X.w H2 s2 (λ_ _=>False) u s' from hq);exact z.elim
  | next=>exact False.elim hq
  | brk=>exact False.elim hq
  | cont=>exact False.elim hq
theorem oT{k:Nat}{x:Str}{Pf:List D→List D→Prop}{p:Pos}(G:wc X.prog X.w X.K X.mg X.base k x Pl dp qn Pf)(hr:Room k X.A)(ha:gx X (e::es) ρ ds)(hp:Pf ds fs)(hg:Gl X x:=by rfl)(hdb:(x==("__debug__": Str))=false:=by decide)
  (he:starEach (e::es) X.env=(false,eval e X.env)::starEach es X.env:=by rfl) (hpl:(backTo pos (starEach es X.env)).any (·.1)=false:=by rfl):ue X Pl dp qn (.Call (.Name x p) (e::es) [] pos) ρ (.ls fs):=by
 obtain⟨f,fd,ps,F,hm,hk,hb⟩:=G
 exact PE.imp (pe_call F hr hg hm hk hb .nil pass0 ha hdb he hpl) λσ H Q ⟨r,t,q⟩=>⟨r,λvs H1 s1 h1=>⟨ds,fs,by rw[List.append_nil];exact h1,hp,t.same s1,λv H' sx tb h=>q v H' ((aO.of s1).trans sx) tb h⟩⟩
def tGT(X:Cx)(Pl:Addr)(dp:Pos)(qn:Str)(ρ:Ro)(k:Bool): TT:=λσ H Q=>RelE X H σ ρ∧Tb H Pl dp qn∧∀H',aO H H'→Tb H' Pl dp qn→Q k H'
def EtG(X:Cx)(Pl:Addr)(dp:Pos)(qn:Str)(e:Expr)(ρ:Ro)(k:Bool): Prop:=PT X e (tGT X Pl dp qn ρ k)
theorem ww{op:CmpOp}{r:R2}{d1 d2:D}{k:Bool}(ho:OpR X (compareOp op) r)(ha:ue X Pl dp qn a ρ d1)(hb:ue X Pl dp qn b ρ d2)(hm:behindInMarks op b=false)
  (hr:∀v1 v2 H Q,Is X.K H v1 d1→Is X.K H v2 d2→(∀v H',Same H H'→Is X.K H' v (.bl k)→Q v H')→r v1 v2 H Q):EtG X Pl dp qn (.Compare a [op] [b] pos) ρ k:=
 PT.imp (pt_cmpR ho ha hb hm) λσ H Q ⟨r,t,q⟩=>⟨r,t,λv1 H1 s1 t1 h1=>⟨tZ r s1,t1,λv2 H2 s2 t2 h2=>hr v1 v2 H2 _ (wI s2 h1) h2 λv H' s3 h3=>⟨k,h3.bl_inv,q H' (s1.trans (s2.trans (.of s3))) (t2.same s3)⟩⟩⟩
end
end FM
namespace FM
open PySem PySem.Spec PyProof.Rows L2 FL XR
section
variable {X : Cx} {pins pins' : List (Addr × Obj)} {σ : L2.St} {H : Hp} {s : Shared} {E : Value → Shared → Prop}
theorem xB(I:L2.Inv X pins σ H s)(sx:aO X.H₀ H): ∀b,H b=none→X.H₀ b=none:=λb z=>by
 cases hb:X.H₀ b with
 | none=>rfl
 | some u=>
  exfalso
  by_cases n:Nt u
  ·rw[sx b u hb n]at z;cases z
  ·have n2:(∃ps,u = .tbl ps)∨∃ob φ,u = .frz ob (.ext φ):=by
    apply Classical.byContradiction
    intro h
    exact n ⟨λps q=>h (.inl ⟨ps,q⟩),λob φ q=>h (.inr ⟨ob,φ,q⟩)⟩
   rcases n2 with⟨ps,rfl⟩|⟨ob,φ,rfl⟩
   ·obtain⟨more,q⟩:=I.base.tbls b ps hb
    rw[q]at z;cases z
   ·rw[I.base.frzs b ob _ hb]at z;cases z
theorem vR(I:L2.Inv X pins σ H s)(hk:∀b,H b=none→X.H₀ b=none): L2.Inv (tr X H pins E) [] σ H s:=by
 have J:=Inv.from I hk
 exact⟨⟨J.ok.mod,J.ok.kind,J.ok.glob,J.ok.blt,J.ok.above,J.ok.inj,J.ok.has,J.ok.cab,J.ok.hd,J.ok.frames,J.ok.stk,J.ok.exf,J.ok.bs,J.ok.bsz,J.ok.noex,J.ok.exfs,J.ok.funs,J.ok.frf⟩,J.os,J.bare,J.base,J.loc,J.cell,J.free,J.freeC,λp hp=>J.pin p (by simpa using hp),J.hok,J.len⟩
theorem yu{a:Addr}{o:HO}(I:L2.Inv X pins σ (upd H a o) s)(na:H a=none)(hk:∀b,H b=none→X.H₀ b=none): L2.Inv (tr X H pins E) [] σ (upd H a o) s:=by
 have sm:Same H (upd H a o):=λb u z=>by rw[upd_ne (ne_of_none z na)];exact z
 have no:∀b,upd H a o b=none→H b=none:=λb z=>by
  cases hb:H b with
  | none=>rfl
  | some u=>rw[sm b u hb]at z;cases z
 exact⟨⟨I.ok.mod,I.ok.kind,I.ok.glob,I.ok.blt,I.ok.above,I.ok.inj,I.ok.has,I.ok.cab,I.ok.hd,I.ok.frames,I.ok.stk,I.ok.exf,λb o e=>⟨(I.ok.bs b o e).1,no b (I.bs b o e).2⟩,I.ok.bsz,I.ok.noex,I.ok.exfs,I.ok.funs,λb hb=>by
   obtain⟨_,ob,ho,_⟩:=I.ok.funs.mem hb
   exact no b (I.base.free b ob ho (I.ok.frf b hb) λz=>I.ok.exfs b z hb)⟩,I.os,I.bare,
  ⟨λb ob e n=>I.base.keep b ob e (hk b n),λb ob e n=>I.base.slot b ob e (hk b n),λb ob e n hx=>I.base.free b ob e (hk b n) hx,I.base.there,λb xs h=>sm _ _ h,λb ob u h=>sm _ _ h,λb ps h=>⟨#[],by rw[sm _ _ (show H b=some (.tbl ps)from h)];simp⟩⟩,
  I.loc,I.cell,I.free,I.freeC,λp hp=>I.pin p (by simpa using hp),I.hok,I.len⟩
theorem rf{ρ:Ro}(r:RelE X H σ ρ)(hz:∀(i:Nat) (d:D),ρ[i]?=some (some d)→aR d=none): RelS (tr X H pins E) H H σ ρ:=
 ⟨Same.refl _,r.len,λi d e=>let ⟨v,a,b⟩:=r.val i d e;⟨v,a,b,.inr (.inl b)⟩,λa ⟨i,d,e1,e2⟩=>by rw[hz i d e1]at e2;cases e2⟩
end
section
variable {X : Cx} {Pl : Addr} {dp : Pos} {qn : Str} {ρ : Ro} {pos : Pos} {rest body : List Stmt} {h0 : ExceptHandler} {hs : List ExceptHandler} {C : Addr} {R : D → Prop}
theorem zB(hst:X.stack=X.env::X.outer)(hf:X.env.frame=some X.env.locals)(hz:∀(i:Nat) (d:D),ρ[i]?=some (some d)→aR d=none)
  (hb:∀(H:Hp) (pins:List (Addr×Obj)) (E:Value→Shared→Prop),Tb H Pl dp qn→(∀ρ',ρ'=ρ→qm (tr X H pins E) Pl dp qn C ρ')→Do (tr X H pins E) body ρ { nx:=λ_=>False,rt:=λ_=>False })
  (hh:∀(H:Hp) (pins:List (Addr×Obj)),zS (tr X H pins X.xe) (h0::hs) C ρ { nx:=λ_=>False,rt:=R })
  {pins:List (Addr×Obj)} {s:Shared} {σ:L2.St} {H:Hp} {D:Ends} (I:L2.Inv X pins σ H s) (r:RelS X X.H₀ H σ ρ) (t:Tb H Pl dp qn) (q:∀v H' d,aO H H'→Tb H' Pl dp qn→Is X.K H' v d→R d→D.rt v H') :
  wpAny (model X.prog X.w) X.A (execs (.Try body (h0::hs) [] [] pos::rest) X.env) (SP X pins D) X.xe s:=by
 have fr:X.A.frames=some (X.env::X.outer):=by rw[← hst];exact I.ok.frames
 refine wpAny_execs_cons (thn (Q:=SP X pins { nx:=λ_ _=>False,rt:=D.rt,bk:=λ_ _=>False,ct:=λ_ _=>False }) (wpAny_Try_except ?_) λfl s9 z=> ?_)
 ·refine wpAny_mono (hb H pins (λe s1=>wpAny (model X.prog X.w) X.A (noteFrame e X.env) (λ_ s2=>wpAny (model X.prog X.w) X.A (setFlight e none) (λ_ s3=>wpAny (model X.prog X.w) X.A (handleBy e X.env (h0::hs)) (SP X pins { nx:=λ_ _=>False,rt:=D.rt,bk:=λ_ _=>False,ct:=λ_ _=>False }) X.xe s3) X.xe s2) X.xe s1) t ?_ [] s σ H { nx:=λ_ _=>False,rt:=λ_ _=>False } (zA I r.same) ⟨rf r.e hz,λ_ _ _ _ _ z=>z.elim,λ_ _ _ _ _ _ z=>z.elim,λ_ _ _ _ _ z=>z.elim,λ_ _ _ _ _ z=>z.elim⟩) (λf s1 z=> ?_) λe s1 z=>z
  ·intro ρ' eρ pins' σ' H1 s1 H' e s' I1 r1 sm1 sx tb F
   subst eρ
   obtain⟨B,a0,b1,b2,b3,b4,fl⟩:=F.ex
   have I2:=rk I I1
   have un:Un (frs X.stack) [] H1 H' s1.heap s'.heap:=F.un
   have b3':∀b o,s1.heap.get? b=some o→H1 b=none→b∉frs X.stack→B.get? b=some o:=b3
   have b4':∀b o,s1.heap.get? b=some o→b∉frs X.stack→∃o',B.get? b=some o':=b4
   have nE:H' e=none:=by
    cases z:H' e with
    | none=>rfl
    | some u=>
     obtain⟨ob,y⟩:=se (b2 e u z)
     rw[fl.2.1]at y
     cases y
   refine wpAny_looks_onW fr hf (by rw[← hst];exact fl) λh4 held4 up4=> ?_
   refine wpAny_landsW held4 λh5 fl5 up5=> ?_
   rw[← hst]at fl5
   have L5:L2.Inv X pins σ' H' { s' with heap:=h5 }:=zc (s':=s') I2 F.os F.bare un b2 b3' b4' fl5 (up4.trans up5)
   have sx0:aO H H':=sx
   have hk:=xB L5 ((aO.of r.same).trans sx0)
   have r1':RelE X H1 σ' ρ':=⟨r1.len,r1.val⟩
   have r2:RelE X H' σ' ρ':=tZ r1' sm1
   refine thn (hh H' pins [] σ' H' { s' with heap:=h5 } { nx:=λ_ _=>False,rt:=D.rt,bk:=λ_ _=>False,ct:=λ_ _=>False } e B a0 fl5 (λh6 fl6 up6=>vR (zc (s':=s') I2 F.os F.bare un b2 b3' b4' fl6 ((up4.trans up5).trans up6)) hk) (λh6 oe fl6 up6 hoe=>yu (zd (s':=s') I2 F.os F.bare un b2 b3' b4' fl6 ((up4.trans up5).trans up6) hoe) nE hk) nE
    ⟨rf r2 hz,λ_ _ _ _ _ z=>z.elim,λv H2 d sm hv _ z=>q v H2 d (sx0.trans (.of sm)) (tb.same sm) hv z,λ_ _ _ _ _ z=>z.elim,λ_ _ _ _ _ z=>z.elim⟩) λf s9 z=> ?_
   cases f with
   | next=>obtain⟨_,_,_,y⟩:=z;exact y.elim
   | brk=>obtain⟨_,_,_,y⟩:=z;exact y.elim
   | cont=>obtain⟨_,_,_,y⟩:=z;exact y.elim
   | ret u=>obtain⟨v,σ2,H2,J,rv,hq⟩:=z;exact⟨v,σ2,H2,rk L5 J,rv,hq⟩
  ·cases f with
   | next=>obtain⟨_,_,_,z⟩:=z;exact z.elim
   | brk=>obtain⟨_,_,_,z⟩:=z;exact z.elim
   | cont=>obtain⟨_,_,_,z⟩:=z;exact z.elim
   | ret u=>obtain⟨_,_,_,_,_,z⟩:=z;exact z.elim
 ·cases fl with
  | next=>obtain⟨_,_,_,y⟩:=z;exact y.elim
  | brk=>obtain⟨_,_,_,y⟩:=z;exact y.elim
  | cont=>obtain⟨_,_,_,y⟩:=z;exact y.elim
  | ret u=>exact z
end
section
variable {P : Program} {w : World} {K : PySem.W.Frag} {mg : Str → Option Value} {base : Heap} {Pl : Addr} {dp : Pos} {qn : Str}
theorem uU{x qual:Str}{st:Stmt}{f:Addr}{fd:FuncData}{N ps:List Str}{k:Nat}{Pf:List D→List D→Prop}{body rest:List Stmt}{h0:ExceptHandler}{hs:List ExceptHandler}{pos:Pos}(F:Fun K x qual st f fd)(S:FnScope N ps (defScope st))(hm:mg x=some (.ref f))(hb:Binds K fd ps [])
  (hbody:defBody st = .Try body (h0::hs) [] [] pos::rest)
  (hl:∀ds es,Pf ds es→ds.length=ps.length∧(∀d∈ds,aR d=none)∧∀(i:Nat) (d:D),(nV N ds)[i]?=some (some d)→aR d=none)
  (h:∀(cdv:Value) (A:Around) (outer:List Env) (s:Shared) (H:Hp) (E:XK),Room k (A.deeper (envOfC qual (defScope st) s.heap.objs.size f cdv))→∀ds es,Pf ds es→∃C:Addr,
   (∀(H1:Hp) (pins:List (Addr×Obj)) (E1:Value→Shared→Prop),Tb H1 Pl dp qn→(∀ρ',ρ'=nV N ds→qm (tr (gF P w K mg base N qual st f cdv A outer s H E) H1 pins E1) Pl dp qn C ρ')→Do (tr (gF P w K mg base N qual st f cdv A outer s H E) H1 pins E1) body (nV N ds) { nx:=λ_=>False,rt:=λ_=>False })∧
   ∀(H1:Hp) (pins:List (Addr×Obj)),zS (tr (gF P w K mg base N qual st f cdv A outer s H E) H1 pins (gF P w K mg base N qual st f cdv A outer s H E).xe) (h0::hs) C (nV N ds) { nx:=λ_=>False,rt:=λd=>∃l,d = .lst l es }):wc P w K mg base (k+1) x Pl dp qn Pf:=by
 refine⟨f,fd,ps,F.ok S (λvs H Q E ⟨ds,es,h1,h2,_⟩=>by rw[h1.length];exact(hl ds es h2).1) (λcdv A outer s H vs Q E hr hsp=> ?_),hm,F.kp,hb⟩
 obtain⟨ds,es,h1,h2,tb,q⟩:=hsp
 obtain⟨C,hB,hH⟩:=h cdv A outer s H E hr ds es h2
 refine⟨λEn σ H1=>RelS (gF P w K mg base N qual st f cdv A outer s H E) H H1 σ (nV N ds)∧∀v H',aO H H'→Tb H' Pl dp qn→Is K H' v (.ls es)→En.rt v H',?_,bb (X:=gF P w K mg base N qual st f cdv A outer s H E) h1 (hl ds es h2).2.1,q⟩
 intro pins s1 σ H1 En I ⟨r0,q⟩
 rw[hbody]
 refine zB (X:=gF P w K mg base N qual st f cdv A outer s H E) (R:=λd=>∃l,d = .lst l es) rfl rfl (hl ds es h2).2.2 hB hH I r0 (tb.same r0.same) λv H' d sx t' hv hd=> ?_
 obtain⟨l,rfl⟩:=hd
 obtain⟨rfl,us,g1,g2⟩:=hv.lst_inv
 exact q _ H' ((aO.of r0.same).trans sx) t' (.ls (.inl (.inl g1)) g2)
theorem wM{N:List Str}{st:Stmt}{f:Addr}{fd:FuncData}{k:Nat}{x0:Str}{pre mid A':List Stmt}{c e:Expr}{p1 rp:Pos}{Pf:List Int→Prop}(Mid1 Mid2:List Int→Ro→Prop)
  (F:Fun K "law" "law" st f fd) (S:FnScope N [x0] (defScope st)) (hbody:defBody st=pre++(.If c A' [] p1::(mid++[.Return (some e) rp])))
  (hz:∀ns ρ,Mid1 ns ρ→∀(i:Nat) (d:D),ρ[i]?=some (some d)→aR d=none)
  (hA:∀(cdv:Value) (A:Around) (outer:List Env) (s:Shared) (H:Hp) (E:XK),Room k (A.deeper (envOfC "law" (defScope st) s.heap.objs.size f cdv))→∀ns,Pf ns→
   Do (gF P w K mg base N "law" st f cdv A outer s H E) pre (nV N [.ls (ns.map D.int)]) { nx:=Mid1 ns,rt:=λ_=>False })
  (hT:∀(cdv:Value) (A:Around) (outer:List Env) (s:Shared) (H:Hp) (E:XK),Room k (A.deeper (envOfC "law" (defScope st) s.heap.objs.size f cdv))→∀ns ρ,Pf ns→Mid1 ns ρ→
   EtG (gF P w K mg base N "law" st f cdv A outer s H E) Pl dp qn c ρ false)
  (hB:∀(cdv:Value) (A:Around) (outer:List Env) (s:Shared) (H:Hp) (E:XK),Room k (A.deeper (envOfC "law" (defScope st) s.heap.objs.size f cdv))→∀(H1:Hp) (pins:List (Addr×Obj)) ns ρ,Pf ns→Mid1 ns ρ→
   Do (tr (gF P w K mg base N "law" st f cdv A outer s H E) H1 pins (gF P w K mg base N "law" st f cdv A outer s H E).xe) mid ρ { nx:=Mid2 ns,rt:=λ_=>False })
  (hC:∀(cdv:Value) (A:Around) (outer:List Env) (s:Shared) (H:Hp) (E:XK),Room k (A.deeper (envOfC "law" (defScope st) s.heap.objs.size f cdv))→∀(H1:Hp) (pins:List (Addr×Obj)) ns ρ,Pf ns→Mid2 ns ρ→
   ue (tr (gF P w K mg base N "law" st f cdv A outer s H E) H1 pins (gF P w K mg base N "law" st f cdv A outer s H E).xe) Pl dp qn e ρ (.bl true)):FnOk P w K mg base CX0 (k+1) f fd [x0] (SpT K Pl Pf):=by
 refine F.ok S (λvs H Q E ⟨ns,h1,_⟩=>h1.length) (λcdv A outer s H vs Q E hr h=> ?_)
 obtain⟨ns,h1,hpf,hP,hq⟩:=h
 refine⟨λEn σ H1=>RelS (gF P w K mg base N "law" st f cdv A outer s H E) H H1 σ (nV N [.ls (ns.map D.int)])∧∀H',En.rt (.bl true) H',?_,bb (X:=gF P w K mg base N "law" st f cdv A outer s H E) h1 (λd hd=>by
  have ed:d = .ls (ns.map D.int):=(by simpa using hd)
  rw[ed]
  rfl),λH'=>hq H'⟩
 intro pins s1 σ H1 En I ⟨r0,q⟩
 rw[hbody]
 refine rz (wpAny_mono (hA cdv A outer s H E hr ns hpf pins s1 σ H1 { nx:=λσ' H'=>∃ρ,RelS (gF P w K mg base N "law" st f cdv A outer s H E) H H' σ' ρ∧Mid1 ns ρ,rt:=λ_ _=>False } I
  ⟨r0,λσ' H' ρ' _ r' z=>⟨ρ',r',z⟩,λv H' d _ hv _ z=>z.elim,λ_ _ _ _ _ z=>z.elim,λ_ _ _ _ _ z=>z.elim⟩) (λfl s2 z=> ?_) λ_ _ z=>z.elim)
 cases fl with
 | ret u=>obtain⟨_,_,_,_,_,z⟩:=z;exact False.elim z
 | brk=>obtain⟨_,_,_,z⟩:=z;exact False.elim z
 | cont=>obtain⟨_,_,_,z⟩:=z;exact False.elim z
 | next=>
  obtain⟨σ2,H2,I2,ρ,r2,mid1⟩:=z
  refine wpAny_execs_cons (wpAny_If (thn (hT cdv A outer s H E hr ns ρ hpf mid1 pins s2 σ2 H2 (λb H'=>b=false∧aO H2 H'∧Tb H' Pl dp qn) I2 ⟨r2.e,.inl (r2.same _ _ hP),λH' sx tb=>⟨rfl,sx,tb⟩⟩) λb s3 hb=> ?_))
  obtain⟨H3,I3,rfl,sx,tb⟩:=hb
  refine wpAny_execs_nil ?_
  have hk:=xB I3 ((aO.of r2.same).trans sx)
  have r3:RelE (gF P w K mg base N "law" st f cdv A outer s H E) H3 σ2 ρ:=tZ r2.e sx
  refine rz (wpAny_mono (hB cdv A outer s H E hr H3 pins ns ρ hpf mid1 [] s3 σ2 H3 { nx:=λσ' H'=>∃ρ,RelS (tr (gF P w K mg base N "law" st f cdv A outer s H E) H3 pins (gF P w K mg base N "law" st f cdv A outer s H E).xe) H3 H' σ' ρ∧Mid2 ns ρ,rt:=λ_ _=>False } (vR I3 hk)
   ⟨rf r3 (hz ns ρ mid1),λσ' H' ρ' _ r' z=>⟨ρ',r',z⟩,λv H' d _ hv _ z=>z.elim,λ_ _ _ _ _ z=>z.elim,λ_ _ _ _ _ z=>z.elim⟩) (λfl s4 z=> ?_) λ_ _ z=>z.elim)
  cases fl with
  | ret u=>obtain⟨_,_,_,_,_,z⟩:=z;exact False.elim z
  | brk=>obtain⟨_,_,_,z⟩:=z;exact False.elim z
  | cont=>obtain⟨_,_,_,z⟩:=z;exact False.elim z
  | next=>
   obtain⟨σ4,H4,I4,ρ',r4,mid2⟩:=z
   refine wpAny_execs_cons (wpAny_Return_some (thn (hC cdv A outer s H E hr H3 pins ns ρ' hpf mid2 [] s4 σ4 H4 (λv _=>v = .bl true) I4 ⟨r4.e,tb.same r4.same,λv H' _ _ h=>h.bl_inv⟩) λu s5 hu=> ?_))
   obtain⟨v,H5,I5,rv,rfl⟩:=hu
   exact⟨_,σ4,H5,rk I3 I5,rv,q H5⟩
end
end FM
namespace CM
open PySem PySem.Spec L2 FL FT FU XR MD
def qe(cl:Nat→Addr)(ds:List D)(C:Addr): Prop:=∃d:D,ds=[.int 20,d]∧BadF d∧C=cl 0
def sP(cl:Nat→Addr)(ds:List D)(C:Addr): Prop:=∃(w:Nat) (m:Int),ds=[.int 0,.int (w:Int),.int m]∧w<1000∧w%21=20∧Mo m∧C=cl 0
def sA(ds es:List D): Prop:=∃(k w:Nat) (m:Int),ds=[.int (k:Int),.int (w:Int),.int m]∧k<6∧w<1000∧Mo m∧es=iA k
theorem uV:FormG 1 0 1:=⟨⟨by decide,by decide,.lit,.lit,.lit⟩,by decide⟩
theorem wg:Int.gcd (Int.gcd 1 0) 1=1:=by decide
theorem p7(k:Nat): ∀d∈iA k,Fz d:=fzs rfl
theorem ng(k:Nat): Cms 0 (iA k) (iA k):=by
 unfold iA
 repeat(first|exact .nil|refine .cons (.bl _ _) ?_)
section
open MG
theorem gE:BarS (-23):=⟨⟨by decide,by decide⟩,.lit⟩
theorem jP(b:Int)(h:b=1∨b = -1): Cls (-23) ⟨2,b,3⟩:=by
 rcases h with rfl|rfl
 ·exact⟨⟨by decide,by decide⟩,⟨-1,0,1,by decide⟩,⟨by decide,by decide,by decide,by decide⟩⟩
 ·exact⟨⟨by decide,by decide⟩,⟨-1,0,1,by decide⟩,⟨by decide,by decide,by decide,by decide⟩⟩
theorem x5:((zJ gE.d).mul ⟨⟨2,1,3⟩,jP 1 (.inl rfl)⟩ ⟨⟨2,-1,3⟩,jP (-1) (.inr rfl)⟩).1=⟨1,1,6⟩:=by
 have e:=u5 gE.d (x:=⟨⟨2,1,3⟩,jP 1 (.inl rfl)⟩) (y:=⟨⟨2,-1,3⟩,jP (-1) (.inr rfl)⟩) (z:=⟨nt (-23),jH gE.d.neg gE.d.four⟩) (xt gE.d.neg gE.d.four (jP 1 (.inl rfl)).ok)
 rw[e]
 rfl
theorem j23(b:Int)(h:b=1∨b = -1): QJ ⟨2,b,3⟩:=yV gE ⟨_,jP b h⟩
end
end CM
namespace CM
open PySem PySem.Spec L2 FL FT FU XR MD
def ifC:Stmt→Expr
 | .If c _ _ _=>c
 | _=>.Constant .none 0 ⟨0,0,0,0⟩
def ifA:Stmt→List Stmt
 | .If _ a _ _=>a
 | _=>[]
def ifP:Stmt→Pos
 | .If _ _ _ p=>p
 | _=>⟨0,0,0,0⟩
def zg(ns:List Int)(ρ:Ro): Prop:=∃(k w:Nat) (m:Int),ρ=[some (.ls (ns.map D.int)),some (.int (k:Int)),some (.int (w:Int)),some (.int m),some (.fl (iA k)),none]∧k<6∧w<1000∧Mo m
def ya(ns:List Int)(ρ:Ro): Prop:=∃(k w:Nat) (m:Int),ρ=[some (.ls (ns.map D.int)),some (.int (k:Int)),some (.int (w:Int)),some (.int m),some (.fl (iA k)),some (ar 1 1 6)]∧k<6∧w<1000∧Mo m
end CM
namespace CM
open PySem PySem.Spec L2 FL FT FU XR MD
def c6(E1 E2 E3 E4 E5 E6:Addr): Nat→Addr
 | 0=>E1
 | 1=>E2
 | 2=>E3
 | 3=>E4
 | 4=>E5
 | _=>E6
theorem wB{K:PySem.W.Frag}{mg:Str→Option Value}{E0 E1 E2 E3 E4 E5 E6 E7:Addr}
  (q1:PySem.W.excIn K E1 yw "ValueError.__new__"=true) (q2:PySem.W.excIn K E2 yw "ValueError.__new__"=true) (q3:PySem.W.excIn K E3 yw "ValueError.__new__"=true) (q4:PySem.W.excIn K E4 yw "ValueError.__new__"=true) (q5:PySem.W.excIn K E5 yw "ValueError.__new__"=true) (q6:PySem.W.excIn K E6 yw "ValueError.__new__"=true)
  (m0:mg "FormError"=some (.ref E0)) (m1:mg "NotAForm"=some (.ref E1)) (m2:mg "NotATurning"=some (.ref E2)) (m3:mg "NoBar"=some (.ref E3)) (m4:mg "OtherBar"=some (.ref E4)) (m5:mg "NotBare"=some (.ref E5)) (m6:mg "OutOfBounds"=some (.ref E6)) (m7:mg "NotWritten"=some (.ref E7)) (mv:mg "ValueError"=none)
  (e0:EcF K E0) (e1:EcF K E1) (e2:EcF K E2) (e3:EcF K E3) (e4:EcF K E4) (e5:EcF K E5) (e6:EcF K E6) (e7:EcF K E7)
  (r10:PySem.W.mroIn K E1 (.ref E0)=some true) (r12:PySem.W.mroIn K E1 (.ref E2)=some false) (r13:PySem.W.mroIn K E1 (.ref E3)=some false) (r14:PySem.W.mroIn K E1 (.ref E4)=some false) (r15:PySem.W.mroIn K E1 (.ref E5)=some false) (r16:PySem.W.mroIn K E1 (.ref E6)=some false) (r17:PySem.W.mroIn K E1 (.ref E7)=some false)
  (r20:PySem.W.mroIn K E2 (.ref E0)=some true) (r21:PySem.W.mroIn K E2 (.ref E1)=some false) (r23:PySem.W.mroIn K E2 (.ref E3)=some false) (r24:PySem.W.mroIn K E2 (.ref E4)=some false) (r25:PySem.W.mroIn K E2 (.ref E5)=some false) (r26:PySem.W.mroIn K E2 (.ref E6)=some false) (r27:PySem.W.mroIn K E2 (.ref E7)=some false)
  (r30:PySem.W.mroIn K E3 (.ref E0)=some true) (r31:PySem.W.mroIn K E3 (.ref E1)=some false) (r32:PySem.W.mroIn K E3 (.ref E2)=some false) (r34:PySem.W.mroIn K E3 (.ref E4)=some false) (r35:PySem.W.mroIn K E3 (.ref E5)=some false) (r36:PySem.W.mroIn K E3 (.ref E6)=some false) (r37:PySem.W.mroIn K E3 (.ref E7)=some false)
  (r40:PySem.W.mroIn K E4 (.ref E0)=some true) (r41:PySem.W.mroIn K E4 (.ref E1)=some false) (r42:PySem.W.mroIn K E4 (.ref E2)=some false) (r43:PySem.W.mroIn K E4 (.ref E3)=some false) (r45:PySem.W.mroIn K E4 (.ref E5)=some false) (r46:PySem.W.mroIn K E4 (.ref E6)=some false) (r47:PySem.W.mroIn K E4 (.ref E7)=some false)
  (r50:PySem.W.mroIn K E5 (.ref E0)=some true) (r51:PySem.W.mroIn K E5 (.ref E1)=some false) (r52:PySem.W.mroIn K E5 (.ref E2)=some false) (r53:PySem.W.mroIn K E5 (.ref E3)=some false) (r54:PySem.W.mroIn K E5 (.ref E4)=some false) (r56:PySem.W.mroIn K E5 (.ref E6)=some false) (r57:PySem.W.mroIn K E5 (.ref E7)=some false)
  (r60:PySem.W.mroIn K E6 (.ref E0)=some true) (r61:PySem.W.mroIn K E6 (.ref E1)=some false) (r62:PySem.W.mroIn K E6 (.ref E2)=some false) (r63:PySem.W.mroIn K E6 (.ref E3)=some false) (r64:PySem.W.mroIn K E6 (.ref E4)=some false) (r65:PySem.W.mroIn K E6 (.ref E5)=some false) (r67:PySem.W.mroIn K E6 (.ref E7)=some false):Ex23 K mg (c6 E1 E2 E3 E4 E5 E6) where
 q:=λk hk=>match k,hk with
  | 0,_=>q1
  | 1,_=>q2
  | 2,_=>q3
  | 3,_=>q4
  | 4,_=>q5
  | 5,_=>q6
  | n+6,hk=>absurd hk (by omega)
 m0:=m1
 m1:=m2
 m2:=m3
 m3:=m4
 m4:=m5
 m5:=m6
 mv:=mv
 x:=λk hk=>match k,hk with
  | 0,_=>e1.x
  | 1,_=>e2.x
  | 2,_=>e3.x
  | 3,_=>e4.x
  | 4,_=>e5.x
  | 5,_=>e6.x
  | n+6,hk=>absurd hk (by omega)
 e:=⟨E0,m0,λk hk=>match k,hk with
  | 0,_=>⟨g9 e0.x.be e0.t r10,gf r10 e0.x.ob e0.t⟩
  | 1,_=>⟨g9 e0.x.be e0.t r20,gf r20 e0.x.ob e0.t⟩
  | 2,_=>⟨g9 e0.x.be e0.t r30,gf r30 e0.x.ob e0.t⟩
  | 3,_=>⟨g9 e0.x.be e0.t r40,gf r40 e0.x.ob e0.t⟩
  | 4,_=>⟨g9 e0.x.be e0.t r50,gf r50 e0.x.ob e0.t⟩
  | 5,_=>⟨g9 e0.x.be e0.t r60,gf r60 e0.x.ob e0.t⟩
  | n+6,hk=>absurd hk (by omega)⟩
 w:=⟨E7,m7,λk hk=>match k,hk with
  | 0,_=>aT e1.s r17 e7.x.ob e7.t
  | 1,_=>aT e2.s r27 e7.x.ob e7.t
  | 2,_=>aT e3.s r37 e7.x.ob e7.t
  | 3,_=>aT e4.s r47 e7.x.ob e7.t
  | 4,_=>aT e5.s r57 e7.x.ob e7.t
  | 5,_=>aT e6.s r67 e7.x.ob e7.t
  | n+6,hk=>absurd hk (by omega)⟩
 v:=λk hk=>match k,hk with
  | 0,_=>jG e1.v
  | 1,_=>jG e2.v
  | 2,_=>jG e3.v
  | 3,_=>jG e4.v
  | 4,_=>jG e5.v
  | 5,_=>jG e6.v
  | n+6,hk=>absurd hk (by omega)
 k:=λi j hi hj=>match i,j,hi,hj with
  | 0,0,_,_=>gf e1.s e1.x.ob e1.t
  | 0,1,_,_=>aT e1.s r12 e2.x.ob e2.t
  | 0,2,_,_=>aT e1.s r13 e3.x.ob e3.t
  | 0,3,_,_=>aT e1.s r14 e4.x.ob e4.t
  | 0,4,_,_=>aT e1.s r15 e5.x.ob e5.t
  | 0,5,_,_=>aT e1.s r16 e6.x.ob e6.t
  | 1,0,_,_=>aT e2.s r21 e1.x.ob e1.t
  | 1,1,_,_=>gf e2.s e2.x.ob e2.t
  | 1,2,_,_=>aT e2.s r23 e3.x.ob e3.t
  | 1,3,_,_=>aT e2.s r24 e4.x.ob e4.t
  | 1,4,_,_=>aT e2.s r25 e5.x.ob e5.t
  | 1,5,_,_=>aT e2.s r26 e6.x.ob e6.t
  | 2,0,_,_=>aT e3.s r31 e1.x.ob e1.t
  | 2,1,_,_=>aT e3.s r32 e2.x.ob e2.t
  | 2,2,_,_=>gf e3.s e3.x.ob e3.t
  | 2,3,_,_=>aT e3.s r34 e4.x.ob e4.t
  | 2,4,_,_=>aT e3.s r35 e5.x.ob e5.t
  | 2,5,_,_=>aT e3.s r36 e6.x.ob e6.t
  | 3,0,_,_=>aT e4.s r41 e1.x.ob e1.t
  | 3,1,_,_=>aT e4.s r42 e2.x.ob e2.t
  | 3,2,_,_=>aT e4.s r43 e3.x.ob e3.t
  | 3,3,_,_=>gf e4.s e4.x.ob e4.t
  | 3,4,_,_=>aT e4.s r45 e5.x.ob e5.t
  | 3,5,_,_=>aT e4.s r46 e6.x.ob e6.t
  | 4,0,_,_=>aT e5.s r51 e1.x.ob e1.t
  | 4,1,_,_=>aT e5.s r52 e2.x.ob e2.t
  | 4,2,_,_=>aT e5.s r53 e3.x.ob e3.t
  | 4,3,_,_=>aT e5.s r54 e4.x.ob e4.t
  | 4,4,_,_=>gf e5.s e5.x.ob e5.t
  | 4,5,_,_=>aT e5.s r56 e6.x.ob e6.t
  | 5,0,_,_=>aT e6.s r61 e1.x.ob e1.t
  | 5,1,_,_=>aT e6.s r62 e2.x.ob e2.t
  | 5,2,_,_=>aT e6.s r63 e3.x.ob e3.t
  | 5,3,_,_=>aT e6.s r64 e4.x.ob e4.t
  | 5,4,_,_=>aT e6.s r65 e5.x.ob e5.t
  | 5,5,_,_=>gf e6.s e6.x.ob e6.t
  | n+6,_,hi,_=>absurd hi (by omega)
  | _,n+6,_,hj=>absurd hj (by omega)
end CM
namespace K23
open PySem PySem.Spec L2 FL FT FU CM MG XR MD FM
def top(i:Nat): Stmt:=PySem.Challenge.pw_formturn_k23_refused.main.body.getD i (.Pass ⟨0,0,0,0⟩)
abbrev d9:=top 12
abbrev bF:=top 13
abbrev gQ:=top 14
abbrev cs:=top 15
abbrev bc:=top 16
abbrev bM:=top 17
abbrev bG:=top 18
abbrev bW:=top 19
abbrev bj:=top 20
abbrev cG:=top 22
abbrev bZ:=top 23
abbrev fQ:=top 24
abbrev cF:=top 25
abbrev bV:=top 27
abbrev fj:=top 28
abbrev bS:=top 29
abbrev gO:=top 30
abbrev jm:=top 31
abbrev fh:=top 32
abbrev cU:=top 34
abbrev bo:=top 35
abbrev n9:=top 36
abbrev jl:=top 37
abbrev jg:=top 38
abbrev eu:=top 39
abbrev fN:=top 43
abbrev ia:=top 44
abbrev dz:=top 45
abbrev ib:=top 46
abbrev dB:=top 47
abbrev cb:=top 48
abbrev eo:=top 49
abbrev kH:=top 50
abbrev dh:=top 52
abbrev fV:=top 53
abbrev bR:=top 56
abbrev bi:=top 57
abbrev cE:=top 58
abbrev cW:=top 59
abbrev dO:=top 60
abbrev cV:=top 61
abbrev gR:=top 62
abbrev fq:=top 63
abbrev fP:=top 64
abbrev fR:=top 66
abbrev dF:=top 69
abbrev hV:=top 70
abbrev n8:=top 71
abbrev aN:=top 73
abbrev er:=top 74
abbrev dN:=top 75
abbrev cH:=top 76
abbrev fU:=top 77
abbrev d8:=top 78
abbrev aK:=top 79
abbrev jh:=top 80
abbrev fT:=top 83
abbrev jk:=top 85
abbrev hW:=top 86
abbrev ji:=top 90
abbrev ic:=top 94
abbrev cg:=top 96
abbrev jj:=top 102
abbrev aV:=top 105
abbrev dP:=top 106
abbrev oi:=top 107
abbrev fW:=top 111
abbrev dE:=top 113
abbrev df:=top 114
abbrev bQ:=top 115
abbrev de:=top 116
abbrev dC:=top 117
abbrev dD:=top 118
abbrev cZ:=top 119
abbrev bX:=top 120
abbrev fk:=top 121
abbrev eR:=top 122
abbrev fO:=top 123
abbrev eQ:=top 124
theorem bK{N P:List Str}{sc:Scope}(a:sc.kind = .function:=by rfl)(b:sc.isCoroutine=false:=by rfl)(c:sc.isGenerator=false:=by rfl)(d:N.Nodup:=by decide +kernel)(e:N.take P.length=P:=by rfl)(f:∀x∈P,sc.names.lookup x=some .local∨sc.names.lookup x=some .cell:=by decide +kernel)(g:∀y∈sc.names,y.2≠.free:=by decide +kernel): FnScope N P sc:=⟨a,b,c,d,e,f,g⟩
theorem jX:FnScope ["value"] ["value"] (defScope d9):=bK
theorem eT:FnScope ["value","length"] ["value","length"] (defScope bF):=bK
theorem mW:FnScope ["value"] ["value"] (defScope gQ):=bK
theorem g6:FnScope ["value"] ["value"] (defScope cs):=bK
theorem dL:FnScope ["value","lowest"] ["value","lowest"] (defScope bc):=bK
theorem fw:FnScope ["value"] ["value"] (defScope bM):=bK
theorem eU:FnScope ["value","lowest","highest"] ["value","lowest","highest"] (defScope bG):=bK
theorem eS:FnScope ["one","other","greater","lesser","rest"] ["one","other"] (defScope bW):=bK
theorem di:FnScope ["one","other","divisor","share","rest","rest_share","times","after","after_share"] ["one","other"] (defScope bj):=bK
theorem fv:FnScope ["number","rest","found","prime"] ["number"] (defScope cG):=bK
theorem jq:FnScope ["number"] ["number"] (defScope bZ):=bK
theorem jZ:FnScope ["base","exponent","divisor","found"] ["base","exponent","divisor"] (defScope fQ):=bK
theorem jN:FnScope ["number","prime"] ["number","prime"] (defScope cF):=bK
theorem jn:FnScope ["a","b","c"] ["a","b","c"] (defScope bV):=bK
theorem lK:FnScope ["value"] ["value"] (defScope fj):=bK
theorem gu:FnScope ["value"] ["value"] (defScope bS):=bK
theorem mU:FnScope ["form"] ["form"] (defScope gO):=bK
theorem lS:FnScope ["form","place","x","y"] ["form","place"] (defScope jm):=bK
theorem lJ:FnScope ["form"] ["form"] (defScope fh):=bK
theorem iw:FnScope ["value"] ["value"] (defScope cU):=bK
theorem eB:FnScope ["value"] ["value"] (defScope bo):=bK
theorem sJ:FnScope ["turning","place","x","y"] ["turning","place"] (defScope n9):=bK
theorem uc:FnScope ["form","turning","one","other","first","last"] ["form","turning"] (defScope jl):=bK
theorem ua:FnScope ["one","other","left","right"] ["one","other"] (defScope jg):=bK
theorem j8:FnScope ["turning"] ["turning"] (defScope eu):=bK
theorem pV:FnScope ["form","a","b","c"] ["form"] (defScope fN):=bK
theorem lR:FnScope ["form","step","a","b"] ["form","step"] (defScope ia):=bK
theorem gT:FnScope ["turning","step","p","r"] ["turning","step"] (defScope dz):=bK
theorem rh:FnScope ["form"] ["form"] (defScope ib):=bK
theorem lI:FnScope ["turning"] ["turning"] (defScope dB):=bK
theorem jr:FnScope ["form"] ["form"] (defScope cb):=bK
theorem gW:FnScope ["form","step","found","turning"] ["form"] (defScope eo):=bK
theorem vF:FnScope ["one","other","first","second"] ["one","other"] (defScope kH):=bK
theorem gp:FnScope ["form","least","there","back"] ["form"] (defScope dh):=bK
theorem j7:FnScope ["form","least"] ["form"] (defScope fV):=bK
theorem gq:FnScope ["form"] ["form"] (defScope bR):=bK
theorem dM:FnScope ["one","other"] ["one","other"] (defScope bi):=bK
theorem fu:FnScope ["one","other","first","second"] ["one","other"] (defScope cE):=bK
theorem gj:FnScope ["one","other","shares","half","total"] ["one","other","shares"] (defScope cW):=bK
theorem iz:FnScope ["one","other","divisor","middle","a","b","d","e","last"] ["one","other","divisor","middle"] (defScope dO):=bK
theorem gi:FnScope ["one","other","bar","shares","divisor","first","middle","least","back","pairs"] ["one","other"] (defScope cV):=bK
theorem mX:FnScope ["one","other"] ["one","other"] (defScope gR):=bK
theorem iO:FnScope ["bar","middle"] ["bar"] (defScope fq):=bK
theorem pW:FnScope ["form"] ["form"] (defScope fP):=bK
theorem pX:FnScope ["form","times"] ["form","times"] (defScope fR):=bK
theorem lP:FnScope ["bar","found","a"] ["bar"] (defScope dF):=bK
theorem rg:FnScope ["bar"] ["bar"] (defScope hV):=bK
theorem wZ:FnScope ["bar","wanted"] ["bar","wanted"] (defScope n8):=bK
theorem bT:FnScope ["quarter","rest","found"] ["quarter"] (defScope aN):=bK
theorem gZ:FnScope ["bar","found"] ["bar"] (defScope er):=bK
theorem mz:FnScope ["mark","number"] ["mark","number"] (defScope dN):=bK
theorem fA:FnScope ["form","x","y","prime"] ["form"] (defScope cH):=bK
theorem j6:FnScope ["form","number"] ["form"] (defScope fU):=bK
theorem gU:FnScope ["form","found","sign"] ["form"] (defScope d8):=bK
theorem cu:FnScope ["form","genus","is_same"] ["form"] (defScope aK):=bK
theorem mV:FnScope ["form","bar","least","half"] ["form"] (defScope jh):=bK
theorem pY:FnScope ["form"] ["form"] (defScope fT):=bK
theorem mZ:FnScope ["bar","found","form","way","many","one"] ["bar"] (defScope jk):=bK
theorem lQ:FnScope ["bar","ways","counts","length"] ["bar"] (defScope hW):=bK
theorem mY:FnScope ["bar","forms","ways","covered","found","form"] ["bar"] (defScope ji):=bK
theorem ri:FnScope ["form","numbers"] ["form"] (defScope ic):=bK
theorem vH:FnScope ["bar","width","ways","found","number","form","cells"] ["bar","width"] (defScope cg):=bK
theorem ub:FnScope ["form","number","least"] ["form","number"] (defScope jj):=bK
theorem eX:FnScope ["bar","prime"] ["bar","prime"] (defScope aV):=bK
theorem mB:FnScope ["bar","prime","middle","least"] ["bar","prime"] (defScope dP):=bK
theorem w5:FnScope ["bar","number","found","form"] ["bar","number"] (defScope oi):=bK
theorem pZ:FnScope ["bar","number","divisors"] ["bar","number"] (defScope fW):=bK
theorem lO:FnScope ["_law_script","_law_k"] ["_law_script","_law_k"] (defScope dE):=bK
theorem gm:FnScope ["_law_cell","_law_more","_law_some"] ["_law_cell","_law_more"] (defScope df):=bK
theorem gk:FnScope ["_law_way","_law_form"] ["_law_way","_law_form"] (defScope bQ):=bK
theorem kw:FnScope ["_law_way","_law_form"] ["_law_way","_law_form"] (defScope de):=bK
theorem lM:FnScope ["_law_way","_law_bar"] ["_law_way","_law_bar"] (defScope dC):=bK
theorem lN:FnScope ["_law_way","_law_more"] ["_law_way","_law_more"] (defScope dD):=bK
theorem ku:FnScope ["_law_way","_law_times"] ["_law_way","_law_times"] (defScope cZ):=bK
theorem jo:FnScope ["_law_way","_law_more"] ["_law_way","_law_more"] (defScope bX):=bK
theorem lL:FnScope ["_law_kind","_law_way","_law_more"] ["_law_kind","_law_way","_law_more"] (defScope fk):=bK
theorem jp:FnScope ["_law_e","_law_found"] ["_law_e"] (defScope eR):=bK
theorem jY:FnScope ["_law_kind","_law_way","_law_more","_law_e"] ["_law_kind","_law_way","_law_more"] (defScope fO):=bK
theorem vG:FnScope ["_law_script","_law_kind","_law_way","_law_more","_law_due","_law_form"] ["_law_script"] (defScope eQ):=bK
section
variable {P : Program} {w : World} {K : PySem.W.Frag} {mg : Str → Option Value} {base : Heap} {f : Addr} {fd : FuncData} {cl : Nat → Addr}
theorem pB(T:Tx mg)(F:Fun K "is_whole" "is_whole" d9 f fd)(hm:mg "is_whole"=some (.ref f))(hb:Binds K fd ["value"] []): Fn P w K mg base 1 "is_whole" fM:=by
 refine aL F jX hm hb (λds d h=> ?_) (λcdv A outer s H E hr ds d h=> ?_)
 ·obtain⟨i,rfl,rfl⟩:=h
  exact⟨rfl,by simp⟩
 ·obtain⟨i,rfl,rfl⟩:=h
  exact ax (dw (ci T.isi (af 0) T.int iG rfl mJ) (iJ (rP (ci T.isi (af 0) T.bool nF rfl iZ)))) rfl
theorem nk(T:Tx mg)(F:Fun K "is_whole" "is_whole" d9 f fd)(hm:mg "is_whole"=some (.ref f))(hb:Binds K fd ["value"] []):
  Fn P w K mg base 1 "is_whole" eP:=by
 refine aL F jX hm hb (λds d h=> ?_) (λcdv A outer s H E hr ds d h=> ?_)
 ·obtain⟨e,b,rfl,hw,rfl⟩:=h
  exact⟨rfl,λz hz=>by simp only[List.mem_cons,List.not_mem_nil,or_false]at hz;subst hz;exact om hw⟩
 ·obtain⟨e,b,rfl,hw,rfl⟩:=h
  cases e with
  | int i=>cases hw;exact ax (dw (ci T.isi (af 0) T.int iG rfl mJ) (iJ (rP (ci T.isi (af 0) T.bool nF rfl iZ)))) rfl
  | bl k=>cases hw;exact ax (dw (ci T.isi (af 0) T.int iG rfl nX) (iJ (wz (ci T.isi (af 0) T.bool nF rfl mJ)))) rfl
  | str x=>cases hw;exact ax (fF (ci T.isi (af 0) T.int iG rfl pf)) rfl
  | non=>cases hw;exact ax (fF (ci T.isi (af 0) T.int iG rfl pb)) rfl
  | fl es=>cases hw;exact ax (fF (ci T.isi (af 0) T.int iG rfl nY)) rfl
  | tup es=>cases hw;exact ax (fF (ci T.isi (af 0) T.int iG rfl mm)) rfl
  | _=>cases hw
theorem i6(T:Tx mg)(G1:Fn P w K mg base 1 "is_whole" fM)(F:Fun K "is_whole_tuple" "is_whole_tuple" bF f fd)(hm:mg "is_whole_tuple"=some (.ref f))(hb:Binds K fd ["value","length"] []):
  Fn P w K mg base 2 "is_whole_tuple" dt:=by
 refine aL F eT hm hb (λds d h=> ?_) (λcdv A outer s H E hr ds d h=> ?_)
 ·obtain⟨ns,rfl,_,rfl⟩:=h
  exact⟨rfl,by simp⟩
 ·obtain⟨ns,rfl,hl,rfl⟩:=h
  have e1:qU (.tup (ns.map D.int))=some ns.length:=by simp[qU]
  refine ak (bH (fG (cz (aJ (ci T.isi (af 0) T.tuple dW rfl mJ))) (gI (Et.ff (eM (nP T.len (af 0) e1) (af 1)) rfl)))) ?_
  ·have hall:((ns.map λ_=>true).map D.bl)=(((ns.map D.int).filter λ_=>true).map λ_=>D.bl true):=by
    rw[List.filter_eq_self.mpr (λ_ _=>rfl)]
    simp
   refine ax (uN (bs:=ns.map λ_=>true) rfl T.all ?_) ?_
   ·rw[hall]
    refine(oU (ys:=[]) (js:=[]) (cl:=[]) (λ_=>true) (λ_=>.bl true) rfl (sL (af 0)) (by simp;omega) (λ_ _ _=>.bl true) (λC s₀ H₀ fp d hd=>kE) (λC s₀ H₀ fp d hd _=> ?_) rfl (by decide) rfl (by decide) rfl (by decide) (λy c h=>by cases h) (wO (by decide)) rfl (λi j y h=>by cases h)).ev
    ·obtain⟨z,_,rfl⟩:=List.mem_map.mp hd
     exact ah G1 hr (ad (af 0) ae) ⟨z,rfl,rfl⟩
   ·show D.bl _=D.bl _
    congr 1
    simp
theorem iC(T:Tx mg)(X1:Fn P w K mg base 1 "is_whole" eP)(F:Fun K "is_whole_tuple" "is_whole_tuple" bF f fd)(hm:mg "is_whole_tuple"=some (.ref f))(hb:Binds K fd ["value","length"] []):
  Fn P w K mg base 2 "is_whole_tuple" d7:=by
 refine aL F eT hm hb (λds d h=> ?_) (λcdv A outer s H E hr ds d h=> ?_)
 ·obtain⟨e,n,rfl,h⟩:=h
  refine⟨rfl,λz hz=> ?_⟩
  simp only[List.mem_cons,List.not_mem_nil,or_false]at hz
  rcases hz with rfl|rfl
  ·rcases h with⟨es,bs,rfl,_⟩|⟨rfl|⟨x,rfl⟩|⟨es,rfl⟩,_⟩<;>rfl
  ·rfl
 ·obtain⟨e,n,rfl,h⟩:=h
  rcases h with⟨es,bs,rfl,hl,hw,rfl⟩|⟨he,rfl⟩
  ·by_cases hn:es.length=n
   ·refine ak (bH (fG (cz (aJ (ci T.isi (af 0) T.tuple dW rfl mJ))) (gI (Et.ff (eM (nP T.len (af 0) (show qU (.tup es)=some es.length from rfl)) (af 1)) (by rw[hn]))))) ?_
    have hall:bs.map D.bl=es.map λe=>match uh e with|some b=>D.bl b|none=>.non:=by
     have e1:bs.map D.bl=(bs.map some).map λo=>match o with|some b=>D.bl b|none=>.non:=by rw[List.map_map];rfl
     rw[e1,← hw,List.map_map]
     rfl
    refine ax (uN (bs:=bs) rfl T.all ?_) ?_
    ·rw[hall]
     refine(kZ _ (sL (af 0)) (by omega) (λd hd=> ?_) (λC s₀ H₀ fp d hd=> ?_)).ev
     ·have:uh d∈bs.map some:=by rw[← hw];exact List.mem_map_of_mem hd
      obtain⟨b,_,e⟩:=List.mem_map.mp this
      show Fz (match uh d with|some b=>D.bl b|none=>.non)
      rw[← e]
      exact .bl _
     ·have:uh d∈bs.map some:=by rw[← hw];exact List.mem_map_of_mem hd
      obtain⟨b,_,e⟩:=List.mem_map.mp this
      refine Ev.to (ah X1 hr (ad (af 0) ae) ⟨d,b,rfl,e.symm,rfl⟩) ?_
      show _=(match uh d with|some b=>D.bl b|none=>.non)
      rw[← e]
    ·rw[decide_eq_true hn,Bool.true_and]
   ·refine ao (k:=true) (bH (fG (cz (aJ (ci T.isi (af 0) T.tuple dW rfl mJ))) (gI (Et.to (eM (nP T.len (af 0) (show qU (.tup es)=some es.length from rfl)) (af 1)) (by rw[decide_eq_false (by omega)];rfl))))) (λ_=>ax bO ?_) (λz=>by cases z)
    rw[decide_eq_false hn,Bool.false_and]
  ·rcases he with rfl|⟨x,rfl⟩|⟨es,rfl⟩
   ·exact ao (k:=true) (bH (jD (bJ (aJ (ci T.isi (af 0) T.tuple dW rfl mh))))) (λ_=>ax bO rfl) (λz=>by cases z)
   ·exact ao (k:=true) (bH (jD (bJ (aJ (ci T.isi (af 0) T.tuple dW rfl mj))))) (λ_=>ax bO rfl) (λz=>by cases z)
   ·exact ao (k:=true) (bH (jD (bJ (aJ (ci T.isi (af 0) T.tuple dW rfl lg))))) (λ_=>ax bO rfl) (λz=>by cases z)
theorem tT(G1:Fn P w K mg base 1 "is_whole" fM)(F:Fun K "is_bar" "is_bar" gQ f fd)(hm:mg "is_bar"=some (.ref f))(hb:Binds K fd ["value"] []): Fn P w K mg base 2 "is_bar" pJ:=by
 refine aL F mW hm hb (λds d h=> ?_) (λcdv A outer s H E hr ds d h=> ?_)
 ·obtain⟨i,rfl,_⟩:=h
  exact⟨rfl,by simp⟩
 ·obtain⟨i,rfl,hi,h4,rfl⟩:=h
  refine ax (dw (ah G1 hr (ad (af 0) ae) ⟨i,rfl,rfl⟩) (dw (Ev.tt (oS (af 0) aa) hi) (iJ (Ev.to (rO (n:=0) (ds:=[.int 0,.int 1]) hr (aA (af 0) aa (by decide)) (ap (ad aa (ad aa ae))) (.inr rfl) ?_) ?_)))) rfl
  ·intro z hz
   simp only[List.mem_cons,List.not_mem_nil,or_false]at hz
   rcases hz with rfl|rfl<;>exact .int _ _
  ·congr 1
   rw[kF]
   rcases h4 with h|h<;>rw[h]<;>simp
theorem qt(X1:Fn P w K mg base 1 "is_whole" eP)(F:Fun K "is_bar" "is_bar" gQ f fd)(hm:mg "is_bar"=some (.ref f))(hb:Binds K fd ["value"] []):
  Fn P w K mg base 2 "is_bar" mM:=by
 refine aL F mW hm hb (λds d h=> ?_) (λcdv A outer s H E hr ds d h=> ?_)
 ·obtain⟨e,rfl,he,rfl⟩:=h
  exact⟨rfl,λz hz=>by simp only[List.mem_cons,List.not_mem_nil,or_false]at hz;subst hz;exact he.own⟩
 ·obtain⟨e,rfl,he,rfl⟩:=h
  cases he with
  | of h=>exact ax (fF (ah X1 hr (ad (af 0) ae) ⟨_,false,rfl,h,rfl⟩)) rfl
  | num h=>
   rename_i i
   by_cases hi:i<0
   ·refine ax (dw (ah X1 hr (ad (af 0) ae) ⟨_,true,rfl,rfl,rfl⟩) (dw (Ev.tt (oS (af 0) aa) hi) (iJ (Ev.to (rO (n:=0) (ds:=[.int 0,.int 1]) hr (aA (af 0) aa (by decide)) (ap (ad aa (ad aa ae))) (.inr rfl) ?_) ?_)))) rfl
    ·intro z hz
     simp only[List.mem_cons,List.not_mem_nil,or_false]at hz
     rcases hz with rfl|rfl<;>exact .int _ _
    ·congr 1
     rw[Bool.eq_false_iff]
     intro z
     rw[kF]at z
     simp only[List.mem_cons,List.not_mem_nil,or_false,D.int.injEq]at z
     exact h ⟨hi,z⟩
   ·exact ax (dw (ah X1 hr (ad (af 0) ae) ⟨_,true,rfl,rfl,rfl⟩) (fF (Ev.ff (oS (af 0) aa) hi))) rfl
theorem lA(G1:Fn P w K mg base 2 "is_bar" pJ)(F:Fun K "require_bar" "require_bar" cs f fd)(hm:mg "require_bar"=some (.ref f))(hb:Binds K fd ["value"] []): Fn P w K mg base 3 "require_bar" cr:=by
 refine aL F g6 hm hb (λds d h=> ?_) (λcdv A outer s H E hr ds d h=> ?_)
 ·obtain⟨i,rfl,_⟩:=h
  exact⟨rfl,by simp⟩
 ·obtain⟨i,rfl,hi,h4,rfl⟩:=h
  exact ak (cz (aJ (ah G1 hr (ad (af 0) ae) ⟨i,rfl,hi,h4,rfl⟩))) (aD rfl)
theorem kc(Q:Ex23 K mg cl)(X1:Fn P w K mg base 2 "is_bar" mM)(F:Fun K "require_bar" "require_bar" cs f fd)(hm:mg "require_bar"=some (.ref f))(hb:Binds K fd ["value"] []):
  aG P w K mg base 3 "require_bar" aH (yH (cl 2)):=by
 refine ay F g6 hm hb (λds C h=> ?_) (λcdv A outer s H E hr ds C h ht=> ?_)
 ·obtain⟨d,rfl,hd,rfl⟩:=h
  exact⟨rfl,λz hz=>by simp only[List.mem_cons,List.not_mem_nil,or_false]at hz;subst hz;exact hd.own⟩
 ·obtain⟨d,rfl,hd,rfl⟩:=h
  exact ck (λ_=>False) (k:=true) (bJ (aJ (ah X1 hr (ad (af 0) ae) ⟨d,rfl,hd,rfl⟩))) (λ_=>cn ht.made (Q.q 2 (by decide)) PySem.F.excBase_ValueError rfl PySem.F.excBase_ValueError Q.m2 hr.hd (ad cj ae) (by simp)) (λz=>by cases z) (λ_ z=>z.elim)
theorem ij(G1:Fn P w K mg base 3 "require_bar" cr)(F:Fun K "require_bar_from" "require_bar_from" bc f fd)(hm:mg "require_bar_from"=some (.ref f))(hb:Binds K fd ["value","lowest"] []): Fn P w K mg base 4 "require_bar_from" aS:=by
 refine aL F dL hm hb (λds d h=> ?_) (λcdv A outer s H E hr ds d h=> ?_)
 ·obtain⟨i,l,rfl,_⟩:=h
  exact⟨rfl,by simp⟩
 ·obtain⟨i,l,rfl,hi,h4,hl,rfl⟩:=h
  refine az (ah G1 hr (ad (af 0) ae) ⟨i,rfl,hi,h4,rfl⟩) ?_
  exact ak (Et.ff' (im (af 0) (af 1)) (by omega)) (aD rfl)
theorem gC(Q:Ex23 K mg cl)(X1:aG P w K mg base 3 "require_bar" aH (yH (cl 2)))(G1:Fn P w K mg base 3 "require_bar" cr)(F:Fun K "require_bar_from" "require_bar_from" bc f fd)(hm:mg "require_bar_from"=some (.ref f))(hb:Binds K fd ["value","lowest"] []):
  aG P w K mg base 4 "require_bar_from" aH (bL (cl 2)):=by
 refine ay F dL hm hb (λds C h=> ?_) (λcdv A outer s H E hr ds C h ht=> ?_)
 ·obtain⟨d,lo,rfl,hd,rfl⟩:=h
  have hd:=hd.own
  exact⟨rfl,λz hz=>by simp only[List.mem_cons,List.not_mem_nil,or_false]at hz;rcases hz with rfl|rfl<;>first|rfl|assumption⟩
 ·obtain⟨d,lo,rfl,hd,rfl⟩:=h
  rcases hd with hd|⟨i,rfl,h0,h4,hl⟩
  ·exact aq (ag X1 hr (ad (af 0) ae) ⟨d,rfl,hd,rfl⟩ ht.on)
  ·refine az (ah G1 hr (ad (af 0) ae) ⟨i,rfl,h0,h4,rfl⟩) ?_
   exact ck (λ_=>False) (k:=true) (Et.tt (im (af 0) (af 1)) hl) (λ_=>cn ht.made (Q.q 2 (by decide)) PySem.F.excBase_ValueError rfl PySem.F.excBase_ValueError Q.m2 hr.hd (ad cj ae) (by simp)) (λz=>by cases z) (λ_ z=>z.elim)
theorem jL(G1:Fn P w K mg base 1 "is_whole" fM)(F:Fun K "require_whole" "require_whole" bM f fd)(hm:mg "require_whole"=some (.ref f))(hb:Binds K fd ["value"] []): Fn P w K mg base 2 "require_whole" dI:=by
 refine aL F fw hm hb (λds d h=> ?_) (λcdv A outer s H E hr ds d h=> ?_)
 ·obtain⟨i,rfl,_⟩:=h
  exact⟨rfl,by simp⟩
 ·obtain⟨i,rfl,rfl⟩:=h
  exact ak (cz (aJ (ah G1 hr (ad (af 0) ae) ⟨i,rfl,rfl⟩))) (aD rfl)
theorem iT(Q:Ex23 K mg cl)(X1:Fn P w K mg base 1 "is_whole" eP)(F:Fun K "require_whole" "require_whole" bM f fd)(hm:mg "require_whole"=some (.ref f))(hb:Binds K fd ["value"] []):
  aG P w K mg base 2 "require_whole" aH (sQ (cl 5)):=by
 refine ay F fw hm hb (λds C h=> ?_) (λcdv A outer s H E hr ds C h ht=> ?_)
 ·obtain⟨d,rfl,hd,rfl⟩:=h
  exact⟨rfl,λz hz=>by simp only[List.mem_cons,List.not_mem_nil,or_false]at hz;subst hz;exact hd.own⟩
 ·obtain⟨d,rfl,hd,rfl⟩:=h
  cases hd with
  | of hd=>exact ck (λ_=>False) (k:=true) (bJ (aJ (ah X1 hr (ad (af 0) ae) ⟨d,_,rfl,hd,rfl⟩))) (λ_=>cn ht.made (Q.q 5 (by decide)) PySem.F.excBase_ValueError rfl PySem.F.excBase_ValueError Q.m5 hr.hd (ad cj ae) (by simp)) (λz=>by cases z) (λ_ z=>z.elim)
theorem i9(G1:Fn P w K mg base 2 "require_whole" dI)(F:Fun K "require_number" "require_number" bG f fd)(hm:mg "require_number"=some (.ref f))(hb:Binds K fd ["value","lowest","highest"] []): Fn P w K mg base 3 "require_number" du:=by
 refine aL F eU hm hb (λds d h=> ?_) (λcdv A outer s H E hr ds d h=> ?_)
 ·obtain⟨n,l,h,rfl,_⟩:=h
  exact⟨rfl,by simp⟩
 ·obtain⟨n,l,h,rfl,h1,h2,rfl⟩:=h
  refine az (ah G1 hr (ad (af 0) ae) ⟨n,rfl,rfl⟩) ?_
  exact ak (bH (fG (Et.ff' (im (af 0) (af 1)) (by omega)) (gI (Et.ff' (oR (af 0) (af 2)) (by omega))))) (aD rfl)
theorem iD(Q:Ex23 K mg cl)(X1:aG P w K mg base 2 "require_whole" aH (sQ (cl 5)))(G1:Fn P w K mg base 2 "require_whole" dI)(F:Fun K "require_number" "require_number" bG f fd)(hm:mg "require_number"=some (.ref f))(hb:Binds K fd ["value","lowest","highest"] []):
  aG P w K mg base 3 "require_number" aH (fB (cl 5)):=by
 refine ay F eU hm hb (λds C h=> ?_) (λcdv A outer s H E hr ds C h ht=> ?_)
 ·obtain⟨d,lo,hi,rfl,hd,rfl⟩:=h
  have hd:=hd.own
  exact⟨rfl,λz hz=>by simp only[List.mem_cons,List.not_mem_nil,or_false]at hz;rcases hz with rfl|rfl|rfl<;>first|rfl|assumption⟩
 ·obtain⟨d,lo,hi,rfl,hd,rfl⟩:=h
  rcases hd with hd|⟨i,rfl,hi'⟩
  ·exact aq (ag X1 hr (ad (af 0) ae) ⟨d,rfl,hd,rfl⟩ ht.on)
  ·refine az (ah G1 hr (ad (af 0) ae) ⟨i,rfl,rfl⟩) ?_
   refine ck (λ_=>False) (k:=true) ?_ (λ_=>cn ht.made (Q.q 5 (by decide)) PySem.F.excBase_ValueError rfl PySem.F.excBase_ValueError Q.m5 hr.hd (ad cj ae) (by simp)) (λz=>by cases z) (λ_ z=>z.elim)
   by_cases h1:i<lo
   ·exact bH (jD (Et.tt (im (af 0) (af 1)) h1))
   ·exact bH (fG (Et.ff' (im (af 0) (af 1)) h1) (gI (Et.tt (oR (af 0) (af 2)) (by omega))))
theorem i5(T:Tx mg)(F:Fun K "common_divisor" "common_divisor" bW f fd)(hm:mg "common_divisor"=some (.ref f))(hb:Binds K fd ["one","other"] []):
  Fn P w K mg base 1 "common_divisor" dq:=by
 refine aL F eS hm hb (λds d h=> ?_) (λcdv A outer s H E hr ds d h=> ?_)
 ·obtain⟨a,b,rfl,rfl⟩:=h
  exact⟨rfl,by simp⟩
 ·obtain⟨a,b,rfl,rfl⟩:=h
  have nd:=eS.nd
  refine au 2 (uM T.abs (af 0)) (.int _) (au 3 (uM T.abs (af 1)) (.int _) ?_ nd) nd
  refine e8 (λρ=>∃g l r,ρ=[some (.int a),some (.int b),some (.int g),some (.int l),r]∧0≤g∧0≤l∧Int.gcd g l=Int.gcd a b)
   (λρ=>∃g r,ρ=[some (.int a),some (.int b),some (.int g),some (.int 0),r]∧0≤g∧Int.gcd g 0=Int.gcd a b)
   (λρ=>(o0 ρ 3).natAbs) PassesOwn.never ⟨(a.natAbs:Int),(b.natAbs:Int),none,rfl,by omega,by omega,M.gcd_abs a b⟩ ?_ ?_
  ·rintro ρ ⟨g,l,r,rfl,hg,hl,e⟩
   refine⟨_,eM (af 3) aa,λhk=> ?_,λhk=> ?_⟩
   ·have hl0:l≠0:=by simpa using hk
    have hp:0<l:=by omega
    have h1:=Int.emod_nonneg g hl0
    have h2:=Int.emod_lt_of_pos g hp
    refine au 4 (aA (af 2) (af 3) hp) (.int _) (au 2 (af 3) (.int _) (au 3 (af 4) (.int _) (aD ⟨⟨l,g%l,_,rfl,hl,h1,?_⟩,?_⟩) nd) nd) nd
    ·rw[M.emod_gcd]
     exact e
    ·show(g%l).natAbs<l.natAbs
     omega
   ·have hl0:l=0:=by simpa using hk
    subst hl0
    exact⟨g,r,rfl,hg,e⟩
  ·rintro ρ ⟨g,r,rfl,hg,e⟩
   refine ax (af 2) ?_
   show D.int g=D.int _
   rw[← e,Int.gcd_zero_right]
   congr 1
   omega
theorem fL(F:Fun K "divisor_with_shares" "divisor_with_shares" bj f fd)(hm:mg "divisor_with_shares"=some (.ref f))(hb:Binds K fd ["one","other"] []): oB P w K mg base 1 "divisor_with_shares" sG lG:=by
 refine jF F di hm hb (λds h=> ?_) (λcdv A outer s H E hr ds h=> ?_)
 ·obtain⟨a,b,rfl,_⟩:=h
  exact⟨rfl,by simp⟩
 ·obtain⟨one,other,rfl,s1,s2⟩:=h
  have nd:=di.nd
  refine au 2 (af 0) (.int _) ?_ nd
  refine au 3 aa (.int _) ?_ nd
  refine au 4 (af 1) (.int _) ?_ nd
  refine au 5 aa (.int _) ?_ nd
  refine e8 (λρ=>∃dv sh rs rsh t6 t7 t8,ρ=[some (.int one),some (.int other),some (.int dv),some (.int sh),some (.int rs),some (.int rsh),t6,t7,t8]∧ME.EG one other dv sh rs rsh)
   (λρ=>∃dv sh rsh t6 t7 t8,ρ=[some (.int one),some (.int other),some (.int dv),some (.int sh),some (.int 0),some (.int rsh),t6,t7,t8]∧ME.EG one other dv sh 0 rsh)
   (λρ=>(o0 ρ 4).natAbs) PassesOwn.never ⟨_,_,_,_,_,_,_,rfl,ME.EG.start one other⟩ ?_ ?_
  ·rintro ρ ⟨dv,sh,rs,rsh,t6,t7,t8,rfl,g⟩
   refine⟨_,eM (af 4) aa,λhk=> ?_,λhk=> ?_⟩
   ·have hr0:rs≠0:=by simpa using hk
    obtain⟨bd,br,bs,bq⟩:=xw g s1 s2
    obtain⟨g2,lt⟩:=g.step hr0
    have bt:=vQ hr0 bd
    refine au 6 (rN (af 2) (af 4) hr0 br) (.int _) ?_ nd
    refine au 7 (aU (af 2) (aw (af 6) (af 4) bt br)) (.int _) ?_ nd
    refine au 8 (aU (af 3) (aw (af 6) (af 5) bt bq)) (.int _) ?_ nd
    refine au 2 (af 4) (.int _) ?_ nd
    refine au 3 (af 5) (.int _) ?_ nd
    refine au 4 (af 7) (.int _) ?_ nd
    refine au 5 (af 8) (.int _) (aD ⟨⟨_,_,_,_,_,_,_,rfl,g2⟩,?_⟩) nd
    exact lt
   ·have hr0:rs=0:=by simpa using hk
    subst hr0
    exact⟨dv,sh,rsh,t6,t7,t8,rfl,g⟩
  ·rintro ρ ⟨dv,sh,rsh,t6,t7,t8,rfl,g⟩
   obtain⟨bd,_,bs,_⟩:=xw g s1 s2
   obtain⟨V,e1,e2⟩:=g.fin
   refine ck (λρ=>∃gg u v:Int,ρ=[some (.int one),some (.int other),some (.int gg),some (.int u),some (.int 0),some (.int rsh),t6,t7,t8]∧gg=(Int.gcd one other:Nat)∧gg=u*one+v*other∧Bd u 1461)
    (im (af 2) aa) (λhk=> ?_) (λhk=> ?_) ?_
   ·simp only[decide_eq_true_eq]at hk
    refine au 2 (aE (af 2)) (.int _) ?_ nd
    refine au 3 (aE (af 3)) (.int _) (aD ⟨-dv,-sh,-V,rfl,by omega,?_,⟨intBits_neg_le bs.lt⟩⟩) nd
    rw[e1]
    grind
   ·simp only[decide_eq_false_iff_not]at hk
    exact aD ⟨dv,sh,V,rfl,by omega,e1,bs⟩
   ·rintro ρ ⟨gg,u,v,rfl,hg,hl,bu⟩
    have bgg:Bd gg 1461:=by
     rw[hg]
     by_cases z:other=0
     ·subst z
      have:((Int.gcd one 0:Nat):Int)=one.natAbs:=by simp
      rw[this]
      exact(s1.le (by simp)).up _ (by decide)
     ·have:=Int.le_of_dvd (Int.natAbs_pos.mpr z |> Int.ofNat_lt.mpr) (Int.dvd_natAbs.mpr (Int.gcd_dvd_right one other))
      exact(s2.le (by omega)).up _ (by decide)
    by_cases z:other=0
    ·refine ax (ap (ad (af 2) (ad (af 3) (ad (qH (Et.ff (eM (af 1) aa) z) aa) ae)))) ?_
     intro x y e
     cases e
     exact⟨gg,u,0,rfl,hg,by rw[hl,z];omega,bu,.lit⟩
    ·have ev:(gg-u*one).fdiv other=v:=by
      have:gg-u*one=v*other:=by omega
      rw[this]
      exact Int.mul_fdiv_cancel v z
     refine ax (ap (ad (af 2) (ad (af 3) (ad (qI (Et.to (eM (af 1) aa) (by simpa using z)) (rN (aU (af 2) (aw (af 3) (af 0) bu s1)) (af 1) z s2)) ae)))) ?_
     intro x y e
     cases e
     refine⟨gg,u,v,by rw[ev],hg,hl,bu,?_⟩
     have k:Bd (v*other) 2925:=by
      have:v*other=gg-u*one:=by omega
      rw[this]
      exact Bd.sub bgg (Bd.mul bu s1 2921 (by decide)) _ (by decide)
     refine k.le ?_
     rw[Int.natAbs_mul]
     exact Nat.le_mul_of_pos_right _ (by omega)
set_option maxHeartbeats 4000000 in
theorem jK(F:Fun K "prime_factors" "prime_factors" cG f fd)(hm:mg "prime_factors"=some (.ref f))(hb:Binds K fd ["number"] []): qh P w K mg base 1 "prime_factors" yh:=by
 refine jE F fv hm hb (λds es h=> ?_) (λcdv A outer s H E hr ds es h=> ?_)
 ·obtain⟨p,rfl,_⟩:=h
  exact⟨rfl,by simp⟩
 ·obtain⟨n,rfl,n0,n1,rfl⟩:=h
  have nd:=fv.nd
  refine au 1 (af 0) (.int _) ?_ nd
  refine iX 2 (aQ ae) (λd hd=>by cases hd) (λl _=> ?_) nd
  refine au 3 aa (.int _) ?_ nd
  refine e8 (λρ=>∃(k r:Nat) (fs:List Nat),ρ=[some (nD n),some (nD r),some (.lst l (fs.map nD)),some (nD k)]∧2≤k∧k≤n+1∧0<r∧2^fs.length*r≤n∧MD.PF n=fs++MD.PF r∧∀d,2≤d→d ∣ r→k≤d)
   (λρ=>∃(k r:Nat) (fs:List Nat),ρ=[some (nD n),some (nD r),some (.lst l (fs.map nD)),some (nD k)]∧0<r∧2^fs.length*r≤n∧MD.PF n=fs++MD.PF r∧(∀d,2≤d→d ∣ r→k≤d)∧r<k*k) (λρ=>(n+2-o0 ρ 3).toNat) PassesOwn.never ⟨2,n,[],rfl,by decide,by omega,n0,by simp,rfl,λd h _=>h⟩ ?_ ?_
  ·rintro ρ ⟨k,r,fs,rfl,k2,kn,r0,hl,e,hd⟩
   have rn:r≤n:=Nat.le_trans (Nat.le_mul_of_pos_left r (Nat.pow_pos (by decide))) hl
   have bk:Bd (k:Int) 22:=.of_lt (by omega)
   refine⟨_,yZ (aw (af 3) (af 3) bk bk) (af 1),λhk=> ?_,λhk=> ?_⟩
   ·have hk':k*k≤r:=by
     have:(k:Int)*(k:Int)≤(r:Int):=by simpa using hk
     exact_mod_cast this
    have kr:k≤r:=Nat.le_trans (Nat.le_mul_self k) hk'
    refine e8 (λρ=>∃(r:Nat) (fs:List Nat),ρ=[some (nD n),some (nD r),some (.lst l (fs.map nD)),some (nD k)]∧0<r∧2^fs.length*r≤n∧MD.PF n=fs++MD.PF r∧∀d,2≤d→d ∣ r→k≤d)
     (λρ=>∃(r:Nat) (fs:List Nat),ρ=[some (nD n),some (nD r),some (.lst l (fs.map nD)),some (nD k)]∧0<r∧2^fs.length*r≤n∧MD.PF n=fs++MD.PF r∧(∀d,2≤d→d ∣ r→k≤d)∧¬k ∣ r) (λρ=>(o0 ρ 1).toNat) PassesOwn.never ⟨r,fs,rfl,r0,hl,e,hd⟩ ?_ ?_
    ·rintro ρ ⟨r,fs,rfl,r0,hl,e,hd⟩
     refine⟨_,aj (aA (af 1) (af 3) (by omega)) aa,λhk=> ?_,λhk=> ?_⟩
     ·have hk':r%k=0:=by
       have:(r:Int)%(k:Int)=0:=by simpa using hk
       exact_mod_cast this
      obtain⟨m,rfl⟩:=Nat.dvd_of_mod_eq_zero hk'
      have m0:0<m:=Nat.pos_of_mul_pos_left r0
      have fl:fs.length<22:=mS (Nat.le_trans (Nat.le_mul_of_pos_right _ r0) hl) n1
      have e2:MD.PF (k*m)=k::MD.PF m:=MD.PF_cons k2 m0 hd
      have em:((k*m:Nat):Int)/(k:Int)=(m:Int):=by
       rw[Int.natCast_mul]
       exact Int.mul_ediv_cancel_left _ (by omega)
      refine eZ 2 rfl (af 3) (.int _) (by rw[List.length_map];omega) (dU rfl) ?_
      refine au 1 (d:=nD m) (Ev.to (aM (af 1) (af 3) (by omega) bk) (congrArg D.int em)) (.int _) (aD ⟨⟨m,fs++[k],?_,m0,?_,?_,λd d2 dm=>hd d d2 (Nat.dvd_trans dm (Nat.dvd_mul_left m k))⟩,?_⟩) nd
      ·rw[List.map_append]
       rfl
      ·rw[List.length_append,List.length_singleton,Nat.pow_succ,Nat.mul_assoc]
       exact Nat.le_trans (Nat.mul_le_mul_left _ (Nat.mul_le_mul_right m k2)) hl
      ·rw[e,e2,List.append_assoc]
       rfl
      ·show((m:Nat):Int).toNat<((k*m:Nat):Int).toNat
       have:=Nat.mul_le_mul_right m k2
       omega
     ·have hk':¬r%k=0:=λz=>by
       have:¬(r:Int)%(k:Int)=0:=by simpa using hk
       exact this (by exact_mod_cast z)
      exact⟨r,fs,rfl,r0,hl,e,hd,λz=>hk' (Nat.mod_eq_zero_of_dvd z)⟩
    ·rintro ρ ⟨r',fs',rfl,r0',hl',e',hd',hn⟩
     refine xO 3 rfl aa (aD ⟨⟨k+1,r',fs',rfl,by omega,by omega,r0',hl',e',λd d2 dr=> ?_⟩,?_⟩) nd
     ·have h1:=hd' d d2 dr
      by_cases z:d=k
      ·subst z
       exact absurd dr hn
      ·omega
     ·show((n:Int)+2-((k:Int)+1)).toNat<((n:Int)+2-(k:Int)).toNat
      omega
   ·have hk':r<k*k:=by
     have:¬(k:Int)*(k:Int)≤(r:Int):=by simpa using hk
     exact Nat.not_le.mp λz=>this (by exact_mod_cast z)
    exact⟨k,r,fs,rfl,r0,hl,e,hd,hk'⟩
  ·rintro ρ ⟨k,r,fs,rfl,r0,hl,e,hd,hk⟩
   have fl:fs.length<22:=mS (Nat.le_trans (Nat.le_mul_of_pos_right _ r0) hl) n1
   refine ck (λρ=>ρ=[some (nD n),some (nD r),some (.lst l ((MD.PF n).map nD)),some (nD k)]) (oR (af 1) aa) (λhk=> ?_) (λhk=> ?_) ?_
   ·have h1:1<r:=by
     have:(1:Int)<(r:Int):=by simpa using hk
     omega
    refine eZ 2 rfl (af 1) (.int _) (by rw[List.length_map];omega) (dU rfl) (aD ?_)
    rw[e,wf h1 hd (by assumption),List.map_append]
    rfl
   ·have h1:r=1:=by
     have:¬(1:Int)<(r:Int):=by simpa using hk
     omega
    refine aD ?_
    rw[e,h1,MD.PF_small (show 1<2 by decide),List.append_nil]
   ·rintro ρ rfl
    exact ax (af 2) ⟨l,rfl⟩ (λa z=>by cases z;exact⟨2,_,rfl,rfl⟩)
theorem i8(T:Tx mg)(Gp:qh P w K mg base 1 "prime_factors" yh)(F:Fun K "prime_divisors" "prime_divisors" bZ f fd)(hm:mg "prime_divisors"=some (.ref f))(hb:Binds K fd ["number"] []): qh P w K mg base 2 "prime_divisors" yg:=by
 refine jE F jq hm hb (λds es h=> ?_) (λcdv A outer s H E hr ds es h=> ?_)
 ·obtain⟨p,rfl,_⟩:=h
  exact⟨rfl,by simp⟩
 ·obtain⟨n,rfl,n0,n1,rfl⟩:=h
  have e:(MD.PF n).map nD=((MD.PF n).map λ(p:Nat)=>(p:Int)).map D.int:=by rw[List.map_map];rfl
  exact iW (FK.evn_sortedSet rfl T.sorted T.set (iS.ev (cO Gp hr (ad (af 0) ae) ⟨n,rfl,n0,n1,rfl⟩)) (congrArg some e) (by rw[List.length_map];exact xH n0 n1) (xo n) λk=>ul) λl=>⟨l,rfl⟩
set_option maxHeartbeats 1000000 in
theorem pF(F:Fun K "power_by" "power_by" fQ f fd)(hm:mg "power_by"=some (.ref f))(hb:Binds K fd ["base","exponent","divisor"] []): Fn P w K mg base 1 "power_by" sk:=by
 refine aL F jZ hm hb (λds d h=> ?_) (λcdv A outer s H E hr ds d h=> ?_)
 ·obtain⟨b,p,e,rfl,_⟩:=h
  exact⟨rfl,by simp⟩
 ·obtain⟨b,p,e,rfl,p2,pl,b0,b1,rfl⟩:=h
  have nd:=jZ.nd
  refine au 3 aa (.int _) ?_ nd
  refine e8 (λρ=>∃(g t:Int) (n:Nat),ρ=[some (.int t),some (.int (n:Int)),some (.int p),some (.int g)]∧0≤g∧g<p∧0≤t∧t<p∧MP.Sm p (g*t^n) (b^e))
   (λρ=>∃(g:Int) (u v:Option D),ρ=[u,v,some (.int p),some (.int g)]∧0≤g∧g<p∧MP.Sm p g (b^e)) (λρ=>(o0 ρ 1).natAbs) PassesOwn.never ⟨1,b,e,rfl,by omega,by omega,b0,b1,by rw[Int.one_mul];exact MP.Sm.refl _ _⟩ ?_ ?_
  ·rintro ρ ⟨g,t,n,rfl,g0,g1,t0,t1,hs⟩
   have bg:Bd g 22:=.of_lt (by omega)
   have bt:Bd t 22:=.of_lt (by omega)
   refine⟨_,oR (af 1) aa,λhk=> ?_,λhk=> ?_⟩
   ·have n0:0<n:=by simpa using hk
    have hs2:=(MP.Sm.symm (vB p g t n)).trans hs
    refine ck (λρ=>ρ=[some (.int t),some (.int (n:Int)),some (.int p),some (.int (if n%2=1 then g*t%p else g))]) (aj (aA (af 1) aa (by decide)) aa) (λhk=> ?_) (λhk=> ?_) ?_
    ·have h1:n%2=1:=by simp only[decide_eq_true_eq]at hk;omega
     rw[if_pos h1]
     exact au 3 (aA (aw (af 3) (af 0) bg bt) (af 2) (by omega)) (.int _) (aD rfl) nd
    ·have h1:¬n%2=1:=by simp only[decide_eq_false_iff_not]at hk;omega
     rw[if_neg h1]
     exact aD rfl
    ·rintro ρ rfl
     have g2:0≤(if n%2=1 then g*t%p else g)∧(if n%2=1 then g*t%p else g)<p:=by
      split
      ·exact⟨Int.emod_nonneg _ (by omega),Int.emod_lt_of_pos _ (by omega)⟩
      ·exact⟨g0,g1⟩
     generalize (if n%2=1 then g*t%p else g)=g' at *
     refine au 0 (aA (aw (af 0) (af 0) bt bt) (af 2) (by omega)) (.int _) ?_ nd
     refine au 1 (d:=.int ((n/2:Nat):Int)) (Ev.to (aM (af 1) aa (by decide) bd_2) (congrArg D.int (by omega))) (.int _) (aD ⟨⟨g',t*t%p,n/2,rfl,g2.1,g2.2,Int.emod_nonneg _ (by omega),Int.emod_lt_of_pos _ (by omega),hs2⟩,?_⟩) nd
     show(((n/2:Nat):Int)).natAbs<((n:Int)).natAbs
     omega
   ·have n0:n=0:=by simp only[decide_eq_false_iff_not]at hk;omega
    subst n0
    refine⟨g,_,_,rfl,g0,g1,?_⟩
    rw[Int.pow_zero,Int.mul_one]at hs
    exact hs
  ·rintro ρ ⟨g,u,v,rfl,g0,g1,hs⟩
   refine ax (af 3) ?_
   show D.int _=D.int _
   congr 1
   have e:=hs.emod
   rw[Int.emod_eq_of_lt g0 g1]at e
   exact e
theorem jJ(G1:Fn P w K mg base 1 "power_by" sk)(F:Fun K "leaves_square" "leaves_square" cF f fd)(hm:mg "leaves_square"=some (.ref f))(hb:Binds K fd ["number","prime"] []): Fn P w K mg base 2 "leaves_square" pK:=by
 refine aL F jN hm hb (λds d h=> ?_) (λcdv A outer s H E hr ds d h=> ?_)
 ·obtain⟨i,p,rfl,_⟩:=h
  exact⟨rfl,by simp⟩
 ·obtain⟨i,p,rfl,p3,po,pl,rfl⟩:=h
  have e1:((p:Int)-1)/2=((p/2:Nat):Int):=by omega
  have e2:(i%(p:Int))^(p/2)%(p:Int)=i^(p/2)%(p:Int):=((MP.Sm.mod (p:Int) i).pow _).emod
  refine ax (gH (Ev.to (ah G1 hr (ad (aA (af 0) (af 1) (by omega)) (ad (Ev.to (aM (aU (af 1) aa) aa (by decide) bd_2) (congrArg D.int e1)) (ad (af 1) ae))) ⟨i%(p:Int),p,p/2,rfl,by omega,by omega,Int.emod_nonneg _ (by omega),Int.emod_lt_of_pos _ (by omega),rfl⟩) (congrArg D.int e2)) aa) rfl
theorem i4(F:Fun K "bar_of_numbers" "bar_of_numbers" bV f fd)(hm:mg "bar_of_numbers"=some (.ref f))(hb:Binds K fd ["a","b","c"] []):
  Fn P w K mg base 1 "bar_of_numbers" bU:=by
 refine aL F jn hm hb (λds d h=> ?_) (λcdv A outer s H E hr ds d h=> ?_)
 ·obtain⟨a,b,c,rfl,_,_,_,rfl⟩:=h
  exact⟨rfl,by simp⟩
 ·obtain⟨a,b,c,rfl,ha,hb,hc,rfl⟩:=h
  exact ax (aU (aw (af 1) (af 1) inferInstance inferInstance) (aw (aw aa (af 0) inferInstance inferInstance) (af 2) inferInstance inferInstance)) rfl
theorem q9(G1:Fn P w K mg base 2 "is_whole_tuple" dt)(G2:Fn P w K mg base 1 "bar_of_numbers" bU)(F:Fun K "is_form" "is_form" fj f fd)(hm:mg "is_form"=some (.ref f))(hb:Binds K fd ["value"] []):
  Fn P w K mg base 3 "is_form" mO:=by
 refine aL F lK hm hb (λds d h=> ?_) (λcdv A outer s H E hr ds d h=> ?_)
 ·obtain⟨a,b,c,rfl,_,rfl⟩:=h
  exact⟨rfl,by simp⟩
 ·obtain⟨a,b,c,rfl,hf,rfl⟩:=h
  refine ak (cz (aJ (ah G1 hr (ad (af 0) (ad aa ae)) ⟨[a,b,c],rfl,by simp,rfl⟩))) ?_
  refine ax (dw (Ev.tt (uP (av (af 0) aa rfl) aa) hf.pos) (iJ (Ev.tt (oS (ah G2 hr.m (ad (av (af 0) aa rfl) (ad (av (af 0) aa rfl) (ad (av (af 0) aa rfl) ae)))
   ⟨a,b,c,rfl,hf.sa,hf.sb,hf.sc,rfl⟩) aa) hf.bar))) rfl
theorem oG(X1:Fn P w K mg base 2 "is_whole_tuple" d7)(G2:Fn P w K mg base 1 "bar_of_numbers" bU)(F:Fun K "is_form" "is_form" fj f fd)(hm:mg "is_form"=some (.ref f))(hb:Binds K fd ["value"] []):
  Fn P w K mg base 3 "is_form" lC:=by
 refine aL F lK hm hb (λds d h=> ?_) (λcdv A outer s H E hr ds d h=> ?_)
 ·obtain⟨e,rfl,he,rfl⟩:=h
  exact⟨rfl,λz hz=>by simp only[List.mem_cons,List.not_mem_nil,or_false]at hz;subst hz;exact he.own⟩
 ·obtain⟨e,rfl,he,rfl⟩:=h
  cases he with
  | lst es=>exact ao (k:=true) (bJ (aJ (ah X1 hr (ad (af 0) (ad aa ae)) ⟨_,3,rfl,.inr ⟨.inr (.inr ⟨es,rfl⟩),rfl⟩⟩))) (λ_=>ax bO rfl) (λz=>by cases z)
  | non=>exact ao (k:=true) (bJ (aJ (ah X1 hr (ad (af 0) (ad aa ae)) ⟨_,3,rfl,.inr ⟨.inl rfl,rfl⟩⟩))) (λ_=>ax bO rfl) (λz=>by cases z)
  | tup hl hw h=>exact ao (k:=true) (bJ (aJ (Ev.to (ah X1 hr (ad (af 0) (ad aa ae)) ⟨_,3,rfl,.inl ⟨_,_,rfl,by omega,hw,rfl⟩⟩) (by rw[h])))) (λ_=>ax bO rfl) (λz=>by cases z)
  | str x=>exact ao (k:=true) (bJ (aJ (ah X1 hr (ad (af 0) (ad aa ae)) ⟨_,3,rfl,.inr ⟨.inr (.inl ⟨x,rfl⟩),rfl⟩⟩))) (λ_=>ax bO rfl) (λz=>by cases z)
  | num sa sb sc h=>
   rename_i a b c
   refine ak (cz (aJ (ah X1 hr (ad (af 0) (ad aa ae)) ⟨_,3,rfl,.inl ⟨_,[true,true,true],rfl,by simp,rfl,rfl⟩⟩))) ?_
   by_cases pa:0<a
   ·have hb:¬b*b-4*a*c<0:=λz=>h ⟨pa,z⟩
    refine ax (dw (Ev.tt (uP (av (af 0) aa rfl) aa) pa) (iJ (oS (ah G2 hr.m (ad (av (af 0) aa rfl) (ad (av (af 0) aa rfl) (ad (av (af 0) aa rfl) ae)))
     ⟨a,b,c,rfl,sa,sb,sc,rfl⟩) aa))) ?_
    rw[decide_eq_false hb]
   ·exact ax (fF (Ev.ff (uP (av (af 0) aa rfl) aa) pa)) rfl
theorem ko(G1:Fn P w K mg base 3 "is_form" mO)(F:Fun K "require_form" "require_form" bS f fd)(hm:mg "require_form"=some (.ref f))(hb:Binds K fd ["value"] []):
  Fn P w K mg base 4 "require_form" aB:=by
 refine aL F gu hm hb (λds d h=> ?_) (λcdv A outer s H E hr ds d h=> ?_)
 ·obtain⟨a,b,c,rfl,_,rfl⟩:=h
  exact⟨rfl,by simp⟩
 ·obtain⟨a,b,c,rfl,hf,rfl⟩:=h
  exact ak (cz (aJ (ah G1 hr (ad (af 0) ae) ⟨a,b,c,rfl,hf,rfl⟩))) (aD rfl)
theorem jA(Q:Ex23 K mg cl)(X1:Fn P w K mg base 3 "is_form" lC)(F:Fun K "require_form" "require_form" bS f fd)(hm:mg "require_form"=some (.ref f))(hb:Binds K fd ["value"] []):
  aG P w K mg base 4 "require_form" aH (gz (cl 0)):=by
 refine ay F gu hm hb (λds C h=> ?_) (λcdv A outer s H E hr ds C h ht=> ?_)
 ·obtain⟨d,rfl,hd,rfl⟩:=h
  exact⟨rfl,λz hz=>by simp only[List.mem_cons,List.not_mem_nil,or_false]at hz;subst hz;exact hd.own⟩
 ·obtain⟨d,rfl,hd,rfl⟩:=h
  exact ck (λ_=>False) (k:=true) (bJ (aJ (ah X1 hr (ad (af 0) ae) ⟨d,rfl,hd,rfl⟩))) (λ_=>cn ht.made (Q.q 0 (by decide)) PySem.F.excBase_ValueError rfl PySem.F.excBase_ValueError Q.m0 hr.hd (ad cj ae) (by simp)) (λz=>by cases z) (λ_ z=>z.elim)
theorem tS(G1:Fn P w K mg base 4 "require_form" aB)(G2:Fn P w K mg base 1 "bar_of_numbers" bU)(F:Fun K "bar_of" "bar_of" gO f fd)(hm:mg "bar_of"=some (.ref f))(hb:Binds K fd ["form"] []):
  Fn P w K mg base 5 "bar_of" bE:=by
 refine aL F mU hm hb (λds d h=> ?_) (λcdv A outer s H E hr ds d h=> ?_)
 ·obtain⟨a,b,c,rfl,_,rfl⟩:=h
  exact⟨rfl,by simp⟩
 ·obtain⟨a,b,c,rfl,hf,rfl⟩:=h
  refine az (ah G1 hr (ad (af 0) ae) ⟨a,b,c,rfl,hf,rfl⟩) ?_
  exact ax (ah G2 hr.m (ad (av (af 0) aa rfl) (ad (av (af 0) aa rfl) (ad (av (af 0) aa rfl) ae))) ⟨a,b,c,rfl,hf.sa,hf.sb,hf.sc,rfl⟩) rfl
theorem qp(X1:aG P w K mg base 4 "require_form" aH (gz (cl 0)))(F:Fun K "bar_of" "bar_of" gO f fd)(hm:mg "bar_of"=some (.ref f))(hb:Binds K fd ["form"] []):
  aG P w K mg base 5 "bar_of" aH (gz (cl 0)):=by
 refine ay F mU hm hb (λds C h=> ?_) (λcdv A outer s H E hr ds C h ht=> ?_)
 ·obtain⟨d,rfl,hd,rfl⟩:=h
  exact⟨rfl,λz hz=>by simp only[List.mem_cons,List.not_mem_nil,or_false]at hz;subst hz;exact hd.own⟩
 ·obtain⟨d,rfl,hd,rfl⟩:=h
  exact aq (ag X1 hr.m (ad (af 0) ae) ⟨d,rfl,hd,rfl⟩ ht.on)
theorem vk(G1:Fn P w K mg base 4 "require_form" aB)(F:Fun K "worth" "worth" jm f fd)(hm:mg "worth"=some (.ref f))(hb:Binds K fd ["form","place"] []):
  Fn P w K mg base 5 "worth" sB:=by
 refine aL F lS hm hb (λds d h=> ?_) (λcdv A outer s H E hr ds d h=> ?_)
 ·obtain⟨a,b,c,x,y,rfl,_,_,_,rfl⟩:=h
  exact⟨rfl,by simp⟩
 ·obtain⟨a,b,c,x,y,rfl,hf,hx,hy,rfl⟩:=h
  have nd:=lS.nd
  have ha:=hf.sa
  have hb:=hf.sb
  have hc:=hf.sc
  refine az (ah G1 hr (ad (af 0) ae) ⟨a,b,c,rfl,hf,rfl⟩) ?_
  refine au 2 (av (af 1) aa rfl) (.int x) (au 3 (av (af 1) aa rfl) (.int y) ?_ nd) nd
  exact ax (aI (aI (aw (aw (av (af 0) aa rfl) (af 2) inferInstance inferInstance) (af 2) inferInstance inferInstance) (aw (aw (av (af 0) aa rfl) (af 2) inferInstance inferInstance) (af 3) inferInstance inferInstance))
   (aw (aw (av (af 0) aa rfl) (af 3) inferInstance inferInstance) (af 3) inferInstance inferInstance)) rfl
theorem sX(X1:aG P w K mg base 4 "require_form" aH (gz (cl 0)))(F:Fun K "worth" "worth" jm f fd)(hm:mg "worth"=some (.ref f))(hb:Binds K fd ["form","place"] []):
  aG P w K mg base 5 "worth" aH (yJ (cl 0)):=by
 refine ay F lS hm hb (λds C h=> ?_) (λcdv A outer s H E hr ds C h ht=> ?_)
 ·obtain⟨d,e,rfl,hd,he,rfl⟩:=h
  have hd:=hd.own
  exact⟨rfl,λz hz=>by simp only[List.mem_cons,List.not_mem_nil,or_false]at hz;rcases hz with rfl|rfl<;>first|rfl|assumption⟩
 ·obtain⟨d,e,rfl,hd,he,rfl⟩:=h
  exact aq (ag X1 hr.m (ad (af 0) ae) ⟨d,rfl,hd,rfl⟩ ht.on)
theorem qZ(G1:Fn P w K mg base 4 "require_form" aB)(G2:Fn P w K mg base 1 "common_divisor" dq)(F:Fun K "is_bare" "is_bare" fh f fd)(hm:mg "is_bare"=some (.ref f))(hb:Binds K fd ["form"] []):
  Fn P w K mg base 5 "is_bare" fc:=by
 refine aL F lJ hm hb (λds d h=> ?_) (λcdv A outer s H E hr ds d h=> ?_)
 ·obtain⟨a,b,c,rfl,_,rfl⟩:=h
  exact⟨rfl,by simp⟩
 ·obtain⟨a,b,c,rfl,hf,rfl⟩:=h
  refine az (ah G1 hr (ad (af 0) ae) ⟨a,b,c,rfl,hf,rfl⟩) ?_
  have hr1:=hr.mono (show 1≤4 by decide)
  exact ax (gH (ah G2 hr1 (ad (ah G2 hr1 (ad (av (af 0) aa rfl) (ad (av (af 0) aa rfl) ae)) ⟨a,b,rfl,rfl⟩) (ad (av (af 0) aa rfl) ae)) ⟨_,c,rfl,rfl⟩) aa) rfl
theorem oE(X1:aG P w K mg base 4 "require_form" aH (gz (cl 0)))(F:Fun K "is_bare" "is_bare" fh f fd)(hm:mg "is_bare"=some (.ref f))(hb:Binds K fd ["form"] []):
  aG P w K mg base 5 "is_bare" aH (gz (cl 0)):=by
 refine ay F lJ hm hb (λds C h=> ?_) (λcdv A outer s H E hr ds C h ht=> ?_)
 ·obtain⟨d,rfl,hd,rfl⟩:=h
  exact⟨rfl,λz hz=>by simp only[List.mem_cons,List.not_mem_nil,or_false]at hz;subst hz;exact hd.own⟩
 ·obtain⟨d,rfl,hd,rfl⟩:=h
  exact aq (ag X1 hr.m (ad (af 0) ae) ⟨d,rfl,hd,rfl⟩ ht.on)
theorem mo(G1:Fn P w K mg base 2 "is_whole_tuple" dt)(F:Fun K "is_turning" "is_turning" cU f fd)(hm:mg "is_turning"=some (.ref f))(hb:Binds K fd ["value"] []): Fn P w K mg base 3 "is_turning" jc:=by
 refine aL F iw hm hb (λds d h=> ?_) (λcdv A outer s H E hr ds d h=> ?_)
 ·obtain⟨p,q,r,s,rfl,_,rfl⟩:=h
  exact⟨rfl,by simp⟩
 ·obtain⟨p,q,r,s',rfl,ht,rfl⟩:=h
  refine ak (cz (aJ (ah G1 hr (ad (af 0) (ad aa ae)) ⟨[p,q,r,s'],rfl,by simp,rfl⟩))) ?_
  exact ax (Ev.tt (gH (aU (aw (av (af 0) aa rfl) (av (af 0) aa rfl) ht.sp ht.ss) (aw (av (af 0) aa rfl) (av (af 0) aa rfl) ht.sq ht.sr)) aa) ht.det) rfl
theorem kO(X1:Fn P w K mg base 2 "is_whole_tuple" d7)(F:Fun K "is_turning" "is_turning" cU f fd)(hm:mg "is_turning"=some (.ref f))(hb:Binds K fd ["value"] []):
  Fn P w K mg base 3 "is_turning" ir:=by
 refine aL F iw hm hb (λds d h=> ?_) (λcdv A outer s H E hr ds d h=> ?_)
 ·obtain⟨e,rfl,he,rfl⟩:=h
  exact⟨rfl,λz hz=>by simp only[List.mem_cons,List.not_mem_nil,or_false]at hz;subst hz;exact he.own⟩
 ·obtain⟨e,rfl,he,rfl⟩:=h
  cases he with
  | lst es=>exact ao (k:=true) (bJ (aJ (ah X1 hr (ad (af 0) (ad aa ae)) ⟨_,4,rfl,.inr ⟨.inr (.inr ⟨es,rfl⟩),rfl⟩⟩))) (λ_=>ax bO rfl) (λz=>by cases z)
  | non=>exact ao (k:=true) (bJ (aJ (ah X1 hr (ad (af 0) (ad aa ae)) ⟨_,4,rfl,.inr ⟨.inl rfl,rfl⟩⟩))) (λ_=>ax bO rfl) (λz=>by cases z)
  | tup hl hw h=>exact ao (k:=true) (bJ (aJ (Ev.to (ah X1 hr (ad (af 0) (ad aa ae)) ⟨_,4,rfl,.inl ⟨_,_,rfl,by omega,hw,rfl⟩⟩) (by rw[h])))) (λ_=>ax bO rfl) (λz=>by cases z)
  | num hp hq hr' hs h=>
   rename_i p q r s'
   refine ak (cz (aJ (ah X1 hr (ad (af 0) (ad aa ae)) ⟨_,4,rfl,.inl ⟨_,[true,true,true,true],rfl,by simp,rfl,rfl⟩⟩))) ?_
   refine ax (gH (aU (aw (av (af 0) aa rfl) (av (af 0) aa rfl) hp hs) (aw (av (af 0) aa rfl) (av (af 0) aa rfl) hq hr')) aa) ?_
   rw[decide_eq_false h]
theorem iM(G1:Fn P w K mg base 3 "is_turning" jc)(F:Fun K "require_turning" "require_turning" bo f fd)(hm:mg "require_turning"=some (.ref f))(hb:Binds K fd ["value"] []): Fn P w K mg base 4 "require_turning" cT:=by
 refine aL F eB hm hb (λds d h=> ?_) (λcdv A outer s H E hr ds d h=> ?_)
 ·obtain⟨p,q,r,s,rfl,_,rfl⟩:=h
  exact⟨rfl,by simp⟩
 ·obtain⟨p,q,r,s',rfl,ht,rfl⟩:=h
  exact ak (cz (aJ (ah G1 hr (ad (af 0) ae) ⟨p,q,r,s',rfl,ht,rfl⟩))) (aD rfl)
theorem ig(Q:Ex23 K mg cl)(X1:Fn P w K mg base 3 "is_turning" ir)(F:Fun K "require_turning" "require_turning" bo f fd)(hm:mg "require_turning"=some (.ref f))(hb:Binds K fd ["value"] []):
  aG P w K mg base 4 "require_turning" aH (yI (cl 1)):=by
 refine ay F eB hm hb (λds C h=> ?_) (λcdv A outer s H E hr ds C h ht=> ?_)
 ·obtain⟨d,rfl,hd,rfl⟩:=h
  exact⟨rfl,λz hz=>by simp only[List.mem_cons,List.not_mem_nil,or_false]at hz;subst hz;exact hd.own⟩
 ·obtain⟨d,rfl,hd,rfl⟩:=h
  exact ck (λ_=>False) (k:=true) (bJ (aJ (ah X1 hr (ad (af 0) ae) ⟨d,rfl,hd,rfl⟩))) (λ_=>cn ht.made (Q.q 1 (by decide)) PySem.F.excBase_ValueError rfl PySem.F.excBase_ValueError Q.m1 hr.hd (ad cj ae) (by simp)) (λz=>by cases z) (λ_ z=>z.elim)
theorem wQ(F:Fun K "sent" "sent" n9 f fd)(hm:mg "sent"=some (.ref f))(hb:Binds K fd ["turning","place"] []): Fn P w K mg base 1 "sent" lD:=by
 refine aL F sJ hm hb (λds d h=> ?_) (λcdv A outer s H E hr ds d h=> ?_)
 ·obtain⟨p,q,r,s,x,y,rfl,_,_,_,_,_,_,rfl⟩:=h
  exact⟨rfl,by simp⟩
 ·obtain⟨p,q,r,s',x,y,rfl,hp,hq,hr',hs,hx,hy,rfl⟩:=h
  have nd:=sJ.nd
  refine au 2 (av (af 1) aa rfl) (.int _) ?_ nd
  refine au 3 (av (af 1) aa rfl) (.int _) ?_ nd
  exact ax (ap (ad (aI (aw (av (af 0) aa rfl) (af 2) hp hx) (aw (av (af 0) aa rfl) (af 3) hq hy)) (ad (aI (aw (av (af 0) aa rfl) (af 2) hr' hx) (aw (av (af 0) aa rfl) (af 3) hs hy)) ae))) rfl
theorem qy(X1:aG P w K mg base 4 "require_form" aH (gz (cl 0)))(G1:Fn P w K mg base 4 "require_form" aB)(X2:aG P w K mg base 4 "require_turning" aH (yI (cl 1)))(F:Fun K "turned" "turned" jl f fd)(hm:mg "turned"=some (.ref f))(hb:Binds K fd ["form","turning"] []):
  aG P w K mg base 6 "turned" aH (lY cl):=by
 refine ay F uc hm hb (λds C h=> ?_) (λcdv A outer s H E hr ds C h ht=> ?_)
 ·rcases h with⟨d,e,rfl,hd,he,rfl⟩|h
  ·have hd:=hd.own
   exact⟨rfl,λz hz=>by simp only[List.mem_cons,List.not_mem_nil,or_false]at hz;rcases hz with rfl|rfl<;>first|rfl|assumption⟩
  ·obtain⟨a,b,c,t,rfl,hf,hd,rfl⟩:=h
   have hd:=hd.own
   exact⟨rfl,λz hz=>by simp only[List.mem_cons,List.not_mem_nil,or_false]at hz;rcases hz with rfl|rfl<;>first|rfl|assumption⟩
 ·rcases h with⟨d,e,rfl,hd,he,rfl⟩|⟨a,b,c,t,rfl,hf,hd,rfl⟩
  ·exact aq (ag X1 hr.m (ad (af 0) ae) ⟨d,rfl,hd,rfl⟩ ht.on)
  ·refine az (ah G1 hr.m (ad (af 0) ae) ⟨a,b,c,rfl,hf,rfl⟩) ?_
   exact aq (ag X2 hr.m (ad (af 1) ae) ⟨t,rfl,hd,rfl⟩ ht.on)
theorem qq(X1:aG P w K mg base 4 "require_turning" aH (yI (cl 1)))(G1:Fn P w K mg base 4 "require_turning" cT)(F:Fun K "behind" "behind" jg f fd)(hm:mg "behind"=some (.ref f))(hb:Binds K fd ["one","other"] []):
  aG P w K mg base 5 "behind" aH (qf cl):=by
 refine ay F ua hm hb (λds C h=> ?_) (λcdv A outer s H E hr ds C h ht=> ?_)
 ·obtain⟨t,u,rfl,rfl,h⟩:=h
  rcases h with⟨hd,he⟩|⟨p,q,r,s,rfl,hT,hd⟩
  ·have hd:=hd.own
   exact⟨rfl,λz hz=>by simp only[List.mem_cons,List.not_mem_nil,or_false]at hz;rcases hz with rfl|rfl<;>first|rfl|assumption⟩
  ·have hd:=hd.own
   exact⟨rfl,λz hz=>by simp only[List.mem_cons,List.not_mem_nil,or_false]at hz;rcases hz with rfl|rfl<;>first|rfl|assumption⟩
 ·obtain⟨t,u,rfl,rfl,h⟩:=h
  rcases h with⟨hd,he⟩|⟨p,q,r,s',rfl,hT,hd⟩
  ·exact aq (ag X1 hr (ad (af 0) ae) ⟨t,rfl,hd,rfl⟩ ht.on)
  ·refine az (ah G1 hr (ad (af 0) ae) ⟨p,q,r,s',rfl,hT,rfl⟩) ?_
   exact aq (ag X1 hr (ad (af 1) ae) ⟨u,rfl,hd,rfl⟩ ht.on)
theorem pH(G1:Fn P w K mg base 4 "require_turning" cT)(F:Fun K "way_back" "way_back" eu f fd)(hm:mg "way_back"=some (.ref f))(hb:Binds K fd ["turning"] []): Fn P w K mg base 5 "way_back" lE:=by
 refine aL F j8 hm hb (λds d h=> ?_) (λcdv A outer s H E hr ds d h=> ?_)
 ·obtain⟨p,q,r,s,rfl,_,rfl⟩:=h
  exact⟨rfl,by simp⟩
 ·obtain⟨p,q,r,s',rfl,h1,rfl⟩:=h
  refine az (ah G1 hr (ad (af 0) ae) ⟨p,q,r,s',rfl,h1,rfl⟩) ?_
  exact ax (ap (ad (av (af 0) aa rfl) (ad (aE (av (af 0) aa rfl)) (ad (aE (av (af 0) aa rfl)) (ad (av (af 0) aa rfl) ae))))) rfl
theorem nz(X1:aG P w K mg base 4 "require_turning" aH (yI (cl 1)))(F:Fun K "way_back" "way_back" eu f fd)(hm:mg "way_back"=some (.ref f))(hb:Binds K fd ["turning"] []):
  aG P w K mg base 5 "way_back" aH (yI (cl 1)):=by
 refine ay F j8 hm hb (λds C h=> ?_) (λcdv A outer s H E hr ds C h ht=> ?_)
 ·obtain⟨d,rfl,hd,rfl⟩:=h
  exact⟨rfl,λz hz=>by simp only[List.mem_cons,List.not_mem_nil,or_false]at hz;subst hz;exact hd.own⟩
 ·obtain⟨d,rfl,hd,rfl⟩:=h
  exact aq (ag X1 hr.m (ad (af 0) ae) ⟨d,rfl,hd,rfl⟩ ht.on)
theorem nj(X1:aG P w K mg base 4 "require_form" aH (gz (cl 0)))(F:Fun K "is_least" "is_least" fN f fd)(hm:mg "is_least"=some (.ref f))(hb:Binds K fd ["form"] []):
  aG P w K mg base 5 "is_least" aH (gz (cl 0)):=by
 refine ay F pV hm hb (λds C h=> ?_) (λcdv A outer s H E hr ds C h ht=> ?_)
 ·obtain⟨d,rfl,hd,rfl⟩:=h
  exact⟨rfl,λz hz=>by simp only[List.mem_cons,List.not_mem_nil,or_false]at hz;subst hz;exact hd.own⟩
 ·obtain⟨d,rfl,hd,rfl⟩:=h
  exact aq (ag X1 hr.m (ad (af 0) ae) ⟨d,rfl,hd,rfl⟩ ht.on)
theorem rc(F:Fun K "stepped" "stepped" ia f fd)(hm:mg "stepped"=some (.ref f))(hb:Binds K fd ["form","step"] []): Fn P w K mg base 1 "stepped" mQ:=by
 refine aL F lR hm hb (λds d h=> ?_) (λcdv A outer s H E hr ds d h=> ?_)
 ·obtain⟨a,b,c,k,rfl,_,_,_,rfl⟩:=h
  exact⟨rfl,by simp⟩
 ·obtain⟨a,b,c,k,rfl,ha,hb,hk,rfl⟩:=h
  have nd:=lR.nd
  refine au 2 (av (af 0) aa rfl) (.int _) ?_ nd
  refine au 3 (av (af 0) aa rfl) (.int _) ?_ nd
  exact ax (ap (ad (af 2) (ad (aI (af 3) (aw (aw aa (af 2) inferInstance inferInstance) (af 1) inferInstance inferInstance)) (ad (aI (av (af 0) aa rfl) (aw (af 1) (aI (af 3) (aw (af 2) (af 1) inferInstance inferInstance)) inferInstance inferInstance)) ae)))) rfl
theorem lm(F:Fun K "behind_step" "behind_step" dz f fd)(hm:mg "behind_step"=some (.ref f))(hb:Binds K fd ["turning","step"] []): Fn P w K mg base 1 "behind_step" ip:=by
 refine aL F gT hm hb (λds d h=> ?_) (λcdv A outer s H E hr ds d h=> ?_)
 ·obtain⟨p,q,r,s,k,rfl,_,_,_,rfl⟩:=h
  exact⟨rfl,by simp⟩
 ·obtain⟨p,q,r,s',k,rfl,hp,hr',hk,rfl⟩:=h
  have nd:=gT.nd
  refine au 2 (nO (af 0) aa rfl) (.int _) ?_ nd
  refine au 3 (nO (af 0) aa rfl) (.int _) ?_ nd
  exact ax (ap (ad (af 2) (ad (aI (nO (af 0) aa rfl) (aw (af 2) (af 1) inferInstance inferInstance)) (ad (af 3) (ad (aI (nO (af 0) aa rfl) (aw (af 3) (af 1) inferInstance inferInstance)) ae))))) rfl
theorem rd(F:Fun K "swapped" "swapped" ib f fd)(hm:mg "swapped"=some (.ref f))(hb:Binds K fd ["form"] []): Fn P w K mg base 1 "swapped" mR:=by
 refine aL F rh hm hb (λds d h=> ?_) (λcdv A outer s H E hr ds d h=> ?_)
 ·obtain⟨a,b,c,rfl,rfl⟩:=h
  exact⟨rfl,by simp⟩
 ·obtain⟨a,b,c,rfl,rfl⟩:=h
  exact ax (ap (ad (av (af 0) aa rfl) (ad (aE (av (af 0) aa rfl)) (ad (av (af 0) aa rfl) ae)))) rfl
theorem lp(F:Fun K "behind_swap" "behind_swap" dB f fd)(hm:mg "behind_swap"=some (.ref f))(hb:Binds K fd ["turning"] []): Fn P w K mg base 1 "behind_swap" iq:=by
 refine aL F lI hm hb (λds d h=> ?_) (λcdv A outer s H E hr ds d h=> ?_)
 ·obtain⟨p,q,r,s,rfl,rfl⟩:=h
  exact⟨rfl,by simp⟩
 ·obtain⟨p,q,r,s',rfl,rfl⟩:=h
  exact ax (ap (ad (av (af 0) aa rfl) (ad (aE (av (af 0) aa rfl)) (ad (av (af 0) aa rfl) (ad (aE (av (af 0) aa rfl)) ae))))) rfl
theorem ja(F:Fun K "step_to_middle" "step_to_middle" cb f fd)(hm:mg "step_to_middle"=some (.ref f))(hb:Binds K fd ["form"] []): Fn P w K mg base 1 "step_to_middle" fe:=by
 refine aL F jr hm hb (λds d h=> ?_) (λcdv A outer s H E hr ds d h=> ?_)
 ·obtain⟨a,b,c,rfl,_,_,rfl⟩:=h
  exact⟨rfl,by simp⟩
 ·obtain⟨a,b,c,rfl,pos,ha,rfl⟩:=h
  exact ax (aM (aU (av (af 0) aa rfl) (av (af 0) aa rfl)) (aw aa (av (af 0) aa rfl) inferInstance inferInstance) (by omega) inferInstance) rfl
theorem pD(G1:Fn P w K mg base 4 "require_form" aB)(G2:Fn P w K mg base 1 "step_to_middle" fe)(G3:Fn P w K mg base 1 "stepped" mQ)(G4:Fn P w K mg base 1 "behind_step" ip)(G5:Fn P w K mg base 1 "swapped" mR)(G6:Fn P w K mg base 1 "behind_swap" iq)
  (C1:j9 K mg "NO_TURN" (.kt [.int 1,.int 0,.int 0,.int 1])) (F:Fun K "least_of" "least_of" eo f fd) (hm:mg "least_of"=some (.ref f)) (hb:Binds K fd ["form"] []):oB P w K mg base 5 "least_of" pM eW:=by
 refine jF F gW hm hb (λds h=> ?_) (λcdv A outer s H E hr ds h=> ?_)
 ·obtain⟨a,b,c,rfl,_⟩:=h
  exact⟨rfl,by simp⟩
 ·obtain⟨a,b,c,rfl,fS⟩:=h
  have nd:=gW.nd
  have hr1:=hr.mono (show 1≤4 by decide)
  refine az (ah G1 hr (ad (af 0) ae) ⟨a,b,c,rfl,fS.n,rfl⟩) ?_
  have L0:Leads a b c 1 0 0 1 a b c:=by
   refine⟨by omega,?_,?_,?_⟩<;>(try unfold MT.Wo)<;>grind
  refine au 1 (ah G2 hr1 (ad (af 0) ae) ⟨a,b,c,rfl,fS.pos,fS.sa.up _ (by decide),rfl⟩) (.int _) ?_ nd
  obtain⟨lo,hi,f1,kb⟩:=sK fS
  have L1:=L0.stepK ((a-b)/(2*a))
  generalize (a-b)/(2*a)=k0 at *
  refine au 2 (ah G3 hr1 (ad (af 0) (ad (af 1) ae)) ⟨a,b,c,k0,rfl,fS.n.sa,fS.n.sb,kb.up _ (by decide),rfl⟩) (xX _ _ _) ?_ nd
  refine au 3 (ah G4 hr1 (ad (bn C1) (ad (af 1) ae)) ⟨1,0,0,1,k0,rfl,.lit,.lit,kb.up _ (by decide),rfl⟩) (cR [_,_,_,_]) ?_ nd
  refine e8 (λρ=>∃x y z p q r s' u,ρ=[some (ar a b c),u,some (ar x y z),some (dj p q r s')]∧FormS x y z∧Leads a b c p q r s' x y z∧-x<y∧y≤x)
   (λρ=>∃x y z p q r s' u,ρ=[some (ar a b c),u,some (ar x y z),some (dj p q r s')]∧FormS x y z∧Leads a b c p q r s' x y z∧MT.Least x y z)
   (λρ=>ze ρ 2) PassesOwn.never ⟨_,_,_,_,_,_,_,_,rfl,f1,L1,lo,hi⟩ ?_ ?_
  ·rintro ρ ⟨x,y,z,p,q,r,s',u,rfl,g,ld,hlo,hhi⟩
   refine⟨_,bH (y4 (oR (av (af 2) aa rfl) (av (af 2) aa rfl)) λ_=>gI (bH (xT (aj (av (af 2) aa rfl) (av (af 2) aa rfl)) λ_=>cC (im (av (af 2) aa rfl) aa)))),λhk=> ?_,λhk=> ?_⟩
   ·simp only[Bool.or_eq_true,Bool.and_eq_true,decide_eq_true_eq]at hk
    obtain⟨_,g1⟩:=xa g g.zpos
    have L2:=ld.swapK
    have tN:=ld.turn fS g
    have tN2:=L2.turn fS g1
    refine au 2 (ah G5 hr1 (ad (af 2) ae) ⟨x,y,z,rfl,rfl⟩) (xX _ _ _) ?_ nd
    refine au 3 (ah G6 hr1 (ad (af 3) ae) ⟨p,q,r,s',rfl,rfl⟩) (cR [_,_,_,_]) ?_ nd
    refine au 1 (ah G2 hr1 (ad (af 2) ae) ⟨z,-y,x,rfl,g1.pos,g1.sa.up _ (by decide),rfl⟩) (.int _) ?_ nd
    obtain⟨lo',hi',g2,kb'⟩:=sK g1
    have L3:=L2.stepK ((z - -y)/(2*z))
    have hm:hJ z (-y+2*z*((z - -y)/(2*z)))<hJ x y:=ve g.zpos hlo hk
    generalize (z - -y)/(2*z)=k at *
    refine au 2 (ah G3 hr1 (ad (af 2) (ad (af 1) ae)) ⟨z,-y,x,k,rfl,g1.n.sa,g1.n.sb,kb'.up _ (by decide),rfl⟩) (xX _ _ _) ?_ nd
    refine au 3 (ah G4 hr1 (ad (wy (af 3)) (ad (af 1) ae)) ⟨q,-p,s',-r,k,rfl,tN2.sp.up _ (by decide),tN2.sr.up _ (by decide),kb'.up _ (by decide),rfl⟩) (cR [_,_,_,_]) (aD ⟨⟨_,_,_,_,_,_,_,_,rfl,g2,L3,lo',hi'⟩,hm⟩) nd
   ·simp only[Bool.or_eq_false_iff,Bool.and_eq_false_iff,decide_eq_false_iff_not]at hk
    exact⟨x,y,z,p,q,r,s',u,rfl,g,ld,hlo,hhi,by omega,λe=>by omega⟩
  ·rintro ρ ⟨x,y,z,p,q,r,s',u,rfl,g,ld,L⟩
   refine ax (ap (ad (af 2) (ad (af 3) ae))) ?_
   intro a2 b2 c2 e
   cases e
   exact⟨x,y,z,p,q,r,s',rfl,L,g,ld.turn fS g,ld⟩
theorem nn(X1:aG P w K mg base 4 "require_form" aH (gz (cl 0)))(F:Fun K "least_of" "least_of" eo f fd)(hm:mg "least_of"=some (.ref f))(hb:Binds K fd ["form"] []):
  aG P w K mg base 5 "least_of" aH (gz (cl 0)):=by
 refine ay F gW hm hb (λds C h=> ?_) (λcdv A outer s H E hr ds C h ht=> ?_)
 ·obtain⟨d,rfl,hd,rfl⟩:=h
  exact⟨rfl,λz hz=>by simp only[List.mem_cons,List.not_mem_nil,or_false]at hz;subst hz;exact hd.own⟩
 ·obtain⟨d,rfl,hd,rfl⟩:=h
  exact aq (ag X1 hr.m (ad (af 0) ae) ⟨d,rfl,hd,rfl⟩ ht.on)
theorem sV(X1:aG P w K mg base 4 "require_form" aH (gz (cl 0)))(G1:Fn P w K mg base 4 "require_form" aB)(F:Fun K "alike" "alike" kH f fd)(hm:mg "alike"=some (.ref f))(hb:Binds K fd ["one","other"] []):
  aG P w K mg base 6 "alike" aH (v6 cl):=by
 refine ay F vF hm hb (λds C h=> ?_) (λcdv A outer s H E hr ds C h ht=> ?_)
 ·rcases h with⟨d,e,rfl,hd,he,rfl⟩|h
  ·have hd:=hd.own
   exact⟨rfl,λz hz=>by simp only[List.mem_cons,List.not_mem_nil,or_false]at hz;rcases hz with rfl|rfl<;>first|rfl|assumption⟩
  ·obtain⟨a,b,c,d,rfl,hf,hd,rfl⟩:=h
   have hd:=hd.own
   exact⟨rfl,λz hz=>by simp only[List.mem_cons,List.not_mem_nil,or_false]at hz;rcases hz with rfl|rfl<;>first|rfl|assumption⟩
 ·rcases h with⟨d,e,rfl,hd,he,rfl⟩|⟨a,b,c,d,rfl,hf,hd,rfl⟩
  ·exact aq (ag X1 hr.m (ad (af 0) ae) ⟨d,rfl,hd,rfl⟩ ht.on)
  ·refine az (ah G1 hr.m (ad (af 0) ae) ⟨a,b,c,rfl,hf,rfl⟩) ?_
   exact aq (ag X1 hr.m (ad (af 1) ae) ⟨d,rfl,hd,rfl⟩ ht.on)
theorem jw(X1:aG P w K mg base 5 "least_of" aH (gz (cl 0)))(F:Fun K "own_turnings" "own_turnings" dh f fd)(hm:mg "own_turnings"=some (.ref f))(hb:Binds K fd ["form"] []):
  aG P w K mg base 6 "own_turnings" aH (gz (cl 0)):=by
 refine ay F gp hm hb (λds C h=> ?_) (λcdv A outer s H E hr ds C h ht=> ?_)
 ·obtain⟨d,rfl,hd,rfl⟩:=h
  exact⟨rfl,λz hz=>by simp only[List.mem_cons,List.not_mem_nil,or_false]at hz;subst hz;exact hd.own⟩
 ·obtain⟨d,rfl,hd,rfl⟩:=h
  exact g8 1 (ag X1 hr (ad (af 0) ae) ⟨d,rfl,hd,rfl⟩ ht.on) gp.nd
theorem nw(X1:aG P w K mg base 5 "least_of" aH (gz (cl 0)))(F:Fun K "smallest" "smallest" fV f fd)(hm:mg "smallest"=some (.ref f))(hb:Binds K fd ["form"] []):
  aG P w K mg base 6 "smallest" aH (gz (cl 0)):=by
 refine ay F j7 hm hb (λds C h=> ?_) (λcdv A outer s H E hr ds C h ht=> ?_)
 ·obtain⟨d,rfl,hd,rfl⟩:=h
  exact⟨rfl,λz hz=>by simp only[List.mem_cons,List.not_mem_nil,or_false]at hz;subst hz;exact hd.own⟩
 ·obtain⟨d,rfl,hd,rfl⟩:=h
  exact g8 1 (ag X1 hr (ad (af 0) ae) ⟨d,rfl,hd,rfl⟩ ht.on) j7.nd
theorem km(G1:Fn P w K mg base 5 "is_bare" fc)(F:Fun K "require_bare" "require_bare" bR f fd)(hm:mg "require_bare"=some (.ref f))(hb:Binds K fd ["form"] []): Fn P w K mg base 6 "require_bare" aZ:=by
 refine aL F gq hm hb (λds d h=> ?_) (λcdv A outer s H E hr ds d h=> ?_)
 ·obtain⟨a,b,c,rfl,_⟩:=h
  exact⟨rfl,by simp⟩
 ·obtain⟨a,b,c,rfl,f1,hg,rfl⟩:=h
  exact ak (cz (aJ (Ev.to (ah G1 hr (ad (af 0) ae) ⟨a,b,c,rfl,f1,rfl⟩) (by rw[hg];rfl)))) (aD rfl)
theorem jz(Q:Ex23 K mg cl)(G1:Fn P w K mg base 5 "is_bare" fc)(F:Fun K "require_bare" "require_bare" bR f fd)(hm:mg "require_bare"=some (.ref f))(hb:Binds K fd ["form"] []):
  aG P w K mg base 6 "require_bare" aH (g7 (cl 4)):=by
 refine ay F gq hm hb (λds C h=> ?_) (λcdv A outer s H E hr ds C h ht=> ?_)
 ·obtain⟨a,b,c,rfl,_⟩:=h
  exact⟨rfl,by simp⟩
 ·obtain⟨a,b,c,rfl,hf,hg,rfl⟩:=h
  have hg':¬((Int.gcd (Int.gcd a b) c:Nat):Int)=1:=λz=>hg (by exact_mod_cast z)
  exact ck (λ_=>False) (k:=true) (bJ (aJ (Ev.to (ah G1 hr (ad (af 0) ae) ⟨a,b,c,rfl,hf,rfl⟩) (by rw[decide_eq_false hg'])))) (λ_=>cn ht.made (Q.q 4 (by decide)) PySem.F.excBase_ValueError rfl PySem.F.excBase_ValueError Q.m4 hr.hd (ad cj ae) (by simp)) (λz=>by cases z) (λ_ z=>z.elim)
theorem ik(G1:Fn P w K mg base 5 "bar_of" bE)(F:Fun K "require_same_bar" "require_same_bar" bi f fd)(hm:mg "require_same_bar"=some (.ref f))(hb:Binds K fd ["one","other"] []): Fn P w K mg base 6 "require_same_bar" cK:=by
 refine aL F dM hm hb (λds d h=> ?_) (λcdv A outer s H E hr ds d h=> ?_)
 ·obtain⟨a,b,c,x,y,z,rfl,_⟩:=h
  exact⟨rfl,by simp⟩
 ·obtain⟨a,b,c,x,y,z,rfl,f1,f2,hD,rfl⟩:=h
  exact ak (Et.ff (eM (ah G1 hr (ad (af 0) ae) ⟨a,b,c,rfl,f1,rfl⟩) (ah G1 hr (ad (af 1) ae) ⟨x,y,z,rfl,f2,rfl⟩)) hD) (aD rfl)
theorem gD(Q:Ex23 K mg cl)(G1:Fn P w K mg base 5 "bar_of" bE)(F:Fun K "require_same_bar" "require_same_bar" bi f fd)(hm:mg "require_same_bar"=some (.ref f))(hb:Binds K fd ["one","other"] []):
  aG P w K mg base 6 "require_same_bar" aH (v5 (cl 3)):=by
 refine ay F dM hm hb (λds C h=> ?_) (λcdv A outer s H E hr ds C h ht=> ?_)
 ·obtain⟨a,b,c,x,y,z,rfl,_⟩:=h
  exact⟨rfl,by simp⟩
 ·obtain⟨a,b,c,x,y,z,rfl,f1,f2,hD,rfl⟩:=h
  exact ck (λ_=>False) (k:=true) (Et.to (eM (ah G1 hr (ad (af 0) ae) ⟨a,b,c,rfl,f1,rfl⟩) (ah G1 hr (ad (af 1) ae) ⟨x,y,z,rfl,f2,rfl⟩)) (by rw[decide_eq_false (show ¬b*b-4*a*c=y*y-4*x*z from hD)];rfl)) (λ_=>cn ht.made (Q.q 3 (by decide)) PySem.F.excBase_ValueError rfl PySem.F.excBase_ValueError Q.m3 hr.hd (ad cj ae) (by simp)) (λz=>by cases z) (λ_ z=>z.elim)
theorem jI(G1:oB P w K mg base 1 "divisor_with_shares" sG lG)(F:Fun K "joint_divisor" "joint_divisor" cE f fd)(hm:mg "joint_divisor"=some (.ref f))(hb:Binds K fd ["one","other"] []): oB P w K mg base 2 "joint_divisor" cM cL:=by
 refine jF F fu hm hb (λds h=> ?_) (λcdv A outer s H E hr ds h=> ?_)
 ·obtain⟨a,b,c,d,e,f,rfl,_⟩:=h
  exact⟨rfl,by simp⟩
 ·obtain⟨a,b,c,d,e,f,rfl,fJ,gJ,hD⟩:=h
  have nd:=fu.nd
  refine kC 2 (cQ G1 hr (ad (av (af 0) aa rfl) (ad (av (af 1) aa rfl) ae)) ⟨a,d,rfl,fJ.sa.up _ (by decide),gJ.sa.up _ (by decide)⟩) (λd hd=>u0 rfl hd) (λr hr'=> ?_) nd
  obtain⟨g1,u1,v1,rfl,eg1,l1,bu1,bv1⟩:=hr' a d rfl
  have pa:=fJ.pos
  have d1:g1 ∣ a:=by rw[eg1];exact Int.gcd_dvd_left a d
  have d2:g1 ∣ d:=by rw[eg1];exact Int.gcd_dvd_right a d
  have p1:0<g1:=by
   have:=Int.gcd_pos_of_ne_zero_left d (show a≠0 by omega)
   omega
  have bg1:Bd g1 1450:=fJ.sa.le (by have:=Int.le_of_dvd pa d1;omega)
  have bh:Bd ((b+e)/2) 1451:=(Bd.add fJ.sb gJ.sb 1451 (by decide)).div (by decide)
  refine kC 3 (cQ G1 hr (ad (av (af 2) aa rfl) (ad (aM (aI (av (af 0) aa rfl) (av (af 1) aa rfl)) aa (by decide) bd_2) ae)) ⟨g1,(b+e)/2,rfl,bg1.up _ (by decide),bh.up _ (by decide)⟩) (λd hd=>u0 rfl hd) (λr hr'=> ?_) nd
  obtain⟨g2,u2,w2,rfl,eg2,l2,bu2,bw2⟩:=hr' g1 ((b+e)/2) rfl
  have d3:g2 ∣ g1:=by rw[eg2];exact Int.gcd_dvd_left _ _
  have d4:g2 ∣ (b+e)/2:=by rw[eg2];exact Int.gcd_dvd_right _ _
  have p2:0<g2:=by
   have:=Int.gcd_pos_of_ne_zero_left ((b+e)/2) (show g1≠0 by omega)
   omega
  refine ax (ap (ad (av (af 3) aa rfl) (ad (aw (av (af 3) aa rfl) (av (af 2) aa rfl) bu2 bu1) (ad (aw (av (af 3) aa rfl) (av (af 2) aa rfl) bu2 bv1) (ad (av (af 3) aa rfl) ae))))) ?_
  intro a0 b0 c0 d0 e0 f0 q
  cases q
  refine⟨g2,u2*u1,u2*v1,w2,rfl,p2,Int.dvd_trans d3 d1,Int.dvd_trans d3 d2,d4,?_,bg1.le (by have:=Int.le_of_dvd p1 d3;omega),Bd.mul bu2 bu1 _ (by decide),Bd.mul bu2 bv1 _ (by decide),bw2⟩
  generalize (b+e)/2=h at *
  rw[l2,l1]
  grind
theorem kg(G1:Fn P w K mg base 5 "bar_of" bE)(F:Fun K "joint_middle" "joint_middle" cW f fd)(hm:mg "joint_middle"=some (.ref f))(hb:Binds K fd ["one","other","shares"] []): Fn P w K mg base 6 "joint_middle" gN:=by
 refine aL F gj hm hb (λds r h=> ?_) (λcdv A outer s H E hr ds r h=> ?_)
 ·obtain⟨a,b,c,d,e,f,g,u,v,w',rfl,_⟩:=h
  exact⟨rfl,by simp⟩
 ·obtain⟨a,b,c,d,e,f,g,u,v,w',rfl,fJ,gJ,hg,bg,bu,bv,bw,rfl⟩:=h
  have nd:=gj.nd
  have sa:=fJ.sa
  have sb:=fJ.sb
  have sd:=fJ.sd
  have ta:=gJ.sa
  have tb:=gJ.sb
  refine au 3 (aM (aI (aw (av (af 0) aa rfl) (av (af 1) aa rfl) sb tb) (ah G1 hr (ad (af 0) ae) ⟨a,b,c,rfl,fJ.n,rfl⟩)) aa (by decide) bd_2) (.int _) ?_ nd
  have bhalf:Bd ((b*e+(b*b-4*a*c))/2) 2901:=(Bd.add (Bd.mul sb tb 2900 (by decide)) sd 2901 (by decide)).div (by decide)
  refine au 4 (aI (aI (aw (aw (av (af 2) aa rfl) (av (af 0) aa rfl) bu sa) (av (af 1) aa rfl) (Bd.mul bu sa 4372 (by decide)) tb) (aw (aw (av (af 2) aa rfl) (av (af 1) aa rfl) bv ta) (av (af 0) aa rfl) (Bd.mul bv ta 5836 (by decide)) sb)) (aw (av (af 2) aa rfl) (af 3) bw bhalf)) (.int _) ?_ nd
  exact ax (aM (af 4) (av (af 2) aa rfl) hg bg) rfl
set_option maxHeartbeats 4000000 in
theorem mr(G1:Fn P w K mg base 5 "bar_of" bE)(F:Fun K "joint_rows" "joint_rows" dO f fd)(hm:mg "joint_rows"=some (.ref f))(hb:Binds K fd ["one","other","divisor","middle"] []): qh P w K mg base 6 "joint_rows" jd:=by
 refine jE F iz hm hb (λds es h=> ?_) (λcdv A outer s H E hr ds es h=> ?_)
 ·obtain⟨a,b,c,d,e,f,g,m,rfl,_⟩:=h
  exact⟨rfl,by simp⟩
 ·obtain⟨a,b,c,d,e,f,g,m,rfl,fJ,gJ,hg,bg,bm,rfl⟩:=h
  have nd:=iz.nd
  have sa:=fJ.sa
  have sb:=fJ.sb
  have sd:=fJ.sd
  have ta:=gJ.sa
  have tb:=gJ.sb
  have pa:=fJ.pos
  have pd:=gJ.pos
  have pad:0<4*a*d:=Int.mul_pos (by omega) pd
  refine au 4 (av (af 0) aa rfl) (.int _) ?_ nd
  refine au 5 (av (af 0) aa rfl) (.int _) ?_ nd
  refine au 6 (av (af 1) aa rfl) (.int _) ?_ nd
  refine au 7 (av (af 1) aa rfl) (.int _) ?_ nd
  have bbe:Bd (b+e) 1451:=Bd.add sb tb _ (by decide)
  refine au 8 (aU (aI (aw (af 5) (af 7) sb tb) (ah G1 hr (ad (af 0) ae) ⟨a,b,c,rfl,fJ.n,rfl⟩)) (aw (af 3) (aI (af 5) (af 7)) bm bbe)) (.int _) ?_ nd
  have blast:Bd (b*e+(b*b-4*a*c)-m*(b+e)) 4353:=Bd.sub (Bd.add (Bd.mul sb tb 2900 (by decide)) sd 2901 (by decide)) (Bd.mul bm bbe 4352 (by decide)) _ (by decide)
  exact iW (aQ (ad (ap (ad (af 2) (ad aa ae)))
   (ad (ap (ad (aM (aw (af 2) (aU (af 7) (af 3)) bg (Bd.sub tb bm 2902 (by decide))) (aw aa (af 6) bd_2 ta) (by omega) (Bd.mul bd_2 ta 1460 (by decide))) (ad (aM (af 4) (af 2) hg bg) ae)))
   (ad (ap (ad (aM (aw (af 2) (aU (af 5) (af 3)) bg (Bd.sub sb bm 2902 (by decide))) (aw aa (af 4) bd_2 sa) (by omega) (Bd.mul bd_2 sa 1460 (by decide))) (ad (aM (af 6) (af 2) hg bg) ae)))
   (ad (ap (ad (aM (aw (af 2) (af 8) bg blast) (aw (aw aa (af 4) bd_4 sa) (af 6) (Bd.mul bd_4 sa 1460 (by decide)) ta) pad (Bd.mul (Bd.mul bd_4 sa 1460 (by decide)) ta 2910 (by decide))) (ad (aM (aI (af 5) (af 7)) (aw aa (af 2) bd_2 bg) (by omega) (Bd.mul bd_2 bg 1460 (by decide))) ae))) ae))))) λl=>⟨l,rfl⟩
set_option maxHeartbeats 8000000 in
theorem ke(T:Tx mg)(Gb:Fn P w K mg base 5 "bar_of" bE)(Gd:oB P w K mg base 2 "joint_divisor" cM cL)(Gm:Fn P w K mg base 6 "joint_middle" gN)(Gr:qh P w K mg base 6 "joint_rows" jd)
  (Gl:oB P w K mg base 5 "least_of" pM eW) (Gw:Fn P w K mg base 5 "way_back" lE) (Gs:Fn P w K mg base 1 "sent" lD) (F:Fun K "joined_whole" "joined_whole" cV f fd) (hm:mg "joined_whole"=some (.ref f)) (hb:Binds K fd ["one","other"] []):oB P w K mg base 7 "joined_whole" cM cN:=by
 refine jF F gi hm hb (λds h=> ?_) (λcdv A outer s H E hr ds h=> ?_)
 ·obtain⟨a,b,c,d,e,f,rfl,_⟩:=h
  exact⟨rfl,by simp⟩
 ·obtain⟨a,b,c,d,e,f,rfl,fJ,gJ,hD⟩:=h
  have nd:=gi.nd
  have hr5:=hr.mono (show 5≤6 by decide)
  have hr2:=hr.mono (show 2≤6 by decide)
  have hr1:=hr.mono (show 1≤6 by decide)
  refine au 2 (ah Gb hr5 (ad (af 0) ae) ⟨a,b,c,rfl,fJ.n,rfl⟩) (.int _) ?_ nd
  refine kC 3 (cQ Gd hr2 (ad (af 0) (ad (af 1) ae)) ⟨a,b,c,d,e,f,rfl,fJ,gJ,hD⟩) (λr hr'=>y8 rfl hr') (λr hr'=> ?_) nd
  obtain⟨g,u,v,w',rfl,hg,ga,gd,gh,hs,bg,bu,bv,bw⟩:=hr' a b c d e f rfl
  have sag:Bd (a/g) 1450:=fJ.sa.div hg
  have sdg:Bd (d/g) 1450:=gJ.sa.div hg
  have sfi:Bd (a/g*(d/g)) 2900:=Bd.mul sag sdg _ (by decide)
  refine au 4 (av (af 3) aa rfl) (.int _) ?_ nd
  refine au 5 (aw (aM (av (af 0) aa rfl) (af 4) hg bg) (aM (av (af 1) aa rfl) (af 4) hg bg) sag sdg) (.int _) ?_ nd
  obtain⟨f0,m0,m1,hbar,cm⟩:=MJ.joint fJ.pos gJ.pos hD hg ga gd gh hs _ _ _ rfl rfl rfl
  refine au 6 (aA (ah Gm hr (ad (af 0) (ad (af 1) (ad (af 3) ae))) ⟨a,b,c,d,e,f,g,u,v,w',rfl,fJ,gJ,hg,bg,bu,bv,bw,rfl⟩) (aw aa (af 5) bd_2 sfi) (by omega)) (.int _) ?_ nd
  generalize hfi:a/g*(d/g)=first at *
  generalize hmi:(u*a*e+v*d*b+w'*((b*e+(b*b-4*a*c))/2))/g%(2*first)=m at *
  have sm:Bd m 2901:=by
   refine .of_lt ?_
   have h1:=intBits_le_iff.mp sfi.lt
   have e:2^2901=2^2900*2:=Nat.pow_succ _ _
   rw[e]
   generalize 2^2900=N at *
   omega
  have fS:FormS first m ((m*m-(b*b-4*a*c))/(4*first)):=wL f0 m0 m1 hbar fJ.bar sfi fJ.sd
  refine kC 7 (cQ Gl hr5 (ad (ap (ad (af 5) (ad (af 6) (ad (aM (aU (aw (af 6) (af 6) sm sm) (af 2)) (aw aa (af 5) bd_4 sfi) (by omega) (Bd.mul bd_4 sfi 2903 (by decide))) ae)))) ae) ⟨first,m,_,rfl,fS⟩) (λd hd=>wG rfl hd) (λr hr'=> ?_) nd
  generalize (m*m-(b*b-4*a*c))/(4*first)=C at *
  obtain⟨a',b',c',p,q,r,s',rfl,L,fS',tN,ld⟩:=hr' _ _ _ rfl
  refine au 8 (ah Gw hr5 (ad (av (af 7) aa rfl) ae) ⟨p,q,r,s',rfl,tN,rfl⟩) (cR [_,_,_,_]) ?_ nd
  have tB:=tN.back
  have up:∀ {z:Int},Bd z 7000→Bd z 8000:=λh=>h.up _ (by decide)
  have b1:Bd (g*(e-m)/(2*d)) 5900:=((Bd.mul bg (Bd.sub gJ.sb sm 2902 (by decide)) 4352 (by decide)).div (by have:=gJ.pos;omega)).up _ (by decide)
  have b2:Bd (g*(b-m)/(2*a)) 5900:=((Bd.mul bg (Bd.sub fJ.sb sm 2902 (by decide)) 4352 (by decide)).div (by have:=fJ.pos;omega)).up _ (by decide)
  have bbe:Bd (b+e) 1451:=Bd.add fJ.sb gJ.sb _ (by decide)
  have b3:Bd (g*(b*e+(b*b-4*a*c)-m*(b+e))/(4*a*d)) 5900:=
   ((Bd.mul bg (Bd.sub (Bd.add (Bd.mul fJ.sb gJ.sb 2900 (by decide)) fJ.sd 2901 (by decide)) (Bd.mul sm bbe 4352 (by decide)) 4353 (by decide)) 5803 (by decide)).div (by have:=fJ.pos;exact Int.mul_pos (by omega) gJ.pos)).up _ (by decide)
  have b4:Bd ((b+e)/(2*g)) 5900:=(bbe.div (by omega)).up _ (by decide)
  have b0:Bd g 5900:=bg.up _ (by decide)
  have ba:Bd (a/g) 5900:=sag.up _ (by decide)
  have bd:Bd (d/g) 5900:=sdg.up _ (by decide)
  have bz:Bd 0 5900:=.lit
  have row:∀x y:Int,Bd x 5900→Bd y 5900→Bd (s'*x + -q*y) 13000∧Bd (-r*x+p*y) 13000:=λx y hx hy=>
   ⟨Bd.add (Bd.mul tB.sp hx 12900 (by decide)) (Bd.mul tB.sq hy 12900 (by decide)) _ (by decide),Bd.add (Bd.mul tB.sr hx 12900 (by decide)) (Bd.mul tB.ss hy 12900 (by decide)) _ (by decide)⟩
  generalize h1:g*(e-m)/(2*d)=X1 at *
  generalize h2:g*(b-m)/(2*a)=X2 at *
  generalize h3:g*(b*e+(b*b-4*a*c)-m*(b+e))/(4*a*d)=X3 at *
  generalize h4:(b+e)/(2*g)=Y3 at *
  generalize h5:a/g=Y1 at *
  generalize h6:d/g=Y2 at *
  have mem:∀z∈[mx g 0,mx X1 Y1,mx X2 Y2,mx X3 Y3],∃x y:Int,z=mx x y∧Bd x 5900∧Bd y 5900:=by
   intro z hz
   simp only[List.mem_cons,List.not_mem_nil,or_false]at hz
   rcases hz with rfl|rfl|rfl|rfl
   ·exact⟨_,_,rfl,b0,bz⟩
   ·exact⟨_,_,rfl,b1,ba⟩
   ·exact⟨_,_,rfl,b2,bd⟩
   ·exact⟨_,_,rfl,b3,b4⟩
  have pairs:∀z∈[mx (s'*g + -q*0) (-r*g+p*0),mx (s'*X1 + -q*Y1) (-r*X1+p*Y1),mx (s'*X2 + -q*Y2) (-r*X2+p*Y2),mx (s'*X3 + -q*Y3) (-r*X3+p*Y3)],∃x y:Int,z=mx x y:=by
   intro z hz
   simp only[List.mem_cons,List.not_mem_nil,or_false]at hz
   rcases hz with rfl|rfl|rfl|rfl<;>exact⟨_,_,rfl⟩
  refine rK (ds:=[mx g 0,mx X1 Y1,mx X2 Y2,mx X3 Y3]) 9 [("back",s.heap.objs.size+1)] ["back"] [8] (λ_=>true) (λz=>mx (s'*(tW z).1 + -q*(tW z).2) (-r*(tW z).1+p*(tW z).2))
    (lU (iS.ev (cO Gr hr (ad (af 0) (ad (af 1) (ad (af 4) (ad (af 6) ae)))) ⟨a,b,c,d,e,f,g,m,rfl,fJ,gJ,hg,bg,sm,by rw[h1,h2,h3,h4,h5,h6]⟩)) rfl) (by simp) (λ_ _ _=>fz2 _ _) (λ_ _ _ _ _ _=>kE) (λC s₀ H₀ fp z hz _=> ?_) (λl _=> ?_) nd
  ·obtain⟨x,y,rfl,hx,hy⟩:=mem z hz
   exact ah Gs hr1 (ad (af 1) (ad (af 0) ae)) ⟨s',-q,-r,p,x,y,rfl,up tB.sp,up tB.sq,up tB.sr,up tB.ss,hx.up _ (by decide),hy.up _ (by decide),rfl⟩
  ·refine ax (d:=.tup [ar a' b' c',dj (s'*g + -q*0) (s'*X1 + -q*Y1) (s'*X2 + -q*Y2) (s'*X3 + -q*Y3),dj (-r*g+p*0) (-r*X1+p*Y1) (-r*X2+p*Y2) (-r*X3+p*Y3)])
    (ap (ad (av (af 7) aa rfl) (ad (kW T.tuple (iS.ev (kZ (λz=>.int (tW z).1) (lU (af 9) rfl) (by simp) (λ_ _=>.int _) (λC s₀ H₀ fp z hz=> ?_))) rfl) (ad (kW T.tuple (iS.ev (kZ (λz=>.int (tW z).2) (lU (af 9) rfl) (by simp) (λ_ _=>.int _) (λC s₀ H₀ fp z hz=> ?_))) rfl) ae)))) ?_
   ·obtain⟨x,y,rfl⟩:=pairs z hz
    exact av (af 0) aa rfl
   ·obtain⟨x,y,rfl⟩:=pairs z hz
    exact av (af 0) aa rfl
   ·intro a0 b0' c0 d0 e0 f0' q0
    cases q0
    have hb2:=ld.bar
    refine⟨a',b',c',_,_,_,_,_,_,_,_,rfl,L,fS',by rw[hb2];exact hbar,cm.target ld.led,(row _ _ b0 bz).1,(row _ _ b1 ba).1,(row _ _ b2 bd).1,(row _ _ b3 b4).1,(row _ _ b0 bz).2,(row _ _ b1 ba).2,(row _ _ b2 bd).2,(row _ _ b3 b4).2⟩
theorem tU(G1:Fn P w K mg base 4 "require_form" aB)(G2:Fn P w K mg base 6 "require_same_bar" cK)(G3:Fn P w K mg base 6 "require_bare" aZ)(G4:oB P w K mg base 7 "joined_whole" cM cN)
  (F:Fun K "joined" "joined" gR f fd) (hm:mg "joined"=some (.ref f)) (hb:Binds K fd ["one","other"] []):oB P w K mg base 8 "joined" cM cN:=by
 refine jF F mX hm hb (λds h=> ?_) (λcdv A outer s H E hr ds h=> ?_)
 ·obtain⟨a,b,c,d,e,f,rfl,_⟩:=h
  exact⟨rfl,by simp⟩
 ·obtain⟨a,b,c,d,e,f,rfl,fJ,gJ,hD⟩:=h
  have hr4:=hr.mono (show 4≤7 by decide)
  have hr6:=hr.mono (show 6≤7 by decide)
  refine az (ah G1 hr4 (ad (af 0) ae) ⟨a,b,c,rfl,fJ.n,rfl⟩) ?_
  refine az (ah G1 hr4 (ad (af 1) ae) ⟨d,e,f,rfl,gJ.n,rfl⟩) ?_
  refine az (ah G2 hr6 (ad (af 0) (ad (af 1) ae)) ⟨a,b,c,d,e,f,rfl,fJ.n,gJ.n,hD,rfl⟩) ?_
  refine az (ah G3 hr6 (ad (af 0) ae) ⟨a,b,c,rfl,fJ.n,fJ.bare,rfl⟩) ?_
  refine az (ah G3 hr6 (ad (af 1) ae) ⟨d,e,f,rfl,gJ.n,gJ.bare,rfl⟩) ?_
  exact wq (cQ G4 hr (ad (af 0) (ad (af 1) ae)) ⟨a,b,c,d,e,f,rfl,fJ,gJ,hD⟩) (λd hd=>tJ rfl hd) (λd hd=>hd)
theorem qu(X1:aG P w K mg base 4 "require_form" aH (gz (cl 0)))(G1:Fn P w K mg base 4 "require_form" aB)(X2:aG P w K mg base 6 "require_same_bar" aH (v5 (cl 3)))(X3:aG P w K mg base 6 "require_bare" aH (g7 (cl 4)))(G2:Fn P w K mg base 6 "require_same_bar" cK)(G3:Fn P w K mg base 6 "require_bare" aZ)(F:Fun K "joined" "joined" gR f fd)(hm:mg "joined"=some (.ref f))(hb:Binds K fd ["one","other"] []):
  aG P w K mg base 8 "joined" aH (jt cl):=by
 refine ay F mX hm hb (λds C h=> ?_) (λcdv A outer s H E hr ds C h ht=> ?_)
 ·rcases h with h|⟨a,b,c,x,y,z,rfl,_⟩
  ·rcases h with⟨d,e,rfl,hd,he,rfl⟩|h
   ·have hd:=hd.own
    exact⟨rfl,λz hz=>by simp only[List.mem_cons,List.not_mem_nil,or_false]at hz;rcases hz with rfl|rfl<;>first|rfl|assumption⟩
   ·obtain⟨a,b,c,d,rfl,hf,hd,rfl⟩:=h
    have hd:=hd.own
    exact⟨rfl,λz hz=>by simp only[List.mem_cons,List.not_mem_nil,or_false]at hz;rcases hz with rfl|rfl<;>first|rfl|assumption⟩
  ·exact⟨rfl,by simp⟩
 ·rcases h with h|⟨a,b,c,x,y,z,rfl,f1,f2,h⟩
  ·rcases h with⟨d,e,rfl,hd,he,rfl⟩|⟨a,b,c,d,rfl,hf,hd,rfl⟩
   ·exact aq (ag X1 hr.m (ad (af 0) ae) ⟨d,rfl,hd,rfl⟩ ht.on)
   ·refine az (ah G1 hr.m (ad (af 0) ae) ⟨a,b,c,rfl,hf,rfl⟩) ?_
    exact aq (ag X1 hr.m (ad (af 1) ae) ⟨d,rfl,hd,rfl⟩ ht.on)
  ·refine az (ah G1 hr.m (ad (af 0) ae) ⟨a,b,c,rfl,f1,rfl⟩) ?_
   refine az (ah G1 hr.m (ad (af 1) ae) ⟨x,y,z,rfl,f2,rfl⟩) ?_
   rcases h with⟨hD,rfl⟩|⟨hD,hg,rfl⟩|⟨hD,hg,hg2,rfl⟩
   ·exact aq (ag X2 hr.m (ad (af 0) (ad (af 1) ae)) ⟨a,b,c,x,y,z,rfl,f1,f2,hD,rfl⟩ ht.on)
   ·refine az (ah G2 hr.m (ad (af 0) (ad (af 1) ae)) ⟨a,b,c,x,y,z,rfl,f1,f2,hD,rfl⟩) ?_
    exact aq (ag X3 hr.m (ad (af 0) ae) ⟨a,b,c,rfl,f1,hg,rfl⟩ ht.on)
   ·refine az (ah G2 hr.m (ad (af 0) (ad (af 1) ae)) ⟨a,b,c,x,y,z,rfl,f1,f2,hD,rfl⟩) ?_
    refine az (ah G3 hr.m (ad (af 0) ae) ⟨a,b,c,rfl,f1,hg,rfl⟩) ?_
    exact aq (ag X3 hr.m (ad (af 1) ae) ⟨x,y,z,rfl,f2,hg2,rfl⟩ ht.on)
theorem rb(G1:Fn P w K mg base 3 "require_bar" cr)(F:Fun K "neutral" "neutral" fq f fd)(hm:mg "neutral"=some (.ref f))(hb:Binds K fd ["bar"] []): Fn P w K mg base 4 "neutral" mP:=by
 refine aL F iO hm hb (λds d h=> ?_) (λcdv A outer s H E hr ds d h=> ?_)
 ·obtain⟨i,rfl,_⟩:=h
  exact⟨rfl,by simp⟩
 ·obtain⟨i,rfl,hi,h4,rfl⟩:=h
  have nd:=iO.nd
  refine az (ah G1 hr (ad (af 0) ae) ⟨i,rfl,hi,h4,rfl⟩) ?_
  refine au 1 (aA (af 0) aa (by decide)) (.int _) ?_ nd
  exact ax (ap (ad aa (ad (af 1) (ad (aM (aU (af 1) (af 0)) aa (by decide) bd_4) ae)))) rfl
theorem oJ(X1:aG P w K mg base 3 "require_bar" aH (yH (cl 2)))(F:Fun K "neutral" "neutral" fq f fd)(hm:mg "neutral"=some (.ref f))(hb:Binds K fd ["bar"] []):
  aG P w K mg base 4 "neutral" aH (yH (cl 2)):=by
 refine ay F iO hm hb (λds C h=> ?_) (λcdv A outer s H E hr ds C h ht=> ?_)
 ·obtain⟨d,rfl,hd,rfl⟩:=h
  exact⟨rfl,λz hz=>by simp only[List.mem_cons,List.not_mem_nil,or_false]at hz;subst hz;exact hd.own⟩
 ·obtain⟨d,rfl,hd,rfl⟩:=h
  exact aq (ag X1 hr (ad (af 0) ae) ⟨d,rfl,hd,rfl⟩ ht.on)
theorem nr(X1:aG P w K mg base 4 "require_form" aH (gz (cl 0)))(G1:Fn P w K mg base 4 "require_form" aB)(X3:aG P w K mg base 6 "require_bare" aH (g7 (cl 4)))(F:Fun K "opposite" "opposite" fP f fd)(hm:mg "opposite"=some (.ref f))(hb:Binds K fd ["form"] []):
  aG P w K mg base 7 "opposite" aH (iQ cl):=by
 refine ay F pW hm hb (λds C h=> ?_) (λcdv A outer s H E hr ds C h ht=> ?_)
 ·rcases h with⟨d,rfl,hd,rfl⟩|⟨a,b,c,rfl,_⟩
  ·exact⟨rfl,λz hz=>by simp only[List.mem_cons,List.not_mem_nil,or_false]at hz;subst hz;exact hd.own⟩
  ·exact⟨rfl,by simp⟩
 ·rcases h with⟨d,rfl,hd,rfl⟩|⟨a,b,c,rfl,hf,hg,rfl⟩
  ·exact aq (ag X1 hr.m (ad (af 0) ae) ⟨d,rfl,hd,rfl⟩ ht.on)
  ·refine az (ah G1 hr.m (ad (af 0) ae) ⟨a,b,c,rfl,hf,rfl⟩) ?_
   exact aq (ag X3 hr.m (ad (af 0) ae) ⟨a,b,c,rfl,hf,hg,rfl⟩ ht.on)
theorem nu(X1:aG P w K mg base 4 "require_form" aH (gz (cl 0)))(G1:Fn P w K mg base 4 "require_form" aB)(X3:aG P w K mg base 6 "require_bare" aH (g7 (cl 4)))(G3:Fn P w K mg base 6 "require_bare" aZ)(X4:aG P w K mg base 3 "require_number" aH (fB (cl 5)))(C1:j9 K mg "MOST_TIMES" (.int 1000))(F:Fun K "repeated" "repeated" fR f fd)(hm:mg "repeated"=some (.ref f))(hb:Binds K fd ["form","times"] []):
  aG P w K mg base 10 "repeated" aH (fZ cl):=by
 refine ay F pX hm hb (λds C h=> ?_) (λcdv A outer s H E hr ds C h ht=> ?_)
 ·rcases h with⟨d,e,rfl,hd,he,rfl⟩|h
  ·have hd:=hd.own
   exact⟨rfl,λz hz=>by simp only[List.mem_cons,List.not_mem_nil,or_false]at hz;rcases hz with rfl|rfl<;>first|rfl|assumption⟩
  ·obtain⟨a,b,c,d,rfl,hf,hd,_⟩:=h
   exact⟨rfl,λz hz=>by simp only[List.mem_cons,List.not_mem_nil,or_false]at hz;rcases hz with rfl|rfl<;>first|rfl|assumption⟩
 ·rcases h with⟨d,e,rfl,hd,he,rfl⟩|⟨a,b,c,d,rfl,hf,ho,h⟩
  ·exact aq (ag X1 hr.m (ad (af 0) ae) ⟨d,rfl,hd,rfl⟩ ht.on)
  ·refine az (ah G1 hr.m (ad (af 0) ae) ⟨a,b,c,rfl,hf,rfl⟩) ?_
   rcases h with⟨hg,rfl⟩|⟨hg,hd,rfl⟩
   ·exact aq (ag X3 hr.m (ad (af 0) ae) ⟨a,b,c,rfl,hf,hg,rfl⟩ ht.on)
   ·refine az (ah G3 hr.m (ad (af 0) ae) ⟨a,b,c,rfl,hf,hg,rfl⟩) ?_
    exact aq (ag X4 hr.m (ad (af 1) (ad (aE (bn C1)) (ad (bn C1) ae))) ⟨d,-1000,1000,rfl,hd,rfl⟩ ht.on)
theorem ka(X5:aG P w K mg base 4 "require_bar_from" aH (bL (cl 2)))(C1:j9 K mg "LOWEST_LISTED_BAR" (.int (-4000)))(F:Fun K "least_forms" "least_forms" dF f fd)(hm:mg "least_forms"=some (.ref f))(hb:Binds K fd ["bar"] []):
  aG P w K mg base 7 "least_forms" aH (qd (-4000) (cl 2)):=by
 refine ay F lP hm hb (λds C h=> ?_) (λcdv A outer s H E hr ds C h ht=> ?_)
 ·obtain⟨d,rfl,hd,rfl⟩:=h
  exact⟨rfl,λz hz=>by simp only[List.mem_cons,List.not_mem_nil,or_false]at hz;subst hz;exact hd.own⟩
 ·obtain⟨d,rfl,hd,rfl⟩:=h
  exact aq (ag X5 hr.m (ad (af 0) (ad (bn C1) ae)) ⟨d,-4000,rfl,hd,rfl⟩ ht.on)
theorem oD(X1:aG P w K mg base 7 "least_forms" aH (qd (-4000) (cl 2)))(F:Fun K "classes" "classes" hV f fd)(hm:mg "classes"=some (.ref f))(hb:Binds K fd ["bar"] []):
  aG P w K mg base 8 "classes" aH (qd (-4000) (cl 2)):=by
 refine ay F rg hm hb (λds C h=> ?_) (λcdv A outer s H E hr ds C h ht=> ?_)
 ·obtain⟨d,rfl,hd,rfl⟩:=h
  exact⟨rfl,λz hz=>by simp only[List.mem_cons,List.not_mem_nil,or_false]at hz;subst hz;exact hd.own⟩
 ·obtain⟨d,rfl,hd,rfl⟩:=h
  exact am (pU (ag X1 hr (ad (af 0) ae) ⟨d,rfl,hd,rfl⟩ ht.on) rfl)
theorem uq(X1:aG P w K mg base 8 "classes" aH (qd (-4000) (cl 2)))(F:Fun K "kept" "kept" n8 f fd)(hm:mg "kept"=some (.ref f))(hb:Binds K fd ["bar","wanted"] []):
  aG P w K mg base 9 "kept" aH (xD (-4000) (cl 2)):=by
 refine ay F wZ hm hb (λds C h=> ?_) (λcdv A outer s H E hr ds C h ht=> ?_)
 ·obtain⟨d,e,rfl,hd,he,rfl⟩:=h
  have hd:=hd.own
  exact⟨rfl,λz hz=>by simp only[List.mem_cons,List.not_mem_nil,or_false]at hz;rcases hz with rfl|rfl<;>first|rfl|assumption⟩
 ·obtain⟨d,e,rfl,hd,he,rfl⟩:=h
  exact am (pU (ag X1 hr (ad (af 0) ae) ⟨d,rfl,hd,rfl⟩ ht.on) rfl)
theorem d6(F:Fun K "marks_beside_odd_primes" "marks_beside_odd_primes" aN f fd)(hm:mg "marks_beside_odd_primes"=some (.ref f))(hb:Binds K fd ["quarter"] []): qh P w K mg base 1 "marks_beside_odd_primes" vq:=by
 refine jE F bT hm hb (λds es h=> ?_) (λcdv A outer s H E hr ds es h=> ?_)
 ·obtain⟨q,rfl,_⟩:=h
  exact⟨rfl,by simp⟩
 ·obtain⟨q,rfl,rfl⟩:=h
  have nd:=bT.nd
  refine au 1 (aA (af 0) aa (by decide)) (.int _) ?_ nd
  refine iX 2 (aQ ae) (λd hd=>by cases hd) (λl _=> ?_) nd
  generalize q%8=r
  refine ck (λρ=>ρ=[some (.int q),some (.int r),some (.lst l ((if r=1∨r=5∨r=4∨r=0 then [(4:Int)]else []).map D.int))]) (xz (n:=0) (ds:=([1,5,4,0]:List Int).map D.int) hr (af 1) (ap (ad aa (ad aa (ad aa (ad aa ae))))) (.inr rfl) (rJ _ _)) (λhk=> ?_) (λhk=> ?_) ?_
  ·rw[yF]at hk
   have hk':r=1∨r=5∨r=4∨r=0:=by simpa using hk
   refine eZ 2 rfl aa (.int _) (by decide) (dU rfl) (aD ?_)
   rw[if_pos hk']
   rfl
  ·rw[yF]at hk
   have hk':¬(r=1∨r=5∨r=4∨r=0):=by simpa using hk
   refine aD ?_
   rw[if_neg hk']
   rfl
  ·rintro ρ rfl
   have l1:((if r=1∨r=5∨r=4∨r=0 then [(4:Int)]else []).map D.int).length≤1:=by split<;>simp
   generalize e1:(if r=1∨r=5∨r=4∨r=0 then [(4:Int)]else [])=L1 at *
   refine ck (λρ=>ρ=[some (.int q),some (.int r),some (.lst l ((L1++if r=6∨r=0 then [(8:Int)]else []).map D.int))]) (xz (n:=0) (ds:=([6,0]:List Int).map D.int) hr (af 1) (ap (ad aa (ad aa ae))) (.inr rfl) (rJ _ _)) (λhk=> ?_) (λhk=> ?_) ?_
   ·rw[yF]at hk
    have hk':r=6∨r=0:=by simpa using hk
    refine eZ 2 rfl aa (.int _) (by omega) (dU rfl) (aD ?_)
    rw[if_pos hk',List.map_append]
    rfl
   ·rw[yF]at hk
    have hk':¬(r=6∨r=0):=by simpa using hk
    refine aD ?_
    rw[if_neg hk',List.append_nil]
   ·rintro ρ rfl
    have l2:((L1++if r=6∨r=0 then [(8:Int)]else []).map D.int).length≤2:=by
     rw[List.length_map]at l1 ⊢
     rw[List.length_append]
     split<;>simp<;>omega
    generalize e2:(L1++if r=6∨r=0 then [(8:Int)]else [])=L2 at *
    refine ck (λρ=>ρ=[some (.int q),some (.int r),some (.lst l ((L2++if r=2 then [(-8:Int)]else []).map D.int))]) (aj (af 1) aa) (λhk=> ?_) (λhk=> ?_) ?_
    ·have hk':r=2:=by simpa using hk
     refine eZ 2 rfl (aE aa) (.int _) (by omega) (dU rfl) (aD ?_)
     rw[if_pos hk',List.map_append]
     rfl
    ·have hk':¬r=2:=by simpa using hk
     refine aD ?_
     rw[if_neg hk',List.append_nil]
    ·rintro ρ rfl
     have ef:MY.mk2L r=L2++if r=2 then [(-8:Int)]else []:=by
      unfold MY.mk2L
      rw[e1,e2]
     rw[ef]
     exact ax (af 2) ⟨l,rfl⟩ (λa z=>by cases z;exact⟨2,_,rfl,rfl⟩)
set_option maxHeartbeats 2000000 in
theorem pE(G1:Fn P w K mg base 4 "require_bar_from" aS)(G2:qh P w K mg base 2 "prime_divisors" yg)(G3:qh P w K mg base 1 "marks_beside_odd_primes" vq)(C1:j9 K mg "LOWEST_MARKED_BAR" (.int (-1000000)))(F:Fun K "marks_of" "marks_of" er f fd)(hm:mg "marks_of"=some (.ref f))(hb:Binds K fd ["bar"] []): qh P w K mg base 5 "marks_of" sj:=by
 refine jE F gZ hm hb (λds es h=> ?_) (λcdv A outer s H E hr ds es h=> ?_)
 ·obtain⟨q,rfl,_⟩:=h
  exact⟨rfl,by simp⟩
 ·obtain⟨i,rfl,hi,rfl⟩:=h
  have nd:=gZ.nd
  have h1:=hi.neg
  have h2:=hi.low
  have hr2:=hr.mono (show 2≤4 by decide)
  have hr1:=hr.mono (show 1≤4 by decide)
  refine az (ah G1 hr (ad (af 0) (ad (bn C1) ae)) ⟨i,-1000000,rfl,h1,hi.four,h2,rfl⟩) ?_
  have l1:=uk (n:=(-i).toNat) (by omega) (by omega)
  have ln:-i=(((-i).toNat:Nat):Int):=by omega
  have e:((PD (-i).toNat).filter λk=>decide (k≠2)).map D.int=(((PD (-i).toNat).map D.int).filter λd=>match d with | .int k=>decide (k≠2)|_=>false).map λd=>d:=by
   rw[List.map_id',List.filter_map]
   rfl
  have l2:(((PD (-i).toNat).filter λk=>decide (k≠2)).map D.int).length<22:=by
   rw[List.length_map]
   exact Nat.lt_of_le_of_lt (List.length_filter_le _ _) l1
  refine rK 1 [] [] [] (λd=>match d with | .int k=>decide (k≠2)|_=>false) (λd=>d) (lU (iS.ev (cO G2 hr2 (ad (Ev.to (aE (af 0)) (congrArg D.int ln)) ae) ⟨(-i).toNat,rfl,by omega,by omega,rfl⟩)) rfl) (by rw[List.length_map];omega) (λd hd _=> ?_) (λC s₀ H₀ fp d hd=> ?_) (λC s₀ H₀ fp d hd _=>af 0) (λl _=> ?_) nd
  ·obtain⟨k,_,rfl⟩:=List.mem_map.mp hd
   exact .int _
  ·obtain⟨k,_,rfl⟩:=List.mem_map.mp hd
   exact wx (Et.to (eM (af 0) aa) (by simp))
  rw[← e]
  have em:xC i=((PD (-i).toNat).filter λk=>decide (k≠2))++(if i%4=0 then MY.mk2L (-i/4%8)else []):=rfl
  rw[em]
  generalize ((PD (-i).toNat).filter λk=>decide (k≠2))=L at *
  refine ck (λρ=>ρ=[some (.int i),some (.lst l ((L++if i%4=0 then MY.mk2L (-i/4%8)else []).map D.int))]) (aj (aA (af 0) aa (by decide)) aa) (λhk=> ?_) (λhk=> ?_) ?_
  ·have hk':i%4=0:=by simpa using hk
   have l3:=MY.mk2_len (-i/4%8)
   refine tm 1 rfl (cO G3 hr1 (ad (aM (aE (af 0)) aa (by decide) bd_4) ae) ⟨-i/4,rfl,rfl⟩) (gL _) (by rw[List.length_map (as:=MY.mk2L _)];omega) (dU rfl) (aD ?_)
   rw[if_pos hk',List.map_append]
   rfl
  ·have hk':¬i%4=0:=by simpa using hk
   refine aD ?_
   rw[if_neg hk',List.append_nil]
   rfl
  ·rintro ρ rfl
   exact ax (af 1) ⟨l,rfl⟩ (λa z=>by cases z;exact⟨1,_,rfl,rfl⟩)
theorem nq(X5:aG P w K mg base 4 "require_bar_from" aH (bL (cl 2)))(C1:j9 K mg "LOWEST_MARKED_BAR" (.int (-1000000)))(F:Fun K "marks_of" "marks_of" er f fd)(hm:mg "marks_of"=some (.ref f))(hb:Binds K fd ["bar"] []):
  aG P w K mg base 5 "marks_of" aH (qd (-1000000) (cl 2)):=by
 refine ay F gZ hm hb (λds C h=> ?_) (λcdv A outer s H E hr ds C h ht=> ?_)
 ·obtain⟨d,rfl,hd,rfl⟩:=h
  exact⟨rfl,λz hz=>by simp only[List.mem_cons,List.not_mem_nil,or_false]at hz;subst hz;exact hd.own⟩
 ·obtain⟨d,rfl,hd,rfl⟩:=h
  exact aq (ag X5 hr (ad (af 0) (ad (bn C1) ae)) ⟨d,-1000000,rfl,hd,rfl⟩ ht.on)
theorem mn(G1:Fn P w K mg base 2 "leaves_square" pK)(F:Fun K "is_plus_at" "is_plus_at" dN f fd)(hm:mg "is_plus_at"=some (.ref f))(hb:Binds K fd ["mark","number"] []): Fn P w K mg base 3 "is_plus_at" vr:=by
 refine aL F mz hm hb (λds d h=> ?_) (λcdv A outer s H E hr ds d h=> ?_)
 ·obtain⟨i,m,n,rfl,_⟩:=h
  exact⟨rfl,by simp⟩
 ·obtain⟨i,m,n,rfl,hi,hk,rfl⟩:=h
  refine ao (aj (af 0) aa) (λc4=> ?_) (λc4=> ?_)
  ·have c4:m=4:=by simpa using c4
   refine ax (gH (aA (af 1) aa (by decide)) aa) ?_
   show D.bl _=D.bl _
   unfold MZ.pl
   rw[if_pos c4]
  have c4:¬m=4:=by simpa using c4
  refine ao (aj (af 0) aa) (λc8=> ?_) (λc8=> ?_)
  ·have c8:m=8:=by simpa using c8
   refine ax (rO (n:=0) (ds:=([1,7]:List Int).map D.int) hr (aA (af 1) aa (by decide)) (ap (ad aa (ad aa ae))) (.inr rfl) (rJ _ _)) ?_
   show D.bl _=D.bl _
   unfold MZ.pl
   rw[if_neg c4,if_pos c8,yF]
   congr 1
   simp
  have c8:¬m=8:=by simpa using c8
  refine ao (aj (af 0) (aE aa)) (λc9=> ?_) (λc9=> ?_)
  ·have c9:m = -8:=by simpa using c9
   refine ax (rO (n:=0) (ds:=([1,3]:List Int).map D.int) hr (aA (af 1) aa (by decide)) (ap (ad aa (ad aa ae))) (.inr rfl) (rJ _ _)) ?_
   show D.bl _=D.bl _
   unfold MZ.pl
   rw[if_neg c4,if_neg c8,if_pos c9,yF]
   congr 1
   simp
  have c9:¬m = -8:=by simpa using c9
  obtain⟨p,rfl,hp,p2,pl⟩:=zh hi hk c4 c8 c9
  refine ax (ah G1 hr (ad (af 1) (ad (af 0) ae)) ⟨n,p,rfl,yj hp p2,CM.pr_odd hp p2,by omega,rfl⟩) ?_
  show D.bl _=D.bl _
  rw[MZ.pl_pr hp p2]
set_option maxHeartbeats 2000000 in
theorem jM(G1:Fn P w K mg base 5 "bar_of" bE)(G2:qh P w K mg base 2 "prime_divisors" yg)(F:Fun K "telling_place" "telling_place" cH f fd)(hm:mg "telling_place"=some (.ref f))(hb:Binds K fd ["form"] []): Fn P w K mg base 6 "telling_place" vt:=by
 refine aL F fA hm hb (λds d h=> ?_) (λcdv A outer s H E hr ds d h=> ?_)
 ·obtain⟨a,b,c,rfl,_⟩:=h
  exact⟨rfl,by simp⟩
 ·obtain⟨a,b,c,rfl,hf,rfl⟩:=h
  have nd:=fA.nd
  have hr2:=hr.mono (show 2≤5 by decide)
  obtain⟨t0,t1,t2⟩:=hf.two
  have hbar:=hf.n.bar
  have hlow:=hf.low
  have bD:Bd (b*b-4*a*c) 20:=.of_lt (by omega)
  refine au 1 aa (.int _) (au 2 aa (.int _) ?_ nd) nd
  have pd:=rE t0
  have et:qj a b c=MY.tp a c (PD (-2*(b*b-4*a*c)).toNat):=rfl
  rw[et]
  generalize hn:(-2*(b*b-4*a*c)).toNat=n at *
  refine uE 3 (λi ρ=>∃u,ρ=[some (ar a b c),some (.int (MY.tp a c ((PD n).take i)).1),some (.int (MY.tp a c ((PD n).take i)).2),u]) (λρ=>∃u,ρ=[some (ar a b c),some (.int (MY.tp a c (PD n)).1),some (.int (MY.tp a c (PD n)).2),u]) PassesOwn.never rfl
   (yx (cO G2 hr2 (ad (Ev.to (aw (aE aa) (ah G1 hr (ad (af 0) ae) ⟨a,b,c,rfl,hf.n,rfl⟩) (Bd.lit (m:=2)) bD) (congrArg D.int t2.symm)) ae) ⟨n,rfl,t0,by omega,rfl⟩) (gL _)) (gL _) (λ_ _ _=>trivial) ⟨none,rfl⟩ ?_ ?_ ?_ nd
  ·rintro i d ρ hd ⟨u,rfl⟩
   rw[List.getElem?_map]at hd
   obtain⟨k,hk,rfl⟩:=Option.map_eq_some_iff.mp hd
   have hl:=(List.getElem?_eq_some_iff.mp hk).1
   obtain⟨p,rfl,hp,pn⟩:=pd.pr (List.mem_of_getElem? hk)
   have e:(PD n).take (i+1)=(PD n).take i++[(p:Int)]:=by
    rw[List.take_succ_eq_append_getElem hl,(List.getElem?_eq_some_iff.mp hk).2]
   have es:MY.tp a c ((PD n).take (i+1))=MY.tpS a c (MY.tp a c ((PD n).take i)) (p:Int):=by
    rw[e]
    unfold MY.tp
    rw[List.foldl_append]
    rfl
   obtain⟨x0,y0,x1,y1,_⟩:=MY.tp_pre a c t0 (pd.nod.sublist (List.take_sublist i _)) λk hk=>pd.pr (List.mem_of_mem_take hk)
   rw[es]
   unfold MY.tpS
   generalize (MY.tp a c ((PD n).take i))=xy at *
   obtain⟨x,y⟩:=xy
   dsimp only at x0 y0 x1 y1 ⊢
   have p2:=hp.1
   have ple:p≤n:=Nat.le_of_dvd t0 pn
   have bx:Bd x 22:=.of_lt (by omega)
   have bY:Bd y 22:=.of_lt (by omega)
   have bp:Bd (p:Int) 22:=.of_lt (by omega)
   refine ck (λρ=>∃u,ρ=[some (ar a b c),some (.int (if a%(p:Int)≠0 then(x,y*(p:Int))else if c%(p:Int)≠0 then(x*(p:Int),y)else(x,y)).1),some (.int (if a%(p:Int)≠0 then(x,y*(p:Int))else if c%(p:Int)≠0 then(x*(p:Int),y)else(x,y)).2),u]) (eM (aA (av (af 0) aa rfl) (af 3) (by omega)) aa) (λhk=> ?_) (λhk=> ?_) (λρ z=>aD z)
   ·have hk':a%(p:Int)≠0:=by simpa using hk
    rw[if_pos hk']
    exact au 2 (aw (af 2) (af 3) bY bp) (.int _) (aD ⟨_,rfl⟩) nd
   ·have hk':¬a%(p:Int)≠0:=by simpa using hk
    rw[if_neg hk']
    refine ck (λρ=>∃u,ρ=[some (ar a b c),some (.int (if c%(p:Int)≠0 then(x*(p:Int),y)else(x,y)).1),some (.int (if c%(p:Int)≠0 then(x*(p:Int),y)else(x,y)).2),u]) (eM (aA (av (af 0) aa rfl) (af 3) (by omega)) aa) (λhk=> ?_) (λhk=> ?_) (λρ z=>aD z)
    ·have hk':c%(p:Int)≠0:=by simpa using hk
     rw[if_pos hk']
     exact au 1 (aw (af 1) (af 3) bx bp) (.int _) (aD ⟨_,rfl⟩) nd
    ·have hk':¬c%(p:Int)≠0:=by simpa using hk
     rw[if_neg hk']
     exact aD ⟨_,rfl⟩
  ·rintro ρ ⟨u,rfl⟩
   rw[List.length_map,List.take_length]
   exact⟨u,rfl⟩
  ·rintro ρ ⟨u,rfl⟩
   exact ax (ap (ad (af 1) (ad (af 2) ae))) rfl
set_option maxHeartbeats 2000000 in
theorem pG(G1:Fn P w K mg base 5 "bar_of" bE)(G2:Fn P w K mg base 5 "worth" sB)(G3:Fn P w K mg base 6 "telling_place" vt)(G4:qh P w K mg base 5 "marks_of" sj)(G5:Fn P w K mg base 3 "is_plus_at" vr)(F:Fun K "signs_of" "signs_of" fU f fd)(hm:mg "signs_of"=some (.ref f))(hb:Binds K fd ["form"] []): qh P w K mg base 7 "signs_of" su:=by
 refine jE F j6 hm hb (λds es h=> ?_) (λcdv A outer s H E hr ds es h=> ?_)
 ·obtain⟨a,b,c,rfl,_⟩:=h
  exact⟨rfl,by simp⟩
 ·obtain⟨a,b,c,rfl,hf,rfl⟩:=h
  have nd:=j6.nd
  have hr5:=hr.mono (show 5≤6 by decide)
  have hr3:=hr.mono (show 3≤6 by decide)
  obtain⟨x0,y0,x1,y1,_⟩:=hf.tp
  have bx:Bd (qj a b c).1 8000:=Bd.up (m:=22) (.of_lt (by omega)) _ (by decide)
  have bY:Bd (qj a b c).2 8000:=Bd.up (m:=22) (.of_lt (by omega)) _ (by decide)
  refine au 1 (d:=.int (vv a b c)) (ah G2 hr5 (ad (af 0) (ad (ah G3 hr (ad (af 0) ae) ⟨a,b,c,rfl,hf,rfl⟩) ae)) ⟨a,b,c,_,_,rfl,hf.n,bx,bY,rfl⟩) (.int _) ?_ nd
  have ef:∀l:List D,(l.filter λ_=>true)=l:=λl=>List.filter_eq_self.mpr λ_ _=>rfl
  have e:(mi a b c).map yG=((((xC (b*b-4*a*c)).map D.int).filter λ_=>true).map λd=>match d with | .int m=>yG (!MZ.pl m (vv a b c))|_=>.non):=by
   rw[ef]
   unfold mi
   rw[List.map_map,List.map_map]
   rfl
  rw[e]
  have ml:=rZ hf.bm
  refine iW (mF [("number",s.heap.objs.size+1)] ["number"] [1] (λ_=>true) _ (lU (iS.ev (cO G4 hr5 (ad (ah G1 hr5 (ad (af 0) ae) ⟨a,b,c,rfl,hf.n,rfl⟩) ae) ⟨_,rfl,hf.bm,rfl⟩)) rfl) (by rw[List.length_map];omega) (λd hd _=> ?_) (λC s₀ H₀ fp d hd=>kE) (λC s₀ H₀ fp d hd _=> ?_)) λl=>⟨l,rfl⟩
  ·obtain⟨m,hm,rfl⟩:=List.mem_map.mp hd
   exact .int _
  ·obtain⟨m,hm,rfl⟩:=List.mem_map.mp hd
   show Ev _ _ _ (yG (!MZ.pl m (vv a b c)))
   cases q:MZ.pl m (vv a b c)with
   | true=>exact qI (Et.to (aJ (ah G5 hr3 (ad (af 0) (ad (af 1) ae)) ⟨_,m,vv a b c,rfl,hf.bm,vg hf.bm hm,rfl⟩)) q) aa
   | false=>exact qH (Et.to (aJ (ah G5 hr3 (ad (af 0) (ad (af 1) ae)) ⟨_,m,vv a b c,rfl,hf.bm,vg hf.bm hm,rfl⟩)) q) (aE aa)
set_option maxHeartbeats 2000000 in
theorem pA(T:Tx mg)(G1:Fn P w K mg base 4 "require_form" aB)(G2:Fn P w K mg base 6 "require_bare" aZ)(G3:Fn P w K mg base 4 "require_bar_from" aS)(G4:Fn P w K mg base 5 "bar_of" bE)(G5:qh P w K mg base 7 "signs_of" su)(C1:j9 K mg "LOWEST_MARKED_BAR" (.int (-1000000)))(F:Fun K "genus_of" "genus_of" d8 f fd)(hm:mg "genus_of"=some (.ref f))(hb:Binds K fd ["form"] []): Fn P w K mg base 8 "genus_of" si:=by
 refine aL F gU hm hb (λds d h=> ?_) (λcdv A outer s H E hr ds d h=> ?_)
 ·obtain⟨a,b,c,rfl,_⟩:=h
  exact⟨rfl,by simp⟩
 ·obtain⟨a,b,c,rfl,hf,bare,rfl⟩:=h
  have nd:=gU.nd
  have hr6:=hr.mono (show 6≤7 by decide)
  have hr5:=hr.mono (show 5≤7 by decide)
  have hr4:=hr.mono (show 4≤7 by decide)
  refine az (ah G1 hr4 (ad (af 0) ae) ⟨a,b,c,rfl,hf.n,rfl⟩) ?_
  refine az (ah G2 hr6 (ad (af 0) ae) ⟨a,b,c,rfl,hf.n,bare,rfl⟩) ?_
  refine az (ah G3 hr4 (ad (ah G4 hr5 (ad (af 0) ae) ⟨a,b,c,rfl,hf.n,rfl⟩) (ad (bn C1) ae)) ⟨_,-1000000,rfl,hf.bm.neg,hf.bm.four,hf.low,rfl⟩) ?_
  refine au 1 aa (.int _) ?_ nd
  have ml:(mi a b c).length≤23:=by rw[x9];exact rZ hf.bm
  have fz:=y9 (mi a b c)
  refine uE 2 (λi ρ=>∃u,ρ=[some (ar a b c),some (.int ((MY.gn (((mi a b c).reverse.take i).reverse):Nat):Int)),u]) (λρ=>∃u,ρ=[some (ar a b c),some (.int ((MY.gn (mi a b c):Nat):Int)),u]) PassesOwn.never rfl
   (yy T.reversed (cO G5 hr (ad (af 0) ae) ⟨a,b,c,rfl,hf,rfl⟩) fz) (λd hd=>fz d (List.mem_reverse.mp hd)) (λ_ _ _=>trivial) ⟨none,rfl⟩ ?_ ?_ ?_ nd
  ·rintro i d ρ hd ⟨u,rfl⟩
   rw[← List.map_reverse,List.getElem?_map]at hd
   obtain⟨k,hk,rfl⟩:=Option.map_eq_some_iff.mp hd
   have hl:=(List.getElem?_eq_some_iff.mp hk).1
   have e:(mi a b c).reverse.take (i+1)=(mi a b c).reverse.take i++[k]:=by
    rw[List.take_succ_eq_append_getElem hl,(List.getElem?_eq_some_iff.mp hk).2]
   have g1:=MY.gn_lt (((mi a b c).reverse.take i).reverse)
   have g2:(((mi a b c).reverse.take i).reverse).length≤23:=by
    rw[List.length_reverse,List.length_take,List.length_reverse]
    omega
   have g3:=Nat.lt_of_lt_of_le g1 (Nat.pow_le_pow_right (show 0<2 by decide) g2)
   rw[e,List.reverse_append]
   generalize ((mi a b c).reverse.take i).reverse=L at *
   have bg:Bd ((MY.gn L:Nat):Int) 24:=.of_lt (by omega)
   have eg:((MY.gn ([k].reverse++L):Nat):Int)=2*((MY.gn L:Nat):Int)+((k.toNat:Nat):Int):=by
    show((2*MY.gn L+k.toNat:Nat):Int)=_
    push_cast
    rfl
   rw[eg]
   cases k with
   | true=>exact au 1 (aI (aw aa (af 1) bd_2 bg) (qI (Et.tt (aj (af 2) (aE aa)) rfl) aa)) (.int _) (aD ⟨_,rfl⟩) nd
   | false=>exact au 1 (aI (aw aa (af 1) bd_2 bg) (qH (Et.ff' (aj (af 2) (aE aa)) (by decide)) aa)) (.int _) (aD ⟨_,rfl⟩) nd
  ·rintro ρ ⟨u,rfl⟩
   refine⟨u,?_⟩
   have el:((mi a b c).map yG).reverse.length=(mi a b c).reverse.length:=by simp
   rw[el,List.take_length,List.reverse_reverse]
  ·rintro ρ ⟨u,rfl⟩
   exact ax (af 1) rfl
theorem nh(X1:aG P w K mg base 4 "require_form" aH (gz (cl 0)))(G1:Fn P w K mg base 4 "require_form" aB)(X3:aG P w K mg base 6 "require_bare" aH (g7 (cl 4)))(G3:Fn P w K mg base 6 "require_bare" aZ)(X5:aG P w K mg base 4 "require_bar_from" aH (bL (cl 2)))(G6:Fn P w K mg base 5 "bar_of" bE)(C1:j9 K mg "LOWEST_MARKED_BAR" (.int (-1000000)))(F:Fun K "genus_of" "genus_of" d8 f fd)(hm:mg "genus_of"=some (.ref f))(hb:Binds K fd ["form"] []):
  aG P w K mg base 8 "genus_of" aH (cJ (-1000000) cl):=by
 refine ay F gU hm hb (λds C h=> ?_) (λcdv A outer s H E hr ds C h ht=> ?_)
 ·rcases h with⟨d,rfl,hd,rfl⟩|⟨a,b,c,rfl,_⟩
  ·exact⟨rfl,λz hz=>by simp only[List.mem_cons,List.not_mem_nil,or_false]at hz;subst hz;exact hd.own⟩
  ·exact⟨rfl,by simp⟩
 ·rcases h with⟨d,rfl,hd,rfl⟩|⟨a,b,c,rfl,hf,h⟩
  ·exact aq (ag X1 hr.m (ad (af 0) ae) ⟨d,rfl,hd,rfl⟩ ht.on)
  ·refine az (ah G1 hr.m (ad (af 0) ae) ⟨a,b,c,rfl,hf,rfl⟩) ?_
   rcases h with⟨hg,rfl⟩|⟨hg,hl,rfl⟩
   ·exact aq (ag X3 hr.m (ad (af 0) ae) ⟨a,b,c,rfl,hf,hg,rfl⟩ ht.on)
   ·refine az (ah G3 hr.m (ad (af 0) ae) ⟨a,b,c,rfl,hf,hg,rfl⟩) ?_
    exact aq (ag X5 hr.m (ad (ah G6 hr.m (ad (af 0) ae) ⟨a,b,c,rfl,hf,rfl⟩) (ad (bn C1) ae)) ⟨_,-1000000,rfl,.inr ⟨_,rfl,hf.bar,kB a b c,hl⟩,rfl⟩ ht.on)
set_option maxHeartbeats 4000000 in
theorem mt{cc Pl:Addr}(G1:Fn P w K mg base 8 "genus_of" si)(hcc:fd.code = .ref cc)(B:FM.Tab base mg Pl cc)(F:Fun K "same_genus" "same_genus" aK f fd)(hm:mg "same_genus"=some (.ref f))(hb:Binds K fd ["form"] []): ∃dp:Pos,FnM P w K mg base 9 "same_genus" Pl dp aK:=by
 refine⟨_,f,fd,_,FM.maker_ok (N:=["form","genus","is_same"]) (x0:="form") (x:="genus") (y:="form") (nm:="is_same") (p:="other") (jx:=1) (jy:=0) (i:=2) (cx:=λL=>L+2) (cy:=λL=>L+1) F cu hcc B rfl rfl rfl rfl (by decide) (by decide) rfl rfl rfl (by decide) (λ_ _ _=>rfl) (λ_ _ _=>rfl) (λ_ _ _=>rfl) (λ_ _ _=>rfl) (by decide) (by decide) (λd0 dx dy h=> ?_) (λcdv A outer s H E hr d0 dx dy h=> ?_) hb,hm,F.kp,hb⟩
 ·obtain⟨a,b,c,rfl,_⟩:=h
  rfl
 ·obtain⟨a,b,c,rfl,rfl,rfl,hf,bare⟩:=h
  exact au 1 (ah G1 hr (ad (af 0) ae) ⟨a,b,c,rfl,hf,bare,rfl⟩) (.int _) (aD ⟨rfl,rfl⟩) cu.nd
theorem kQ(X1:aG P w K mg base 8 "genus_of" aH (cJ (-1000000) cl))(F:Fun K "same_genus" "same_genus" aK f fd)(hm:mg "same_genus"=some (.ref f))(hb:Binds K fd ["form"] []):
  aG P w K mg base 9 "same_genus" aH (cJ (-1000000) cl):=by
 refine ay F cu hm hb (λds C h=> ?_) (λcdv A outer s H E hr ds C h ht=> ?_)
 ·rcases h with⟨d,rfl,hd,rfl⟩|⟨a,b,c,rfl,_⟩
  ·exact⟨rfl,λz hz=>by simp only[List.mem_cons,List.not_mem_nil,or_false]at hz;subst hz;exact hd.own⟩
  ·exact⟨rfl,by simp⟩
 ·rcases h with⟨d,rfl,hd,rfl⟩|⟨a,b,c,rfl,hf,h⟩
  ·exact g8 1 (ag X1 hr (ad (af 0) ae) (.inl ⟨d,rfl,hd,rfl⟩) ht.on) cu.nd
  ·exact g8 1 (ag X1 hr (ad (af 0) ae) (.inr ⟨a,b,c,rfl,hf,h⟩) ht.on) cu.nd
theorem qs(X1:aG P w K mg base 4 "require_form" aH (gz (cl 0)))(G1:Fn P w K mg base 4 "require_form" aB)(X3:aG P w K mg base 6 "require_bare" aH (g7 (cl 4)))(G3:Fn P w K mg base 6 "require_bare" aZ)(X5:aG P w K mg base 4 "require_bar_from" aH (bL (cl 2)))(G6:Fn P w K mg base 5 "bar_of" bE)(C1:j9 K mg "LOWEST_LISTED_BAR" (.int (-4000)))(F:Fun K "halved" "halved" jh f fd)(hm:mg "halved"=some (.ref f))(hb:Binds K fd ["form"] []):
  aG P w K mg base 9 "halved" aH (cJ (-4000) cl):=by
 refine ay F mV hm hb (λds C h=> ?_) (λcdv A outer s H E hr ds C h ht=> ?_)
 ·rcases h with⟨d,rfl,hd,rfl⟩|⟨a,b,c,rfl,_⟩
  ·exact⟨rfl,λz hz=>by simp only[List.mem_cons,List.not_mem_nil,or_false]at hz;subst hz;exact hd.own⟩
  ·exact⟨rfl,by simp⟩
 ·rcases h with⟨d,rfl,hd,rfl⟩|⟨a,b,c,rfl,hf,h⟩
  ·exact aq (ag X1 hr.m (ad (af 0) ae) ⟨d,rfl,hd,rfl⟩ ht.on)
  ·refine az (ah G1 hr.m (ad (af 0) ae) ⟨a,b,c,rfl,hf,rfl⟩) ?_
   rcases h with⟨hg,rfl⟩|⟨hg,hl,rfl⟩
   ·exact aq (ag X3 hr.m (ad (af 0) ae) ⟨a,b,c,rfl,hf,hg,rfl⟩ ht.on)
   ·refine az (ah G3 hr.m (ad (af 0) ae) ⟨a,b,c,rfl,hf,hg,rfl⟩) ?_
    refine au 1 (ah G6 hr.m (ad (af 0) ae) ⟨a,b,c,rfl,hf,rfl⟩) (.int _) ?_ mV.nd
    exact aq (ag X5 hr.m (ad (af 1) (ad (bn C1) ae)) ⟨_,-4000,rfl,.inr ⟨_,rfl,hf.bar,kB a b c,hl⟩,rfl⟩ ht.on)
theorem nv(X1:aG P w K mg base 4 "require_form" aH (gz (cl 0)))(G1:Fn P w K mg base 4 "require_form" aB)(X3:aG P w K mg base 6 "require_bare" aH (g7 (cl 4)))(X5:aG P w K mg base 4 "require_bar_from" aH (bL (cl 2)))(G5:Fn P w K mg base 4 "require_bar_from" aS)(G6:Fn P w K mg base 5 "bar_of" bE)(C1:j9 K mg "LOWEST_LISTED_BAR" (.int (-4000)))(F:Fun K "round_of" "round_of" fT f fd)(hm:mg "round_of"=some (.ref f))(hb:Binds K fd ["form"] []):
  aG P w K mg base 10 "round_of" aH (kK cl):=by
 refine ay F pY hm hb (λds C h=> ?_) (λcdv A outer s H E hr ds C h ht=> ?_)
 ·rcases h with⟨d,rfl,hd,rfl⟩|⟨a,b,c,rfl,_⟩
  ·exact⟨rfl,λz hz=>by simp only[List.mem_cons,List.not_mem_nil,or_false]at hz;subst hz;exact hd.own⟩
  ·exact⟨rfl,by simp⟩
 ·rcases h with⟨d,rfl,hd,rfl⟩|⟨a,b,c,rfl,hf,h⟩
  ·exact aq (ag X1 hr.m (ad (af 0) ae) ⟨d,rfl,hd,rfl⟩ ht.on)
  ·refine az (ah G1 hr.m (ad (af 0) ae) ⟨a,b,c,rfl,hf,rfl⟩) ?_
   rcases h with⟨hl,rfl⟩|⟨hl,hg,rfl⟩
   ·exact aq (ag X5 hr.m (ad (ah G6 hr.m (ad (af 0) ae) ⟨a,b,c,rfl,hf,rfl⟩) (ad (bn C1) ae)) ⟨_,-4000,rfl,.inr ⟨_,rfl,hf.bar,kB a b c,hl⟩,rfl⟩ ht.on)
   ·refine az (ah G5 hr.m (ad (ah G6 hr.m (ad (af 0) ae) ⟨a,b,c,rfl,hf,rfl⟩) (ad (bn C1) ae)) ⟨_,-4000,rfl,hf.bar,kB a b c,hl,rfl⟩) ?_
    exact aq (ag X3 hr.m (ad (af 0) ae) ⟨a,b,c,rfl,hf,hg,rfl⟩ ht.on)
theorem qx(X1:aG P w K mg base 8 "classes" aH (qd (-4000) (cl 2)))(F:Fun K "rounds" "rounds" jk f fd)(hm:mg "rounds"=some (.ref f))(hb:Binds K fd ["bar"] []):
  aG P w K mg base 10 "rounds" aH (qd (-4000) (cl 2)):=by
 refine ay F mZ hm hb (λds C h=> ?_) (λcdv A outer s H E hr ds C h ht=> ?_)
 ·obtain⟨d,rfl,hd,rfl⟩:=h
  exact⟨rfl,λz hz=>by simp only[List.mem_cons,List.not_mem_nil,or_false]at hz;subst hz;exact hd.own⟩
 ·obtain⟨d,rfl,hd,rfl⟩:=h
  refine uF 1 tu (λd hd=>by cases hd) (λl _=> ?_) mZ.nd
  exact wn (ag X1 hr.m (ad (af 0) ae) ⟨d,rfl,hd,rfl⟩ ht.on)
theorem oI(X1:aG P w K mg base 10 "rounds" aH (qd (-4000) (cl 2)))(F:Fun K "lengths" "lengths" hW f fd)(hm:mg "lengths"=some (.ref f))(hb:Binds K fd ["bar"] []):
  aG P w K mg base 11 "lengths" aH (qd (-4000) (cl 2)):=by
 refine ay F lQ hm hb (λds C h=> ?_) (λcdv A outer s H E hr ds C h ht=> ?_)
 ·obtain⟨d,rfl,hd,rfl⟩:=h
  exact⟨rfl,λz hz=>by simp only[List.mem_cons,List.not_mem_nil,or_false]at hz;subst hz;exact hd.own⟩
 ·obtain⟨d,rfl,hd,rfl⟩:=h
  exact g8 1 (ag X1 hr (ad (af 0) ae) ⟨d,rfl,hd,rfl⟩ ht.on) lQ.nd
theorem qv(X1:aG P w K mg base 8 "classes" aH (qd (-4000) (cl 2)))(F:Fun K "parted" "parted" ji f fd)(hm:mg "parted"=some (.ref f))(hb:Binds K fd ["bar"] []):
  aG P w K mg base 11 "parted" aH (qd (-4000) (cl 2)):=by
 refine ay F mY hm hb (λds C h=> ?_) (λcdv A outer s H E hr ds C h ht=> ?_)
 ·obtain⟨d,rfl,hd,rfl⟩:=h
  exact⟨rfl,λz hz=>by simp only[List.mem_cons,List.not_mem_nil,or_false]at hz;subst hz;exact hd.own⟩
 ·obtain⟨d,rfl,hd,rfl⟩:=h
  exact g8 1 (ag X1 hr.m (ad (af 0) ae) ⟨d,rfl,hd,rfl⟩ ht.on) mY.nd
theorem oK(X1:aG P w K mg base 4 "require_form" aH (gz (cl 0)))(F:Fun K "written" "written" ic f fd)(hm:mg "written"=some (.ref f))(hb:Binds K fd ["form"] []):
  aG P w K mg base 5 "written" aH (gz (cl 0)):=by
 refine ay F ri hm hb (λds C h=> ?_) (λcdv A outer s H E hr ds C h ht=> ?_)
 ·obtain⟨d,rfl,hd,rfl⟩:=h
  exact⟨rfl,λz hz=>by simp only[List.mem_cons,List.not_mem_nil,or_false]at hz;subst hz;exact hd.own⟩
 ·obtain⟨d,rfl,hd,rfl⟩:=h
  exact aq (ag X1 hr.m (ad (af 0) ae) ⟨d,rfl,hd,rfl⟩ ht.on)
theorem sW{dv:Value}(X5:aG P w K mg base 4 "require_bar_from" aH (bL (cl 2)))(C1:j9 K mg "LOWEST_LISTED_BAR" (.int (-4000)))(F:FunD K "table" "table" cg f fd dv)(hm:mg "table"=some (.ref f))(hb:Binds K fd ["bar","width"] [])(hb2:Binds K fd ["bar","width"] [dv])(hv:RelV (.int 6) dv):
  uj P w K mg base 11 "table" 6 (xD (-4000) (cl 2)):=by
 refine wE F vH hm hb hb2 hv (λds C h=> ?_) (λcdv A outer s H E hr ds C h ht=> ?_)
 ·obtain⟨d,e,rfl,hd,he,rfl⟩:=h
  have hd:=hd.own
  exact⟨rfl,λz hz=>by simp only[List.mem_cons,List.not_mem_nil,or_false]at hz;rcases hz with rfl|rfl<;>first|rfl|assumption⟩
 ·obtain⟨d,e,rfl,hd,he,rfl⟩:=h
  exact aq (ag X5 hr.m (ad (af 0) (ad (bn C1) ae)) ⟨d,-4000,rfl,hd,rfl⟩ ht.on)
theorem qw(X1:aG P w K mg base 4 "require_form" aH (gz (cl 0)))(G1:Fn P w K mg base 4 "require_form" aB)(X4:aG P w K mg base 3 "require_number" aH (fB (cl 5)))(C1:j9 K mg "GREATEST_places" (.int 10000))(F:Fun K "places" "places" jj f fd)(hm:mg "places"=some (.ref f))(hb:Binds K fd ["form","number"] []):
  aG P w K mg base 7 "places" aH (lX cl):=by
 refine ay F ub hm hb (λds C h=> ?_) (λcdv A outer s H E hr ds C h ht=> ?_)
 ·rcases h with⟨d,e,rfl,hd,he,rfl⟩|h
  ·have hd:=hd.own
   exact⟨rfl,λz hz=>by simp only[List.mem_cons,List.not_mem_nil,or_false]at hz;rcases hz with rfl|rfl<;>first|rfl|assumption⟩
  ·obtain⟨a,b,c,d,rfl,hf,hd,rfl⟩:=h
   have hd:=hd.own
   exact⟨rfl,λz hz=>by simp only[List.mem_cons,List.not_mem_nil,or_false]at hz;rcases hz with rfl|rfl<;>first|rfl|assumption⟩
 ·rcases h with⟨d,e,rfl,hd,he,rfl⟩|⟨a,b,c,d,rfl,hf,hd,rfl⟩
  ·exact aq (ag X1 hr.m (ad (af 0) ae) ⟨d,rfl,hd,rfl⟩ ht.on)
  ·refine az (ah G1 hr.m (ad (af 0) ae) ⟨a,b,c,rfl,hf,rfl⟩) ?_
   exact aq (ag X4 hr.m (ad (af 1) (ad aa (ad (bn C1) ae))) ⟨d,0,10000,rfl,hd,rfl⟩ ht.on)
theorem eG(Q:Ex23 K mg cl)(X4:aG P w K mg base 3 "require_number" aH (fB (cl 5)))(G4:Fn P w K mg base 3 "require_number" du)(G8:qh P w K mg base 1 "prime_factors" yh)(C2:j9 K mg "GREATEST_primes" (.int 10000))(F:Fun K "require_telling_prime" "require_telling_prime" aV f fd)(hm:mg "require_telling_prime"=some (.ref f))(hb:Binds K fd ["bar","prime"] []):
  aG P w K mg base 4 "require_telling_prime" aH (xF cl):=by
 refine ay F eX hm hb (λds C h=> ?_) (λcdv A outer s H E hr ds C h ht=> ?_)
 ·obtain⟨i,d,rfl,hd,rfl⟩:=h
  have hd:=hd.own
  exact⟨rfl,λz hz=>by simp only[List.mem_cons,List.not_mem_nil,or_false]at hz;rcases hz with rfl|rfl<;>first|rfl|assumption⟩
 ·obtain⟨i,d,rfl,hd,rfl⟩:=h
  rcases hd with hd|⟨n,rfl,n1,n2,h⟩
  ·exact aq (ag X4 hr (ad (af 1) (ad aa (ad (bn C2) ae))) ⟨d,3,10000,rfl,hd,rfl⟩ ht.on)
  ·refine az (ah G4 hr (ad (af 1) (ad aa (ad (bn C2) ae))) ⟨(n:Int),3,10000,rfl,by omega,by omega,rfl⟩) ?_
   refine ck (λ_=>False) (k:=true) ?_ (λ_=>cn ht.made (Q.q 5 (by decide)) PySem.F.excBase_ValueError rfl PySem.F.excBase_ValueError Q.m5 hr.hd (ad cj ae) (by simp)) (λz=>by cases z) (λ_ z=>z.elim)
   have hr1:=hr.mono (show 1≤3 by decide)
   have em:(PF n).map nD=((PF n).map λ(k:Nat)=>(k:Int)).map D.int:=by rw[List.map_map];rfl
   have cms:Cms 0 ((PF n).map nD) [D.int (n:Int)]:=by rw[em];exact Cms.ints _ [(n:Int)]
   by_cases hp:PF n=[n]
   ·have hz:i%(n:Int)=0:=by
     rcases h with h|h
     ·exact absurd hp h
     ·exact h
    exact bH (fG (Et.to (uJ (n:=0) hr (iS.ev (cO G8 hr1 (ad (af 1) ae) ⟨n,rfl,by omega,by omega,rfl⟩)) (iS.ev (aQ (ad (af 1) ae))) rfl rfl cms) (congrArg not (bN.mpr (by rw[hp];rfl)))) (gI (Et.tt (aj (aA (af 0) (af 1) (by omega)) aa) hz)))
   ·refine bH (jD (Et.to (uJ (n:=0) hr (iS.ev (cO G8 hr1 (ad (af 1) ae) ⟨n,rfl,by omega,by omega,rfl⟩)) (iS.ev (aQ (ad (af 1) ae))) rfl rfl cms) (congrArg not (Bool.eq_false_iff.mpr λz=>hp ?_))))
    have zz:=bN.mp z
    have e3:[D.int (n:Int)]=[n].map nD:=rfl
    injection zz with zz
    rw[e3]at zz
    exact List.map_inj_right (λx y h=>by injection h with h;exact_mod_cast h) |>.mp zz
theorem kP(X5:aG P w K mg base 4 "require_bar_from" aH (bL (cl 2)))(G5:Fn P w K mg base 4 "require_bar_from" aS)(X6:aG P w K mg base 4 "require_telling_prime" aH (xF cl))(C1:j9 K mg "LOWEST_MARKED_BAR" (.int (-1000000)))(F:Fun K "prime_told" "prime_told" dP f fd)(hm:mg "prime_told"=some (.ref f))(hb:Binds K fd ["bar","prime"] []):
  aG P w K mg base 6 "prime_told" aH (ot cl):=by
 refine ay F mB hm hb (λds C h=> ?_) (λcdv A outer s H E hr ds C h ht=> ?_)
 ·rcases h with⟨d,e,rfl,hd,he,rfl⟩|h
  ·have hd:=hd.own
   exact⟨rfl,λz hz=>by simp only[List.mem_cons,List.not_mem_nil,or_false]at hz;rcases hz with rfl|rfl<;>first|rfl|assumption⟩
  ·obtain⟨i,d,rfl,hi,hd,rfl⟩:=h
   have hd:=hd.own
   exact⟨rfl,λz hz=>by simp only[List.mem_cons,List.not_mem_nil,or_false]at hz;rcases hz with rfl|rfl<;>first|rfl|assumption⟩
 ·rcases h with⟨d,e,rfl,hd,he,rfl⟩|⟨i,d,rfl,hi,hd,rfl⟩
  ·exact aq (ag X5 hr.m (ad (af 0) (ad (bn C1) ae)) ⟨d,-1000000,rfl,hd,rfl⟩ ht.on)
  ·refine az (ah G5 hr.m (ad (af 0) (ad (bn C1) ae)) ⟨i,-1000000,rfl,hi.1,hi.2.1,hi.2.2,rfl⟩) ?_
   exact aq (ag X6 hr.m (ad (af 0) (ad (af 1) ae)) ⟨i,d,rfl,hd,rfl⟩ ht.on)
theorem ur(X5:aG P w K mg base 4 "require_bar_from" aH (bL (cl 2)))(G5:Fn P w K mg base 4 "require_bar_from" aS)(X4:aG P w K mg base 3 "require_number" aH (fB (cl 5)))(C1:j9 K mg "LOWEST_LISTED_BAR" (.int (-4000)))(C2:j9 K mg "GREATEST_primes" (.int 10000))(F:Fun K "ways" "ways" oi f fd)(hm:mg "ways"=some (.ref f))(hb:Binds K fd ["bar","number"] []):
  aG P w K mg base 9 "ways" aH (rC cl):=by
 refine ay F w5 hm hb (λds C h=> ?_) (λcdv A outer s H E hr ds C h ht=> ?_)
 ·rcases h with⟨d,e,rfl,hd,he,rfl⟩|h
  ·have hd:=hd.own
   exact⟨rfl,λz hz=>by simp only[List.mem_cons,List.not_mem_nil,or_false]at hz;rcases hz with rfl|rfl<;>first|rfl|assumption⟩
  ·obtain⟨i,d,rfl,hi,hd,rfl⟩:=h
   have hd:=hd.own
   exact⟨rfl,λz hz=>by simp only[List.mem_cons,List.not_mem_nil,or_false]at hz;rcases hz with rfl|rfl<;>first|rfl|assumption⟩
 ·rcases h with⟨d,e,rfl,hd,he,rfl⟩|⟨i,d,rfl,hi,hd,rfl⟩
  ·exact aq (ag X5 hr.m (ad (af 0) (ad (bn C1) ae)) ⟨d,-4000,rfl,hd,rfl⟩ ht.on)
  ·refine az (ah G5 hr.m (ad (af 0) (ad (bn C1) ae)) ⟨i,-4000,rfl,hi.1,hi.2.1,hi.2.2,rfl⟩) ?_
   exact aq (ag X4 hr.m (ad (af 1) (ad aa (ad (bn C2) ae))) ⟨d,0,10000,rfl,hd,rfl⟩ ht.on)
theorem nA(Q:Ex23 K mg cl)(X1:aG P w K mg base 3 "require_bar" aH (yH (cl 2)))(G1:Fn P w K mg base 3 "require_bar" cr)(X4:aG P w K mg base 3 "require_number" aH (fB (cl 5)))(G4:Fn P w K mg base 3 "require_number" du)(G7:Fn P w K mg base 1 "common_divisor" dq)(C2:j9 K mg "GREATEST_primes" (.int 10000))(F:Fun K "ways_sum" "ways_sum" fW f fd)(hm:mg "ways_sum"=some (.ref f))(hb:Binds K fd ["bar","number"] []):
  aG P w K mg base 5 "ways_sum" aH (iR cl):=by
 refine ay F pZ hm hb (λds C h=> ?_) (λcdv A outer s H E hr ds C h ht=> ?_)
 ·rcases h with⟨d,e,rfl,hd,he,rfl⟩|⟨i,d,rfl,h0,h4,rfl,h⟩
  ·have hd:=hd.own
   exact⟨rfl,λz hz=>by simp only[List.mem_cons,List.not_mem_nil,or_false]at hz;rcases hz with rfl|rfl<;>first|rfl|assumption⟩
  ·have hd:aR d=none:=by
    rcases h with h|⟨n,rfl,_⟩
    ·exact h.own
    ·rfl
   exact⟨rfl,λz hz=>by simp only[List.mem_cons,List.not_mem_nil,or_false]at hz;rcases hz with rfl|rfl<;>first|rfl|assumption⟩
 ·rcases h with⟨d,e,rfl,hd,he,rfl⟩|⟨i,d,rfl,h0,h4,rfl,h⟩
  ·exact aq (ag X1 hr.m (ad (af 0) ae) ⟨d,rfl,hd,rfl⟩ ht.on)
  ·refine az (ah G1 hr.m (ad (af 0) ae) ⟨i,rfl,h0,h4,rfl⟩) ?_
   rcases h with hd|⟨n,rfl,n1,n2,hg⟩
   ·exact aq (ag X4 hr.m (ad (af 1) (ad aa (ad (bn C2) ae))) ⟨d,1,10000,rfl,hd,rfl⟩ ht.on)
   ·refine az (ah G4 hr.m (ad (af 1) (ad aa (ad (bn C2) ae))) ⟨n,1,10000,rfl,n1,n2,rfl⟩) ?_
    have hg':¬((Int.gcd i n:Nat):Int)=1:=λz=>hg (by exact_mod_cast z)
    exact ck (λ_=>False) (k:=true) (Et.to (eM (ah G7 hr.m (ad (af 0) (ad (af 1) ae)) ⟨i,n,rfl,rfl⟩) aa) (by rw[decide_eq_false hg'];rfl)) (λ_=>cn ht.made (Q.q 5 (by decide)) PySem.F.excBase_ValueError rfl PySem.F.excBase_ValueError Q.m5 hr.hd (ad cj ae) (by simp)) (λz=>by cases z) (λ_ z=>z.elim)
theorem lw(T:Tx mg)(F:Fun K "_law_cell_at" "_law_cell_at" dE f fd)(hm:mg "_law_cell_at"=some (.ref f))(hb:Binds K fd ["_law_script","_law_k"] []):
  Fn P w K mg base 1 "_law_cell_at" iu:=by
 refine aL F lO hm hb (λds d h=> ?_) (λcdv A outer s H E hr ds d h=> ?_)
 ·obtain⟨ns,k,rfl,rfl⟩:=h
  exact⟨rfl,by simp⟩
 ·obtain⟨ns,k,rfl,rfl⟩:=h
  have e1:qU (yo ns)=some ns.length:=by simp[qU]
  refine ao (im (af 1) (nP T.len (af 0) e1)) (λhk=> ?_) (λhk=> ?_)
  ·have hk':k<ns.length:=by simpa using hk
   refine ax (qJ (d:=.int (cell ns k)) (af 0) rfl (af 1) (atI_nat ?_)) rfl
   rw[List.getElem?_map,List.getElem?_eq_getElem hk']
   simp[cell,List.getD,List.getElem?_eq_getElem hk']
  ·have hk':ns.length≤k:=by simpa using hk
   refine ax aa ?_
   show D.int 0=D.int _
   simp[cell,List.getD,List.getElem?_eq_none hk']
theorem kl(F:Fun K "_law_bad_form" "_law_bad_form" df f fd)(hm:mg "_law_bad_form"=some (.ref f))(hb:Binds K fd ["_law_cell","_law_more"] []):
  oB P w K mg base 1 "_law_bad_form" n5 lF:=by
 refine jF F gm hm hb (λds h=> ?_) (λcdv A outer s H E hr ds h=> ?_)
 ·obtain⟨c,m,rfl,_⟩:=h
  exact⟨rfl,by simp⟩
 ·obtain⟨c,m,rfl,hM⟩:=h
  have nd:=gm.nd
  have h0:=hM.1
  refine Doo.out ?_
  refine uG 2 (ds:=[.fl [.int 1,.int 0,.int 1],.tup [.int 1,.int 1],.tup [.bl true,.int 0,.int 1],ar 0 1 1,ar 1 2 1,ar (-1-m) 0 (-1),.str (Str.ofString "form")]) ?he (fzs rfl) (λl _=> ?_) nd
  case he=>
   refine aQ ?_
   refine yE ?_ ?_
   ·refine iI (ds:=[.int 1,.int 0,.int 1]) ?_ (fzs rfl)
    refine aQ ?_
    refine aF ?_ ?_
    ·exact aa
    refine aF ?_ ?_
    ·exact aa
    refine aF ?_ ?_
    ·exact aa
    exact ae
   refine gy ?_ ?_
   ·refine ap ?_
    refine aF ?_ ?_
    ·exact aa
    refine aF ?_ ?_
    ·exact aa
    exact ae
   refine gy ?_ ?_
   ·refine ap ?_
    refine aF ?_ ?_
    ·exact bO
    refine aF ?_ ?_
    ·exact aa
    refine aF ?_ ?_
    ·exact aa
    exact ae
   refine gy ?_ ?_
   ·refine ap ?_
    refine aF ?_ ?_
    ·exact aa
    refine aF ?_ ?_
    ·exact aa
    refine aF ?_ ?_
    ·exact aa
    exact ae
   refine gy ?_ ?_
   ·refine ap ?_
    refine aF ?_ ?_
    ·exact aa
    refine aF ?_ ?_
    ·exact aa
    refine aF ?_ ?_
    ·exact aa
    exact ae
   refine gy ?_ ?_
   ·refine ap ?_
    refine mD ?_ ?_
    ·exact aU (aE aa) (af 1)
    refine aF ?_ ?_
    ·exact aa
    refine uI ?_ ?_
    ·exact aE aa
    exact ae
   refine aF ?_ ?_
   ·exact cj
   exact ae
  suffices fin:∃(k:Nat) (d:D),c%12=(k:Int)∧([.fl [.int 1,.int 0,.int 1],.tup [.int 1,.int 1],.tup [.bl true,.int 0,.int 1],ar 0 1 1,ar 1 2 1,ar (-1-m) 0 (-1),.str (Str.ofString "form")]++[.non,.tup [.int 1,.str (Str.ofString "b"),.int 1],ar 1 (3+m) 1,ar 1 0 (0-m),.tup [.int 1,.int 0,.int 1,.int 0]]:List D)[k]?=some d∧BadF d∧Fz d by
   obtain⟨k,d,hk,hj,hp⟩:=fin
   refine wt (d:=d) ?ev hp (λa z=>by rw[hp.1.own]at z;cases z)
   case ev=>
    refine qJ (ds:=[.fl [.int 1,.int 0,.int 1],.tup [.int 1,.int 1],.tup [.bl true,.int 0,.int 1],ar 0 1 1,ar 1 2 1,ar (-1-m) 0 (-1),.str (Str.ofString "form")]++[.non,.tup [.int 1,.str (Str.ofString "b"),.int 1],ar 1 (3+m) 1,ar 1 0 (0-m),.tup [.int 1,.int 0,.int 1,.int 0]]) (d':=.ls ([.fl [.int 1,.int 0,.int 1],.tup [.int 1,.int 1],.tup [.bl true,.int 0,.int 1],ar 0 1 1,ar 1 2 1,ar (-1-m) 0 (-1),.str (Str.ofString "form")]++[.non,.tup [.int 1,.str (Str.ofString "b"),.int 1],ar 1 (3+m) 1,ar 1 0 (0-m),.tup [.int 1,.int 0,.int 1,.int 0]])) ?_ rfl (Ev.to (aA (af 0) aa (by decide)) (by rw[hk])) (atI_nat hj)
    refine iS.ev ?_
    refine nQ (af 2) ?_ (by simp)
    refine aQ ?_
    refine aF ?_ ?_
    ·exact jC
    refine gy ?_ ?_
    ·refine ap ?_
     refine aF ?_ ?_
     ·exact aa
     refine aF ?_ ?_
     ·exact cj
     refine aF ?_ ?_
     ·exact aa
     exact ae
    refine gy ?_ ?_
    ·refine ap ?_
     refine aF ?_ ?_
     ·exact aa
     refine mD ?_ ?_
     ·exact aI aa (af 1)
     refine aF ?_ ?_
     ·exact aa
     exact ae
    refine gy ?_ ?_
    ·refine ap ?_
     refine aF ?_ ?_
     ·exact aa
     refine aF ?_ ?_
     ·exact aa
     refine mD ?_ ?_
     ·exact aU aa (af 1)
     exact ae
    refine gy ?_ ?_
    ·refine ap ?_
     refine aF ?_ ?_
     ·exact aa
     refine aF ?_ ?_
     ·exact aa
     refine aF ?_ ?_
     ·exact aa
     refine aF ?_ ?_
     ·exact aa
     exact ae
    exact ae
  have hc:c%12=0∨c%12=1∨c%12=2∨c%12=3∨c%12=4∨c%12=5∨c%12=6∨c%12=7∨c%12=8∨c%12=9∨c%12=10∨c%12=11:=by omega
  rcases hc with hc|hc|hc|hc|hc|hc|hc|hc|hc|hc|hc|hc
  ·exact⟨0,_,hc,rfl,.lst _,dk 4 _ rfl⟩
  ·exact⟨1,_,hc,rfl,.tup (bs:=[true,true]) (by simp) rfl rfl,dk 4 _ rfl⟩
  ·exact⟨2,_,hc,rfl,.tup (bs:=[false,true,true]) (by simp) rfl rfl,dk 4 _ rfl⟩
  ·exact⟨3,_,hc,rfl,ll hM (by omega) (by omega) (by omega) (by omega) (by omega) (by omega) (by omega),dk 4 _ rfl⟩
  ·exact⟨4,_,hc,rfl,ll hM (by omega) (by omega) (by omega) (by omega) (by omega) (by omega) (by omega),dk 4 _ rfl⟩
  ·exact⟨5,_,hc,rfl,ll hM (by omega) (by omega) (by omega) (by omega) (by omega) (by omega) (by omega),dk 4 _ rfl⟩
  ·exact⟨6,_,hc,rfl,.str _,dk 4 _ rfl⟩
  ·exact⟨7,_,hc,rfl,.non,dk 4 _ rfl⟩
  ·exact⟨8,_,hc,rfl,.tup (bs:=[true,false,true]) (by simp) rfl rfl,dk 4 _ rfl⟩
  ·refine⟨9,_,hc,rfl,ll hM (by omega) (by omega) (by omega) (by omega) (by omega) (by omega) (λz=> ?_),dk 4 _ rfl⟩
   have z2:=z.2
   have:9≤(3+m)*(3+m):=by
    have:=Int.mul_le_mul (show(3:Int)≤3+m by omega) (show(3:Int)≤3+m by omega) (by omega) (by omega)
    omega
   omega
  ·exact⟨10,_,hc,rfl,ll hM (by omega) (by omega) (by omega) (by omega) (by omega) (by omega) (by omega),dk 4 _ rfl⟩
  ·exact⟨11,_,hc,rfl,.tup (bs:=[true,true,true,true]) (by simp) rfl rfl,dk 4 _ rfl⟩
theorem ki(Xa:aG P w K mg base 6 "turned" aH (lY cl))(Xb:aG P w K mg base 5 "bar_of" aH (gz (cl 0)))(Xc:aG P w K mg base 5 "worth" aH (yJ (cl 0)))(Xd:aG P w K mg base 5 "is_bare" aH (gz (cl 0)))(Xe:aG P w K mg base 5 "is_least" aH (gz (cl 0)))(Xf:aG P w K mg base 5 "least_of" aH (gz (cl 0)))(Xg:aG P w K mg base 6 "alike" aH (v6 cl))(Xh:aG P w K mg base 8 "joined" aH (jt cl))(Xi:aG P w K mg base 6 "own_turnings" aH (gz (cl 0)))(Xj:aG P w K mg base 6 "smallest" aH (gz (cl 0)))(Xk:aG P w K mg base 7 "places" aH (lX cl))(F:Fun K "_law_ask_form" "_law_ask_form" bQ f fd)(hm:mg "_law_ask_form"=some (.ref f))(hb:Binds K fd ["_law_way","_law_form"] []):
  aG P w K mg base 12 "_law_ask_form" aH (vV cl):=by
 refine ay F gk hm hb (λds C h=> ?_) (λcdv A outer s H E hr ds C h ht=> ?_)
 ·obtain⟨k,d,rfl,_,hd,rfl⟩:=h
  have hd:=hd.own
  exact⟨rfl,λz hz=>by simp only[List.mem_cons,List.not_mem_nil,or_false]at hz;rcases hz with rfl|rfl<;>first|rfl|assumption⟩
 ·obtain⟨k,d,rfl,hk,hd,rfl⟩:=h
  have hk':k=0∨k=1∨k=2∨k=3∨k=4∨k=5∨k=6∨k=7∨k=8∨k=9∨k=10∨k=18∨k=19:=by omega
  rcases hk' with rfl|rfl|rfl|rfl|rfl|rfl|rfl|rfl|rfl|rfl|rfl|rfl|rfl
  ·repeat(refine ak (Et.ff' (aj (af 0) aa) (by decide)) ?_)
   refine ao (k:=true) (Et.tt (aj (af 0) aa) (by decide)) (λ_=> ?_) (λz=>by cases z)
   exact am (ag Xa hr.m (ii (af 1) (gy (ap (aF aa (aF aa (aF aa (aF aa ae))))) ae)) (.inl ⟨d,_,rfl,hd,rfl,rfl⟩) ht.on)
  ·repeat(refine ak (Et.ff' (aj (af 0) aa) (by decide)) ?_)
   refine ao (k:=true) (Et.tt (aj (af 0) aa) (by decide)) (λ_=> ?_) (λz=>by cases z)
   exact am (ag Xb hr.m (ii (af 1) ae) ⟨d,rfl,hd,rfl⟩ ht.on)
  ·repeat(refine ak (Et.ff' (aj (af 0) aa) (by decide)) ?_)
   refine ao (k:=true) (Et.tt (aj (af 0) aa) (by decide)) (λ_=> ?_) (λz=>by cases z)
   exact am (ag Xc hr.m (ii (af 1) (gy (ap (aF aa (aF aa ae))) ae)) ⟨d,_,rfl,hd,rfl,rfl⟩ ht.on)
  ·repeat(refine ak (Et.ff' (aj (af 0) aa) (by decide)) ?_)
   refine ao (k:=true) (Et.tt (aj (af 0) aa) (by decide)) (λ_=> ?_) (λz=>by cases z)
   exact am (lH (ag Xd hr.m (ii (af 1) ae) ⟨d,rfl,hd,rfl⟩ ht.on))
  ·repeat(refine ak (Et.ff' (aj (af 0) aa) (by decide)) ?_)
   refine ao (k:=true) (Et.tt (aj (af 0) aa) (by decide)) (λ_=> ?_) (λz=>by cases z)
   exact am (lH (ag Xe hr.m (ii (af 1) ae) ⟨d,rfl,hd,rfl⟩ ht.on))
  ·repeat(refine ak (Et.ff' (aj (af 0) aa) (by decide)) ?_)
   refine ao (k:=true) (Et.tt (aj (af 0) aa) (by decide)) (λ_=> ?_) (λz=>by cases z)
   exact am (ag Xf hr.m (ii (af 1) ae) ⟨d,rfl,hd,rfl⟩ ht.on)
  ·repeat(refine ak (Et.ff' (aj (af 0) aa) (by decide)) ?_)
   refine ao (k:=true) (Et.tt (aj (af 0) aa) (by decide)) (λ_=> ?_) (λz=>by cases z)
   exact am (ag Xg hr.m (gy (ap (aF aa (aF aa (aF aa ae)))) (ii (af 1) ae)) (.inr ⟨1,0,1,d,rfl,⟨by decide,by decide,.lit,.lit,.lit⟩,hd,rfl⟩) ht.on)
  ·repeat(refine ak (Et.ff' (aj (af 0) aa) (by decide)) ?_)
   refine ao (k:=true) (Et.tt (aj (af 0) aa) (by decide)) (λ_=> ?_) (λz=>by cases z)
   exact am (ag Xi hr.m (ii (af 1) ae) ⟨d,rfl,hd,rfl⟩ ht.on)
  ·repeat(refine ak (Et.ff' (aj (af 0) aa) (by decide)) ?_)
   refine ao (k:=true) (Et.tt (aj (af 0) aa) (by decide)) (λ_=> ?_) (λz=>by cases z)
   exact am (ag Xj hr.m (ii (af 1) ae) ⟨d,rfl,hd,rfl⟩ ht.on)
  ·repeat(refine ak (Et.ff' (aj (af 0) aa) (by decide)) ?_)
   refine ao (k:=true) (Et.tt (aj (af 0) aa) (by decide)) (λ_=> ?_) (λz=>by cases z)
   exact am (ag Xk hr.m (ii (af 1) (uI (aE aa) ae)) (.inl ⟨d,_,rfl,hd,rfl,rfl⟩) ht.on)
  ·repeat(refine ak (Et.ff' (aj (af 0) aa) (by decide)) ?_)
   exact am (ag Xh hr.m (gy (ap (aF aa (aF aa (aF aa ae)))) (ii (af 1) ae)) (.inl (.inr ⟨2,0,2,d,rfl,⟨by decide,by decide,.lit,.lit,.lit⟩,hd,rfl⟩)) ht.on)
  ·repeat(refine ak (Et.ff' (aj (af 0) aa) (by decide)) ?_)
   refine ao (k:=true) (Et.tt (aj (af 0) aa) (by decide)) (λ_=> ?_) (λz=>by cases z)
   exact am (ag Xg hr.m (ii (af 1) (gy (ap (aF aa (aF aa (aF aa ae)))) ae)) (.inl ⟨d,_,rfl,hd,rfl,rfl⟩) ht.on)
  ·repeat(refine ak (Et.ff' (aj (af 0) aa) (by decide)) ?_)
   refine ao (k:=true) (Et.tt (aj (af 0) aa) (by decide)) (λ_=> ?_) (λz=>by cases z)
   exact am (ag Xh hr.m (ii (af 1) (gy (ap (aF aa (aF aa (aF aa ae)))) ae)) (.inl (.inl ⟨d,_,rfl,hd,rfl,rfl⟩)) ht.on)
set_option maxHeartbeats 2000000 in
theorem jv{Pl:Addr}{dp:Pos}(Gs:FnM P w K mg base 9 "same_genus" Pl dp aK)(X1:aG P w K mg base 4 "require_form" aH (gz (cl 0)))(F:Fun K "_law_ask_form" "_law_ask_form" bQ f fd)(hm:mg "_law_ask_form"=some (.ref f))(hb:Binds K fd ["_law_way","_law_form"] []):
  sR P w K mg base 12 "_law_ask_form" Pl dp jW (qe cl):=by
 refine oV F gk hm hb (λds C h=> ?_) (λcdv A outer s H E hr ds C h tb ht=> ?_)
 ·obtain⟨d,rfl,hd,rfl⟩:=h
  have hd:=hd.own
  exact⟨rfl,λz hz=>by simp only[List.mem_cons,List.not_mem_nil,or_false]at hz;rcases hz with rfl|rfl<;>first|rfl|assumption⟩
 ·obtain⟨d,rfl,hd,rfl⟩:=h
  obtain⟨fs,fds,ppos,Fs,hms,kps,bds⟩:=Gs
  have S:FM.ScX "other" "genus" "form" (defScope (jR aK 1)):=⟨rfl,rfl,rfl,by decide,rfl,rfl,rfl,by decide,FM.only2 rfl⟩
  repeat(refine ak (Et.ff' (aj (af 0) aa) (by decide)) ?_)
  refine ao (k:=true) (Et.tt (aj (af 0) aa) (by decide)) (λ_=> ?_) (λz=>by cases z)
  exact am (lH (wY (k2:=10) Fs hms kps bds hr.m (ap (aF aa (aF aa (aF aa ae)))) ⟨1,0,1,rfl,rfl,rfl,uV,wg⟩ (af 1) S hr hd.own (.int _) (xX _ _ _) (λ_ _ _ _ _ _=>rfl) tb (ht _) (λs' g cd cX cY H' E' hrr th=>aq (ag X1 (hrr.mono (by decide)) (ad (af 0) ae) ⟨d,rfl,hd,rfl⟩ (th _)))))
theorem kj(Xa:aG P w K mg base 7 "opposite" aH (iQ cl))(Xb:aG P w K mg base 10 "repeated" aH (fZ cl))(Xc:aG P w K mg base 10 "round_of" aH (kK cl))(Xd:aG P w K mg base 8 "genus_of" aH (cJ (-1000000) cl))(Xe:aG P w K mg base 5 "written" aH (gz (cl 0)))(Xf:aG P w K mg base 9 "same_genus" aH (cJ (-1000000) cl))(Xg:aG P w K mg base 9 "halved" aH (cJ (-4000) cl))(F:Fun K "_law_ask_late" "_law_ask_late" de f fd)(hm:mg "_law_ask_late"=some (.ref f))(hb:Binds K fd ["_law_way","_law_form"] []):
  aG P w K mg base 12 "_law_ask_late" aH (vW cl):=by
 refine ay F kw hm hb (λds C h=> ?_) (λcdv A outer s H E hr ds C h ht=> ?_)
 ·obtain⟨k,d,rfl,_,_,hd,rfl⟩:=h
  have hd:=hd.own
  exact⟨rfl,λz hz=>by simp only[List.mem_cons,List.not_mem_nil,or_false]at hz;rcases hz with rfl|rfl<;>first|rfl|assumption⟩
 ·obtain⟨k,d,rfl,h1,h2,hd,rfl⟩:=h
  have hk':k=11∨k=12∨k=13∨k=14∨k=15∨k=16∨k=17:=by omega
  rcases hk' with rfl|rfl|rfl|rfl|rfl|rfl|rfl
  ·repeat(refine ak (Et.ff' (aj (af 0) aa) (by decide)) ?_)
   refine ao (k:=true) (Et.tt (aj (af 0) aa) (by decide)) (λ_=> ?_) (λz=>by cases z)
   exact am (ag Xa hr.m (ii (af 1) ae) (.inl ⟨d,rfl,hd,rfl⟩) ht.on)
  ·repeat(refine ak (Et.ff' (aj (af 0) aa) (by decide)) ?_)
   refine ao (k:=true) (Et.tt (aj (af 0) aa) (by decide)) (λ_=> ?_) (λz=>by cases z)
   exact am (ag Xb hr.m (ii (af 1) (aF aa ae)) (.inl ⟨d,_,rfl,hd,rfl,rfl⟩) ht.on)
  ·repeat(refine ak (Et.ff' (aj (af 0) aa) (by decide)) ?_)
   refine ao (k:=true) (Et.tt (aj (af 0) aa) (by decide)) (λ_=> ?_) (λz=>by cases z)
   exact am (ag Xc hr.m (ii (af 1) ae) (.inl ⟨d,rfl,hd,rfl⟩) ht.on)
  ·repeat(refine ak (Et.ff' (aj (af 0) aa) (by decide)) ?_)
   refine ao (k:=true) (Et.tt (aj (af 0) aa) (by decide)) (λ_=> ?_) (λz=>by cases z)
   exact am (ag Xd hr.m (ii (af 1) ae) (.inl ⟨d,rfl,hd,rfl⟩) ht.on)
  ·repeat(refine ak (Et.ff' (aj (af 0) aa) (by decide)) ?_)
   refine ao (k:=true) (Et.tt (aj (af 0) aa) (by decide)) (λ_=> ?_) (λz=>by cases z)
   exact am (ag Xe hr.m (ii (af 1) ae) ⟨d,rfl,hd,rfl⟩ ht.on)
  ·repeat(refine ak (Et.ff' (aj (af 0) aa) (by decide)) ?_)
   refine ao (k:=true) (Et.tt (aj (af 0) aa) (by decide)) (λ_=> ?_) (λz=>by cases z)
   exact am (ag Xf hr.m (ii (af 1) ae) (.inl ⟨d,rfl,hd,rfl⟩) ht.on)
  ·repeat(refine ak (Et.ff' (aj (af 0) aa) (by decide)) ?_)
   exact am (ag Xg hr.m (ii (af 1) ae) (.inl ⟨d,rfl,hd,rfl⟩) ht.on)
theorem lq(Xa:aG P w K mg base 7 "least_forms" aH (qd (-4000) (cl 2)))(Xb:aG P w K mg base 8 "classes" aH (qd (-4000) (cl 2)))(Xc:aG P w K mg base 11 "parted" aH (qd (-4000) (cl 2)))(Xe:aG P w K mg base 11 "lengths" aH (qd (-4000) (cl 2)))(Xf:aG P w K mg base 9 "ways" aH (rC cl))(Xg:aG P w K mg base 5 "ways_sum" aH (iR cl))(Xh:aG P w K mg base 6 "prime_told" aH (ot cl))(Xi:aG P w K mg base 5 "marks_of" aH (qd (-1000000) (cl 2)))(Xj:uj P w K mg base 11 "table" 6 (xD (-4000) (cl 2)))(Xk:aG P w K mg base 9 "kept" aH (xD (-4000) (cl 2)))(Xl:aG P w K mg base 4 "neutral" aH (yH (cl 2)))(G1:Fn P w K mg base 5 "is_bare" fc)(F:Fun K "_law_ask_bar" "_law_ask_bar" dC f fd)(hm:mg "_law_ask_bar"=some (.ref f))(hb:Binds K fd ["_law_way","_law_bar"] []):
  aG P w K mg base 13 "_law_ask_bar" aH (rB cl):=by
 refine ay F lM hm hb (λds C h=> ?_) (λcdv A outer s H E hr ds C h ht=> ?_)
 ·obtain⟨k,d,rfl,_,hd,rfl⟩:=h
  have hd:aR d=none:=hd.elim (λz=>z.own) λz=>z.2.own
  exact⟨rfl,λz hz=>by simp only[List.mem_cons,List.not_mem_nil,or_false]at hz;rcases hz with rfl|rfl<;>first|rfl|assumption⟩
 ·obtain⟨k,d,rfl,hk,hd,rfl⟩:=h
  obtain⟨gb,_,_,_,mb,_,_⟩:=G1
  have hk':k=0∨k=1∨k=2∨k=3∨k=4∨k=5∨k=6∨k=7∨k=8∨k=9∨k=10:=by omega
  rcases hk' with rfl|rfl|rfl|rfl|rfl|rfl|rfl|rfl|rfl|rfl|rfl
  ·repeat(refine ak (Et.ff' (aj (af 0) aa) (by decide)) ?_)
   refine ao (k:=true) (Et.tt (aj (af 0) aa) (by decide)) (λ_=> ?_) (λz=>by cases z)
   exact am (ag Xa hr.m (ii (af 1) ae) ⟨d,rfl,hd.elim .inl (λz=>z.2),rfl⟩ ht.on)
  ·repeat(refine ak (Et.ff' (aj (af 0) aa) (by decide)) ?_)
   refine ao (k:=true) (Et.tt (aj (af 0) aa) (by decide)) (λ_=> ?_) (λz=>by cases z)
   exact am (ag Xb hr.m (ii (af 1) ae) ⟨d,rfl,hd.elim .inl (λz=>z.2),rfl⟩ ht.on)
  ·repeat(refine ak (Et.ff' (aj (af 0) aa) (by decide)) ?_)
   refine ao (k:=true) (Et.tt (aj (af 0) aa) (by decide)) (λ_=> ?_) (λz=>by cases z)
   exact am (ag Xc hr.m (ii (af 1) ae) ⟨d,rfl,hd.elim .inl (λz=>z.2),rfl⟩ ht.on)
  ·repeat(refine ak (Et.ff' (aj (af 0) aa) (by decide)) ?_)
   refine ao (k:=true) (Et.tt (aj (af 0) aa) (by decide)) (λ_=> ?_) (λz=>by cases z)
   exact am (ag Xe hr.m (ii (af 1) ae) ⟨d,rfl,hd.elim .inl (λz=>z.2),rfl⟩ ht.on)
  ·repeat(refine ak (Et.ff' (aj (af 0) aa) (by decide)) ?_)
   refine ao (k:=true) (Et.tt (aj (af 0) aa) (by decide)) (λ_=> ?_) (λz=>by cases z)
   exact am (ag Xf hr.m (ii (af 1) (uI (aE aa) ae)) (.inl ⟨d,_,rfl,hd.elim .inl (λz=>z.2),rfl,rfl⟩) ht.on)
  ·repeat(refine ak (Et.ff' (aj (af 0) aa) (by decide)) ?_)
   refine ao (k:=true) (Et.tt (aj (af 0) aa) (by decide)) (λ_=> ?_) (λz=>by cases z)
   have hB:BadB d:=hd.elim id λz=>absurd z.1 (by decide)
   exact am (ag Xg hr.m (ii (af 1) (aF aa ae)) (.inl ⟨d,_,rfl,hB,rfl,rfl⟩) ht.on)
  ·repeat(refine ak (Et.ff' (aj (af 0) aa) (by decide)) ?_)
   refine ao (k:=true) (Et.tt (aj (af 0) aa) (by decide)) (λ_=> ?_) (λz=>by cases z)
   have hB:BadB d:=hd.elim id λz=>absurd z.1 (by decide)
   exact am (ag Xh hr.m (ii (af 1) (aF aa ae)) (.inl ⟨d,_,rfl,.inl hB,rfl,rfl⟩) ht.on)
  ·repeat(refine ak (Et.ff' (aj (af 0) aa) (by decide)) ?_)
   refine ao (k:=true) (Et.tt (aj (af 0) aa) (by decide)) (λ_=> ?_) (λz=>by cases z)
   have hB:BadB d:=hd.elim id λz=>absurd z.1 (by decide)
   exact am (ag Xi hr.m (ii (af 1) ae) ⟨d,rfl,.inl hB,rfl⟩ ht.on)
  ·repeat(refine ak (Et.ff' (aj (af 0) aa) (by decide)) ?_)
   refine ao (k:=true) (Et.tt (aj (af 0) aa) (by decide)) (λ_=> ?_) (λz=>by cases z)
   have hB:BadB d:=hd.elim id λz=>absurd z.1 (by decide)
   exact am (pQ Xj hr.m (ii (af 1) ae) ⟨d,_,rfl,.inl hB,rfl,rfl⟩ ht.on)
  ·repeat(refine ak (Et.ff' (aj (af 0) aa) (by decide)) ?_)
   refine ao (k:=true) (Et.tt (aj (af 0) aa) (by decide)) (λ_=> ?_) (λz=>by cases z)
   have hB:BadB d:=hd.elim id λz=>absurd z.1 (by decide)
   exact am (ag Xk hr.m (ii (af 1) (ad (uO mb) ae)) ⟨d,_,rfl,.inl hB,rfl,rfl⟩ ht.on)
  ·repeat(refine ak (Et.ff' (aj (af 0) aa) (by decide)) ?_)
   have hB:BadB d:=hd.elim id λz=>absurd z.1 (by decide)
   exact am (ag Xl hr.m (ii (af 1) ae) ⟨d,rfl,hB,rfl⟩ ht.on)
theorem lr(G2:aG P w K mg base 13 "_law_ask_bar" aH (rB cl))(Xj:uj P w K mg base 11 "table" 6 (xD (-4000) (cl 2)))(Xk:aG P w K mg base 9 "kept" aH (xD (-4000) (cl 2)))(Xa:aG P w K mg base 10 "round_of" aH (kK cl))(Xb:aG P w K mg base 9 "halved" aH (cJ (-4000) cl))(Xc:aG P w K mg base 8 "genus_of" aH (cJ (-1000000) cl))(Xd:aG P w K mg base 5 "marks_of" aH (qd (-1000000) (cl 2)))(Xe:aG P w K mg base 6 "prime_told" aH (ot cl))(G1:Fn P w K mg base 5 "is_bare" fc)(F:Fun K "_law_ask_low" "_law_ask_low" dD f fd)(hm:mg "_law_ask_low"=some (.ref f))(hb:Binds K fd ["_law_way","_law_more"] []):
  aG P w K mg base 14 "_law_ask_low" aH (v4 cl):=by
 refine ay F lN hm hb (λds C h=> ?_) (λcdv A outer s H E hr ds C h ht=> ?_)
 ·obtain⟨k,m,rfl,_⟩:=h
  exact⟨rfl,by simp⟩
 ·obtain⟨k,m,rfl,hk,hM,rfl⟩:=h
  have h0:=hM.1
  obtain⟨gb,_,_,_,mb,_,_⟩:=G1
  by_cases h5:k<5
  ·refine ao (k:=true) (Et.tt (im (af 0) aa) (by omega)) (λ_=> ?_) (λz=>by cases z)
   exact am (ag G2 hr.m (ad (af 0) (ad (aU (aE aa) (aw aa (af 1) (Bd.lit (m:=4)) (i0 hM))) ae)) ⟨k,_,rfl,by omega,.inr ⟨h5,.inr ⟨_,rfl,by omega,by omega,by omega⟩⟩,rfl⟩ ht.on)
  ·refine ak (Et.ff' (im (af 0) aa) (by omega)) ?_
   have hk':k=5∨k=6∨k=7∨k=8∨k=9∨k=10∨k=11:=by omega
   rcases hk' with rfl|rfl|rfl|rfl|rfl|rfl|rfl
   ·repeat(refine ak (Et.ff' (aj (af 0) aa) (by decide)) ?_)
    refine ao (k:=true) (Et.tt (aj (af 0) aa) (by decide)) (λ_=> ?_) (λz=>by cases z)
    exact am (pQ Xj hr.m (ad (aU (aE aa) (aw aa (af 1) (Bd.lit (m:=4)) (i0 hM))) ae) ⟨_,_,rfl,.inr ⟨_,rfl,by omega,by omega,by omega⟩,rfl,rfl⟩ ht.on)
   ·repeat(refine ak (Et.ff' (aj (af 0) aa) (by decide)) ?_)
    refine ao (k:=true) (Et.tt (aj (af 0) aa) (by decide)) (λ_=> ?_) (λz=>by cases z)
    exact am (ag Xk hr.m (ad (aU (aE aa) (aw aa (af 1) (Bd.lit (m:=4)) (i0 hM))) (ad (uO mb) ae)) ⟨_,_,rfl,.inr ⟨_,rfl,by omega,by omega,by omega⟩,rfl,rfl⟩ ht.on)
   ·repeat(refine ak (Et.ff' (aj (af 0) aa) (by decide)) ?_)
    refine ao (k:=true) (Et.tt (aj (af 0) aa) (by decide)) (λ_=> ?_) (λz=>by cases z)
    exact am (ag Xa hr.m (ad (ap (ad aa (ad aa (ad (aI aa (af 1)) ae)))) ae) (.inr ⟨2,0,2002+m,rfl,fK hM (by omega) (by omega) (by omega) (by omega) (by omega) (by omega) (by omega),.inl ⟨by unfold gv;omega,rfl⟩⟩) ht.on)
   ·repeat(refine ak (Et.ff' (aj (af 0) aa) (by decide)) ?_)
    refine ao (k:=true) (Et.tt (aj (af 0) aa) (by decide)) (λ_=> ?_) (λz=>by cases z)
    exact am (ag Xb hr.m (ad (ap (ad aa (ad aa (ad (aI aa (af 1)) ae)))) ae) (.inr ⟨1,1,1001+m,rfl,fK hM (by omega) (by omega) (by omega) (by omega) (by omega) (by omega) (by omega),.inr ⟨by simp[la],by unfold gv;omega,rfl⟩⟩) ht.on)
   ·repeat(refine ak (Et.ff' (aj (af 0) aa) (by decide)) ?_)
    refine ao (k:=true) (Et.tt (aj (af 0) aa) (by decide)) (λ_=> ?_) (λz=>by cases z)
    exact am (ag Xc hr.m (ad (ap (ad aa (ad aa (ad (aI aa (af 1)) ae)))) ae) (.inr ⟨1,0,250001+m,rfl,fK hM (by omega) (by omega) (by omega) (by omega) (by omega) (by omega) (by omega),.inr ⟨by simp[la],by unfold gv;omega,rfl⟩⟩) ht.on)
   ·repeat(refine ak (Et.ff' (aj (af 0) aa) (by decide)) ?_)
    refine ao (k:=true) (Et.tt (aj (af 0) aa) (by decide)) (λ_=> ?_) (λz=>by cases z)
    exact am (ag Xd hr.m (ad (aU (aE aa) (aw aa (af 1) (Bd.lit (m:=4)) (i0 hM))) ae) ⟨_,rfl,.inr ⟨_,rfl,by omega,by omega,by omega⟩,rfl⟩ ht.on)
   ·repeat(refine ak (Et.ff' (aj (af 0) aa) (by decide)) ?_)
    exact am (ag Xe hr.m (ad (aU (aE aa) (aw aa (af 1) (Bd.lit (m:=4)) (i0 hM))) (ad aa ae)) (.inl ⟨_,_,rfl,.inr ⟨_,rfl,by omega,by omega,by omega⟩,rfl,rfl⟩) ht.on)
theorem kh(Xh:aG P w K mg base 8 "joined" aH (jt cl))(Xa:aG P w K mg base 7 "opposite" aH (iQ cl))(Xb:aG P w K mg base 10 "repeated" aH (fZ cl))(Xc:aG P w K mg base 10 "round_of" aH (kK cl))(Xd:aG P w K mg base 8 "genus_of" aH (cJ (-1000000) cl))(Xf:aG P w K mg base 9 "same_genus" aH (cJ (-1000000) cl))(Xg:aG P w K mg base 9 "halved" aH (cJ (-4000) cl))(F:Fun K "_law_ask_bare" "_law_ask_bare" cZ f fd)(hm:mg "_law_ask_bare"=some (.ref f))(hb:Binds K fd ["_law_way","_law_times"] []):
  aG P w K mg base 13 "_law_ask_bare" aH (v3 cl):=by
 refine ay F ku hm hb (λds C h=> ?_) (λcdv A outer s H E hr ds C h ht=> ?_)
 ·obtain⟨k,rfl,_⟩:=h
  exact⟨rfl,by simp⟩
 ·obtain⟨k,rfl,hk,rfl⟩:=h
  have hk':k=0∨k=1∨k=2∨k=3∨k=4∨k=5∨k=6∨k=7∨k=8∨k=9:=by omega
  rcases hk' with rfl|rfl|rfl|rfl|rfl|rfl|rfl|rfl|rfl|rfl
  ·repeat(refine ak (Et.ff' (aj (af 0) aa) (by decide)) ?_)
   refine ao (k:=true) (Et.tt (aj (af 0) aa) (by decide)) (λ_=> ?_) (λz=>by cases z)
   exact am (ag Xh hr.m (ad (ap (ad aa (ad aa (ad aa ae)))) (ad (ap (ad aa (ad aa (ad aa ae)))) ae)) (.inr ⟨2,0,2,1,0,4,rfl,⟨by decide,by decide,.lit,.lit,.lit⟩,⟨by decide,by decide,.lit,.lit,.lit⟩,.inr (.inl ⟨by decide,by decide,rfl⟩)⟩) ht.on)
  ·repeat(refine ak (Et.ff' (aj (af 0) aa) (by decide)) ?_)
   refine ao (k:=true) (Et.tt (aj (af 0) aa) (by decide)) (λ_=> ?_) (λz=>by cases z)
   exact am (ag Xh hr.m (ad (ap (ad aa (ad aa (ad aa ae)))) (ad (ap (ad aa (ad aa (ad aa ae)))) ae)) (.inr ⟨1,0,4,2,0,2,rfl,⟨by decide,by decide,.lit,.lit,.lit⟩,⟨by decide,by decide,.lit,.lit,.lit⟩,.inr (.inr ⟨by decide,by decide,by decide,rfl⟩)⟩) ht.on)
  ·repeat(refine ak (Et.ff' (aj (af 0) aa) (by decide)) ?_)
   refine ao (k:=true) (Et.tt (aj (af 0) aa) (by decide)) (λ_=> ?_) (λz=>by cases z)
   exact am (ag Xa hr.m (ad (ap (ad aa (ad aa (ad aa ae)))) ae) (.inr ⟨2,0,2,rfl,⟨by decide,by decide,.lit,.lit,.lit⟩,by decide,rfl⟩) ht.on)
  ·repeat(refine ak (Et.ff' (aj (af 0) aa) (by decide)) ?_)
   refine ao (k:=true) (Et.tt (aj (af 0) aa) (by decide)) (λ_=> ?_) (λz=>by cases z)
   exact am (ag Xb hr.m (ad (ap (ad aa (ad aa (ad aa ae)))) (ad (af 1) ae)) (.inr ⟨2,0,2,_,rfl,⟨by decide,by decide,.lit,.lit,.lit⟩,rfl,.inl ⟨by decide,rfl⟩⟩) ht.on)
  ·repeat(refine ak (Et.ff' (aj (af 0) aa) (by decide)) ?_)
   refine ao (k:=true) (Et.tt (aj (af 0) aa) (by decide)) (λ_=> ?_) (λz=>by cases z)
   exact am (ag Xc hr.m (ad (ap (ad aa (ad aa (ad aa ae)))) ae) (.inr ⟨3,0,3,rfl,⟨by decide,by decide,.lit,.lit,.lit⟩,.inr ⟨by decide,by decide,rfl⟩⟩) ht.on)
  ·repeat(refine ak (Et.ff' (aj (af 0) aa) (by decide)) ?_)
   refine ao (k:=true) (Et.tt (aj (af 0) aa) (by decide)) (λ_=> ?_) (λz=>by cases z)
   exact am (ag Xd hr.m (ad (ap (ad aa (ad aa (ad aa ae)))) ae) (.inr ⟨2,2,2,rfl,⟨by decide,by decide,.lit,.lit,.lit⟩,.inl ⟨by decide,rfl⟩⟩) ht.on)
  ·repeat(refine ak (Et.ff' (aj (af 0) aa) (by decide)) ?_)
   refine ao (k:=true) (Et.tt (aj (af 0) aa) (by decide)) (λ_=> ?_) (λz=>by cases z)
   exact am (ag Xd hr.m (ad (ap (ad aa (ad aa (ad (aI aa (aw aa (af 1) (Bd.lit (m:=4)) (Bd.lit (m:=20)))) ae)))) ae) (.inr ⟨2,0,510002,rfl,⟨by decide,by decide,.lit,.lit,.lit⟩,.inl ⟨by decide,rfl⟩⟩) ht.on)
  ·repeat(refine ak (Et.ff' (aj (af 0) aa) (by decide)) ?_)
   refine ao (k:=true) (Et.tt (aj (af 0) aa) (by decide)) (λ_=> ?_) (λz=>by cases z)
   exact am (ag Xf hr.m (ad (ap (ad aa (ad aa (ad aa ae)))) ae) (.inr ⟨2,0,4,rfl,⟨by decide,by decide,.lit,.lit,.lit⟩,.inl ⟨by decide,rfl⟩⟩) ht.on)
  ·repeat(refine ak (Et.ff' (aj (af 0) aa) (by decide)) ?_)
   refine ao (k:=true) (Et.tt (aj (af 0) aa) (by decide)) (λ_=> ?_) (λz=>by cases z)
   exact am (ag Xg hr.m (ad (ap (ad aa (ad aa (ad (aI aa (aw aa (af 1) (Bd.lit (m:=4)) (Bd.lit (m:=20)))) ae)))) ae) (.inr ⟨2,0,12002,rfl,⟨by decide,by decide,.lit,.lit,.lit⟩,.inl ⟨by decide,rfl⟩⟩) ht.on)
  ·repeat(refine ak (Et.ff' (aj (af 0) aa) (by decide)) ?_)
   exact am (ag Xg hr.m (ad (ap (ad aa (ad aa (ad aa ae)))) ae) (.inr ⟨6,4,6,rfl,⟨by decide,by decide,.lit,.lit,.lit⟩,.inl ⟨by decide,rfl⟩⟩) ht.on)
set_option maxHeartbeats 2000000 in
theorem i7(Xk:aG P w K mg base 7 "places" aH (lX cl))(Xb:aG P w K mg base 10 "repeated" aH (fZ cl))(Xe:aG P w K mg base 6 "prime_told" aH (ot cl))(Xw:aG P w K mg base 9 "ways" aH (rC cl))(Xs:aG P w K mg base 5 "ways_sum" aH (iR cl))(F:Fun K "_law_ask_bounds" "_law_ask_bounds" bX f fd)(hm:mg "_law_ask_bounds"=some (.ref f))(hb:Binds K fd ["_law_way","_law_more"] []):
  aG P w K mg base 13 "_law_ask_bounds" aH (vZ cl):=by
 refine ay F jo hm hb (λds C h=> ?_) (λcdv A outer s H E hr ds C h ht=> ?_)
 ·obtain⟨k,m,rfl,_⟩:=h
  exact⟨rfl,by simp⟩
 ·obtain⟨k,m,rfl,hk,hM,rfl⟩:=h
  have h0:=hM.1
  have hk':k=0∨k=1∨k=2∨k=3∨k=4∨k=5∨k=6∨k=7∨k=8∨k=9:=by omega
  rcases hk' with rfl|rfl|rfl|rfl|rfl|rfl|rfl|rfl|rfl|rfl
  ·repeat(first|refine ak (Et.ff' (aj (af 0) aa) (by decide)) ?_|refine ak (bH (bC (Et.ff' (aj (af 0) aa) (by decide)))) ?_)
   refine ao (k:=true) (Et.tt (aj (af 0) aa) (by decide)) (λ_=> ?_) (λz=>by cases z)
   refine am (ag Xk hr.m (ds:=[ar 1 0 1,.int (10001+m)]) ?ea ?px ht.on)
   case ea=>
    refine gy ?_ ?_
    ·refine ap ?_
     refine aF aa ?_
     refine aF aa ?_
     refine aF aa ?_
     exact ae
    refine mD (aI aa (af 1)) ?_
    exact ae
   case px=>exact .inr ⟨1,0,1,_,rfl,⟨by decide,by decide,.lit,.lit,.lit⟩,.inr ⟨_,rfl,.inr (by omega)⟩,rfl⟩
  ·repeat(first|refine ak (Et.ff' (aj (af 0) aa) (by decide)) ?_|refine ak (bH (bC (Et.ff' (aj (af 0) aa) (by decide)))) ?_)
   refine ao (k:=true) (Et.tt (aj (af 0) aa) (by decide)) (λ_=> ?_) (λz=>by cases z)
   refine am (ag Xk hr.m (ds:=[ar 1 0 1,.int (-1-m)]) ?ea ?px ht.on)
   case ea=>
    refine gy ?_ ?_
    ·refine ap ?_
     refine aF aa ?_
     refine aF aa ?_
     refine aF aa ?_
     exact ae
    refine mD (aU (aE aa) (af 1)) ?_
    exact ae
   case px=>exact .inr ⟨1,0,1,_,rfl,⟨by decide,by decide,.lit,.lit,.lit⟩,.inr ⟨_,rfl,.inl (by omega)⟩,rfl⟩
  ·repeat(first|refine ak (Et.ff' (aj (af 0) aa) (by decide)) ?_|refine ak (bH (bC (Et.ff' (aj (af 0) aa) (by decide)))) ?_)
   refine ao (k:=true) (Et.tt (aj (af 0) aa) (by decide)) (λ_=> ?_) (λz=>by cases z)
   refine am (ag Xb hr.m (ds:=[ar 1 0 1,.int (1001+m)]) ?ea ?px ht.on)
   case ea=>
    refine gy ?_ ?_
    ·refine ap ?_
     refine aF aa ?_
     refine aF aa ?_
     refine aF aa ?_
     exact ae
    refine mD (aI aa (af 1)) ?_
    exact ae
   case px=>exact .inr ⟨1,0,1,_,rfl,⟨by decide,by decide,.lit,.lit,.lit⟩,rfl,.inr ⟨by decide,.inr ⟨_,rfl,.inr (by omega)⟩,rfl⟩⟩
  ·repeat(first|refine ak (Et.ff' (aj (af 0) aa) (by decide)) ?_|refine ak (bH (bC (Et.ff' (aj (af 0) aa) (by decide)))) ?_)
   refine ao (k:=true) (Et.tt (aj (af 0) aa) (by decide)) (λ_=> ?_) (λz=>by cases z)
   refine am (ag Xb hr.m (ds:=[ar 1 0 1,.int (-1001-m)]) ?ea ?px ht.on)
   case ea=>
    refine gy ?_ ?_
    ·refine ap ?_
     refine aF aa ?_
     refine aF aa ?_
     refine aF aa ?_
     exact ae
    refine mD (aU (aE aa) (af 1)) ?_
    exact ae
   case px=>exact .inr ⟨1,0,1,_,rfl,⟨by decide,by decide,.lit,.lit,.lit⟩,rfl,.inr ⟨by decide,.inr ⟨_,rfl,.inl (by omega)⟩,rfl⟩⟩
  ·repeat(first|refine ak (Et.ff' (aj (af 0) aa) (by decide)) ?_|refine ak (bH (bC (Et.ff' (aj (af 0) aa) (by decide)))) ?_)
   refine ao (k:=true) (Et.tt (aj (af 0) aa) (by decide)) (λ_=> ?_) (λz=>by cases z)
   obtain⟨j0,hj0,lj0⟩:∃j:Nat,m%7=(j:Int)∧j<7:=⟨(m%7).toNat,by omega,by omega⟩
   obtain⟨d0,e0⟩:∃d,([.int 2,.int 1,.int 9,.int (0-m),.int 10007,.int 15,.bl true]:List D)[j0]?=some d:=⟨_,List.getElem?_eq_getElem lj0⟩
   refine am (ag Xe hr.m (ds:=[.int (-4),d0]) ?ea ?px ht.on)
   case ea=>
    refine uI (aE aa) ?_
    refine ug ?_ ?_
    ·refine cB (ds:=[.int 2,.int 1,.int 9,.int (0-m),.int 10007,.int 15,.bl true]) (j:=j0) ?_ (Ev.to (aA (af 1) aa (by decide)) (congrArg D.int hj0)) e0
     refine aF aa ?_
     refine aF aa ?_
     refine aF aa ?_
     refine mD (aU aa (af 1)) ?_
     refine aF aa ?_
     refine aF aa ?_
     refine aF bO ?_
     exact ae
    exact ae
   case px=>
    have zj0:j0=0∨j0=1∨j0=2∨j0=3∨j0=4∨j0=5∨j0=6:=by omega
    rcases zj0 with rfl|rfl|rfl|rfl|rfl|rfl|rfl<;>cases e0
    ·exact .inr ⟨-4,_,rfl,⟨by decide,by decide,by decide⟩,.inl (.inr ⟨_,rfl,.inl (by decide)⟩),rfl⟩
    ·exact .inr ⟨-4,_,rfl,⟨by decide,by decide,by decide⟩,.inl (.inr ⟨_,rfl,.inl (by decide)⟩),rfl⟩
    ·exact .inr ⟨-4,_,rfl,⟨by decide,by decide,by decide⟩,.inr ⟨9,rfl,by decide,by decide,.inl (vz (d:=3) (by decide) (by decide) (by decide))⟩,rfl⟩
    ·exact .inr ⟨-4,_,rfl,⟨by decide,by decide,by decide⟩,.inl (.inr ⟨_,rfl,.inl (by omega)⟩),rfl⟩
    ·exact .inr ⟨-4,_,rfl,⟨by decide,by decide,by decide⟩,.inl (.inr ⟨_,rfl,.inr (by decide)⟩),rfl⟩
    ·exact .inr ⟨-4,_,rfl,⟨by decide,by decide,by decide⟩,.inr ⟨15,rfl,by decide,by decide,.inl (vz (d:=3) (by decide) (by decide) (by decide))⟩,rfl⟩
    ·exact .inr ⟨-4,_,rfl,⟨by decide,by decide,by decide⟩,.inl (.inl (.of rfl)),rfl⟩
  ·repeat(first|refine ak (Et.ff' (aj (af 0) aa) (by decide)) ?_|refine ak (bH (bC (Et.ff' (aj (af 0) aa) (by decide)))) ?_)
   refine ao (k:=true) (Et.tt (aj (af 0) aa) (by decide)) (λ_=> ?_) (λz=>by cases z)
   refine am (ag Xe hr.m (ds:=[.int (-4*3),.int 3]) ?ea ?px ht.on)
   case ea=>
    refine mD (aw (aE aa) aa (Bd.lit (m:=4)) (Bd.lit (m:=4))) ?_
    refine aF aa ?_
    exact ae
   case px=>exact .inr ⟨-4*3,_,rfl,⟨by decide,by decide,by decide⟩,.inr ⟨3,rfl,by decide,by decide,.inr (by decide)⟩,rfl⟩
  ·repeat(first|refine ak (Et.ff' (aj (af 0) aa) (by decide)) ?_|refine ak (bH (bC (Et.ff' (aj (af 0) aa) (by decide)))) ?_)
   refine ao (k:=true) (Et.tt (aj (af 0) aa) (by decide)) (λ_=> ?_) (λz=>by cases z)
   refine am (ag Xw hr.m (ds:=[.int (-4),.int (10001+m)]) ?ea ?px ht.on)
   case ea=>
    refine uI (aE aa) ?_
    refine mD (aI aa (af 1)) ?_
    exact ae
   case px=>exact .inr ⟨-4,_,rfl,⟨by decide,by decide,by decide⟩,.inr ⟨_,rfl,.inr (by omega)⟩,rfl⟩
  ·repeat(first|refine ak (Et.ff' (aj (af 0) aa) (by decide)) ?_|refine ak (bH (bC (Et.ff' (aj (af 0) aa) (by decide)))) ?_)
   by_cases h2:m%2=0
   ·refine ao (k:=true) (bH (cD (Et.tt (aj (af 0) aa) (by decide)) (cC (Et.tt (aj (aA (af 1) aa (by decide)) aa) h2)))) (λ_=> ?_) (λz=>by cases z)
    obtain⟨j0,hj0,lj0⟩:∃j:Nat,m/2%4=(j:Int)∧j<4:=⟨(m/2%4).toNat,by omega,by omega⟩
    obtain⟨d0,e0⟩:∃d,([.bl true,.str (Str.ofString "3"),.non,.fl [.int 3]]:List D)[j0]?=some d:=⟨_,List.getElem?_eq_getElem lj0⟩
    refine am (ag Xk hr.m (ds:=[ar 1 0 1,d0]) ?ea ?px ht.on)
    case ea=>
     refine gy ?_ ?_
     ·refine ap ?_
      refine aF aa ?_
      refine aF aa ?_
      refine aF aa ?_
      exact ae
     refine ug ?_ ?_
     ·refine cB (ds:=[.bl true,.str (Str.ofString "3"),.non,.fl [.int 3]]) (j:=j0) ?_ (Ev.to (aA (aM (af 1) aa (by decide) (Bd.lit (m:=4))) aa (by decide)) (congrArg D.int hj0)) e0
      refine aF bO ?_
      refine aF cj ?_
      refine aF jC ?_
      refine yE ?_ ?_
      ·refine iI (ds:=[.int 3]) ?_ (fzs rfl)
       refine aQ ?_
       refine aF aa ?_
       exact ae
      exact ae
     exact ae
    case px=>
     have zj0:j0=0∨j0=1∨j0=2∨j0=3:=by omega
     rcases zj0 with rfl|rfl|rfl|rfl<;>cases e0<;>exact .inr ⟨1,0,1,_,rfl,⟨by decide,by decide,.lit,.lit,.lit⟩,.inl (.of rfl),rfl⟩
   ·refine ak (bH (cD (Et.tt (aj (af 0) aa) (by decide)) (cC (Et.ff' (aj (aA (af 1) aa (by decide)) aa) h2)))) ?_
    refine ao (k:=true) (Et.tt (aj (af 0) aa) (by decide)) (λ_=> ?_) (λz=>by cases z)
    obtain⟨j0,hj0,lj0⟩:∃j:Nat,m/2%4=(j:Int)∧j<4:=⟨(m/2%4).toNat,by omega,by omega⟩
    obtain⟨d0,e0⟩:∃d,([.bl true,.str (Str.ofString "3"),.non,.fl [.int 3]]:List D)[j0]?=some d:=⟨_,List.getElem?_eq_getElem lj0⟩
    refine am (ag Xb hr.m (ds:=[ar 1 0 1,d0]) ?ea ?px ht.on)
    case ea=>
     refine gy ?_ ?_
     ·refine ap ?_
      refine aF aa ?_
      refine aF aa ?_
      refine aF aa ?_
      exact ae
     refine ug ?_ ?_
     ·refine cB (ds:=[.bl true,.str (Str.ofString "3"),.non,.fl [.int 3]]) (j:=j0) ?_ (Ev.to (aA (aM (af 1) aa (by decide) (Bd.lit (m:=4))) aa (by decide)) (congrArg D.int hj0)) e0
      refine aF bO ?_
      refine aF cj ?_
      refine aF jC ?_
      refine yE ?_ ?_
      ·refine iI (ds:=[.int 3]) ?_ (fzs rfl)
       refine aQ ?_
       refine aF aa ?_
       exact ae
      exact ae
     exact ae
    case px=>
     have zj0:j0=0∨j0=1∨j0=2∨j0=3:=by omega
     rcases zj0 with rfl|rfl|rfl|rfl<;>cases e0<;>exact .inr ⟨1,0,1,_,rfl,⟨by decide,by decide,.lit,.lit,.lit⟩,rfl,.inr ⟨by decide,.inl (.of rfl),rfl⟩⟩
  ·repeat(first|refine ak (Et.ff' (aj (af 0) aa) (by decide)) ?_|refine ak (bH (bC (Et.ff' (aj (af 0) aa) (by decide)))) ?_)
   refine ao (k:=true) (Et.tt (aj (af 0) aa) (by decide)) (λ_=> ?_) (λz=>by cases z)
   obtain⟨j0,hj0,lj0⟩:∃j:Nat,m%4=(j:Int)∧j<4:=⟨(m%4).toNat,by omega,by omega⟩
   obtain⟨d0,e0⟩:∃d,([.bl true,.str (Str.ofString "3"),.non,.fl [.int 3]]:List D)[j0]?=some d:=⟨_,List.getElem?_eq_getElem lj0⟩
   refine am (ag Xw hr.m (ds:=[.int (-4),d0]) ?ea ?px ht.on)
   case ea=>
    refine uI (aE aa) ?_
    refine ug ?_ ?_
    ·refine cB (ds:=[.bl true,.str (Str.ofString "3"),.non,.fl [.int 3]]) (j:=j0) ?_ (Ev.to (aA (af 1) aa (by decide)) (congrArg D.int hj0)) e0
     refine aF bO ?_
     refine aF cj ?_
     refine aF jC ?_
     refine yE ?_ ?_
     ·refine iI (ds:=[.int 3]) ?_ (fzs rfl)
      refine aQ ?_
      refine aF aa ?_
      exact ae
     exact ae
    exact ae
   case px=>
    have zj0:j0=0∨j0=1∨j0=2∨j0=3:=by omega
    rcases zj0 with rfl|rfl|rfl|rfl<;>cases e0<;>exact .inr ⟨-4,_,rfl,⟨by decide,by decide,by decide⟩,.inl (.of rfl),rfl⟩
  ·repeat(first|refine ak (Et.ff' (aj (af 0) aa) (by decide)) ?_|refine ak (bH (bC (Et.ff' (aj (af 0) aa) (by decide)))) ?_)
   obtain⟨j0,hj0,lj0⟩:∃j:Nat,m%6=(j:Int)∧j<6:=⟨(m%6).toNat,by omega,by omega⟩
   obtain⟨d0,e0⟩:∃d,([.int 0,.int 5,.int 10,.int (10001+m),.int (-1-m),.bl true]:List D)[j0]?=some d:=⟨_,List.getElem?_eq_getElem lj0⟩
   refine am (ag Xs hr.m (ds:=[.int (-20),d0]) ?ea ?px ht.on)
   case ea=>
    refine uI (aE aa) ?_
    refine ug ?_ ?_
    ·refine cB (ds:=[.int 0,.int 5,.int 10,.int (10001+m),.int (-1-m),.bl true]) (j:=j0) ?_ (Ev.to (aA (af 1) aa (by decide)) (congrArg D.int hj0)) e0
     refine aF aa ?_
     refine aF aa ?_
     refine aF aa ?_
     refine mD (aI aa (af 1)) ?_
     refine mD (aU (aE aa) (af 1)) ?_
     refine aF bO ?_
     exact ae
    exact ae
   case px=>
    have zj0:j0=0∨j0=1∨j0=2∨j0=3∨j0=4∨j0=5:=by omega
    rcases zj0 with rfl|rfl|rfl|rfl|rfl|rfl<;>cases e0
    ·exact .inr ⟨-20,_,rfl,by decide,by decide,rfl,.inl (.inr ⟨_,rfl,.inl (by decide)⟩)⟩
    ·exact .inr ⟨-20,_,rfl,by decide,by decide,rfl,.inr ⟨5,rfl,by decide,by decide,by decide⟩⟩
    ·exact .inr ⟨-20,_,rfl,by decide,by decide,rfl,.inr ⟨10,rfl,by decide,by decide,by decide⟩⟩
    ·exact .inr ⟨-20,_,rfl,by decide,by decide,rfl,.inl (.inr ⟨_,rfl,.inr (by omega)⟩)⟩
    ·exact .inr ⟨-20,_,rfl,by decide,by decide,rfl,.inl (.inr ⟨_,rfl,.inl (by omega)⟩)⟩
    ·exact .inr ⟨-20,_,rfl,by decide,by decide,rfl,.inl (.inl (.of rfl))⟩
set_option maxHeartbeats 2000000 in
theorem ra(G0:oB P w K mg base 1 "_law_bad_form" n5 lF)(G1:aG P w K mg base 13 "_law_ask_bar" aH (rB cl))(G2:aG P w K mg base 12 "_law_ask_form" aH (vV cl))(G3:aG P w K mg base 12 "_law_ask_late" aH (vW cl))(G4:aG P w K mg base 14 "_law_ask_low" aH (v4 cl))(G5:aG P w K mg base 13 "_law_ask_bare" aH (v3 cl))(G6:aG P w K mg base 13 "_law_ask_bounds" aH (vZ cl))(Xa:aG P w K mg base 6 "turned" aH (lY cl))(Xc:aG P w K mg base 5 "way_back" aH (yI (cl 1)))(Xd:aG P w K mg base 5 "behind" aH (qf cl))(Xh:aG P w K mg base 8 "joined" aH (jt cl))(F:Fun K "_law_ask" "_law_ask" fk f fd)(hm:mg "_law_ask"=some (.ref f))(hb:Binds K fd ["_law_kind","_law_way","_law_more"] []):
  aG P w K mg base 16 "_law_ask" aH (xE cl):=by
 refine ay F lL hm hb (λds C h=> ?_) (λcdv A outer s H E hr ds C h ht=> ?_)
 ·obtain⟨k,w,m,rfl,_⟩:=h
  exact⟨rfl,by simp⟩
 ·obtain⟨k,w,m,rfl,hk,hw,hn,hM,rfl⟩:=h
  have h0:=hM.1
  have hk':k=0∨k=1∨k=2∨k=3∨k=4∨k=5:=by omega
  rcases hk' with rfl|rfl|rfl|rfl|rfl|rfl
  ·obtain⟨v,hv,hv1⟩:∃v:Nat,((w:Nat):Int)%21=(v:Int)∧v=w%21:=⟨w%21,by omega,rfl⟩
   have hv2:v≤20:=by omega
   have hv3:v≠20:=λz=>hn ⟨rfl,by omega⟩
   by_cases hl:10<v∧v<18
   ·refine ao (k:=true) (bH (cD (Et.tt (aj (af 0) aa) (by decide)) (cC (Et.to (kT op_lt op_lt aa (aA (af 1) aa (by decide)) aa) (by rw[decide_eq_true (show(10:Int)<((w:Nat):Int)%21 by omega),decide_eq_true (show((w:Nat):Int)%21<18 by omega)];rfl))))) (λ_=> ?_) (λz=>by cases z)
    exact am (pR G3 hr.m (e9 (Ev.r (Ev.to (aA (af 1) aa (by decide)) (congrArg D.int hv))) (e9 (cQ G0 hr.m (ad (af 2) (ad (aM (af 2) aa (by decide) (Bd.lit (m:=4))) ae)) ⟨_,_,rfl,⟨by omega,by have:=hM.2;omega⟩⟩) nM)) (λds hd=>by
     obtain⟨_,_,rfl,rfl,d,_,rfl,hd,rfl⟩:=hd
     exact⟨v,d,rfl,by omega,by omega,hd.1,rfl⟩) ht.on)
   ·refine ak ?_ ?_
    ·refine bH (cD (Et.tt (aj (af 0) aa) (by decide)) (cC (Et.to (kT op_lt op_lt aa (aA (af 1) aa (by decide)) aa) ?_)))
     by_cases h1:10<v
     ·rw[decide_eq_false (show ¬((w:Nat):Int)%21<18 by omega),Bool.and_false]
     ·rw[decide_eq_false (show ¬(10:Int)<((w:Nat):Int)%21 by omega),Bool.false_and]
    ·refine ao (k:=true) (Et.tt (aj (af 0) aa) (by decide)) (λ_=> ?_) (λz=>by cases z)
     exact am (pR G2 hr.m (e9 (Ev.r (Ev.to (aA (af 1) aa (by decide)) (congrArg D.int hv))) (e9 (cQ G0 hr.m (ad (af 2) (ad (aM (af 2) aa (by decide) (Bd.lit (m:=4))) ae)) ⟨_,_,rfl,⟨by omega,by have:=hM.2;omega⟩⟩) nM)) (λds hd=>by
      obtain⟨_,_,rfl,rfl,d,_,rfl,hd,rfl⟩:=hd
      exact⟨v,d,rfl,by omega,hd.1,rfl⟩) ht.on)
  ·repeat(first|refine ak (Et.ff' (aj (af 0) aa) (by decide)) ?_|refine ak (bH (bC (Et.ff' (aj (af 0) aa) (by decide)))) ?_)
   by_cases h3:((w:Nat):Int)%3=0
   ·refine ao (k:=true) (bH (cD (Et.tt (aj (af 0) aa) (by decide)) (cC (Et.tt (aj (aA (af 1) aa (by decide)) aa) (h3))))) (λ_=> ?_) (λz=>by cases z)
    obtain⟨j0,hj0,lj0⟩:∃j:Nat,m%5=(j:Int)∧j<5:=⟨(m%5).toNat,by omega,by omega⟩
    obtain⟨d0,e0⟩:∃d,([dj 1 0 0 (2+m),.fl [.int 1,.int 0,.int 0,.int 1],.tup [.int 1,.int 0,.int 0],.tup [.bl true,.int 0,.int 0,.int 1],.non]:List D)[j0]?=some d:=⟨_,List.getElem?_eq_getElem lj0⟩
    refine am (ag Xa hr.m (ds:=[ar 1 0 1,d0]) ?ea ?px ht.on)
    case ea=>
     refine gy ?_ ?_
     ·refine ap ?_
      refine aF aa ?_
      refine aF aa ?_
      refine aF aa ?_
      exact ae
     refine ug ?_ ?_
     ·refine cB (ds:=[dj 1 0 0 (2+m),.fl [.int 1,.int 0,.int 0,.int 1],.tup [.int 1,.int 0,.int 0],.tup [.bl true,.int 0,.int 0,.int 1],.non]) (j:=j0) ?_ (Ev.to (aA (af 2) aa (by decide)) (congrArg D.int hj0)) e0
      refine gy ?_ ?_
      ·refine ap ?_
       refine aF aa ?_
       refine aF aa ?_
       refine aF aa ?_
       refine mD (aI aa (af 2)) ?_
       exact ae
      refine yE ?_ ?_
      ·refine iI (ds:=[.int 1,.int 0,.int 0,.int 1]) ?_ (fzs rfl)
       refine aQ ?_
       refine aF aa ?_
       refine aF aa ?_
       refine aF aa ?_
       refine aF aa ?_
       exact ae
      refine gy ?_ ?_
      ·refine ap ?_
       refine aF aa ?_
       refine aF aa ?_
       refine aF aa ?_
       exact ae
      refine gy ?_ ?_
      ·refine ap ?_
       refine aF bO ?_
       refine aF aa ?_
       refine aF aa ?_
       refine aF aa ?_
       exact ae
      refine aF jC ?_
      exact ae
     exact ae
    case px=>
     have zj0:j0=0∨j0=1∨j0=2∨j0=3∨j0=4:=by omega
     rcases zj0 with rfl|rfl|rfl|rfl|rfl<;>cases e0
     ·exact .inr ⟨1,0,1,_,rfl,⟨by decide,by decide,.lit,.lit,.lit⟩,.num (Bd.lit) (Bd.lit) (Bd.lit) (pv hM (by omega) (by omega)) (by omega),rfl⟩
     ·exact .inr ⟨1,0,1,_,rfl,⟨by decide,by decide,.lit,.lit,.lit⟩,.lst _,rfl⟩
     ·exact .inr ⟨1,0,1,_,rfl,⟨by decide,by decide,.lit,.lit,.lit⟩,.tup (bs:=[true,true,true]) (by simp) rfl rfl,rfl⟩
     ·exact .inr ⟨1,0,1,_,rfl,⟨by decide,by decide,.lit,.lit,.lit⟩,.tup (bs:=[false,true,true,true]) (by simp) rfl rfl,rfl⟩
     ·exact .inr ⟨1,0,1,_,rfl,⟨by decide,by decide,.lit,.lit,.lit⟩,.non,rfl⟩
   ·refine ak (bH (cD (Et.tt (aj (af 0) aa) (by decide)) (cC (Et.ff' (aj (aA (af 1) aa (by decide)) aa) (h3))))) ?_
    by_cases h31:((w:Nat):Int)%3=1
    ·refine ao (k:=true) (bH (cD (Et.tt (aj (af 0) aa) (by decide)) (cC (Et.tt (aj (aA (af 1) aa (by decide)) aa) (h31))))) (λ_=> ?_) (λz=>by cases z)
     obtain⟨j0,hj0,lj0⟩:∃j:Nat,((w:Nat):Int)/3%2=(j:Int)∧j<2:=⟨(((w:Nat):Int)/3%2).toNat,by omega,by omega⟩
     obtain⟨d0,e0⟩:∃d,([dj 1 0 0 (-1),dj 1 m 0 1]:List D)[j0]?=some d:=⟨_,List.getElem?_eq_getElem lj0⟩
     obtain⟨d1,e1⟩:∃d,([dj 1 0 0 1,dj 1 m 0 (-1)]:List D)[j0]?=some d:=⟨_,List.getElem?_eq_getElem lj0⟩
     refine am (ag Xd hr.m (ds:=[d0,d1]) ?ea ?px ht.on)
     case ea=>
      refine ug ?_ ?_
      ·refine cB (ds:=[dj 1 0 0 (-1),dj 1 m 0 1]) (j:=j0) ?_ (Ev.to (aA (aM (af 1) aa (by decide) (Bd.lit (m:=4))) aa (by decide)) (congrArg D.int hj0)) e0
       refine gy ?_ ?_
       ·refine ap ?_
        refine aF aa ?_
        refine aF aa ?_
        refine aF aa ?_
        refine uI (aE aa) ?_
        exact ae
       refine gy ?_ ?_
       ·refine ap ?_
        refine aF aa ?_
        refine ii (af 2) ?_
        refine aF aa ?_
        refine aF aa ?_
        exact ae
       exact ae
      refine ug ?_ ?_
      ·refine cB (ds:=[dj 1 0 0 1,dj 1 m 0 (-1)]) (j:=j0) ?_ (Ev.to (aA (aM (af 1) aa (by decide) (Bd.lit (m:=4))) aa (by decide)) (congrArg D.int hj0)) e1
       refine gy ?_ ?_
       ·refine ap ?_
        refine aF aa ?_
        refine aF aa ?_
        refine aF aa ?_
        refine aF aa ?_
        exact ae
       refine gy ?_ ?_
       ·refine ap ?_
        refine aF aa ?_
        refine ii (af 2) ?_
        refine aF aa ?_
        refine uI (aE aa) ?_
        exact ae
       exact ae
      exact ae
     case px=>
      have zj0:j0=0∨j0=1:=by omega
      rcases zj0 with rfl|rfl<;>cases e0<;>cases e1
      ·exact⟨_,_,rfl,rfl,.inl ⟨.num Bd.lit Bd.lit Bd.lit Bd.lit (by decide),rfl⟩⟩
      ·exact⟨_,_,rfl,rfl,.inr ⟨1,m,0,1,rfl,⟨by omega,Bd.lit,(i0 hM).up _ (by decide),Bd.lit,Bd.lit⟩,.num Bd.lit ((i0 hM).up _ (by decide)) Bd.lit Bd.lit (by omega)⟩⟩
    ·refine ak (bH (cD (Et.tt (aj (af 0) aa) (by decide)) (cC (Et.ff' (aj (aA (af 1) aa (by decide)) aa) (h31))))) ?_
     refine ao (k:=true) (Et.tt (aj (af 0) aa) (by decide)) (λ_=> ?_) (λz=>by cases z)
     obtain⟨j0,hj0,lj0⟩:∃j:Nat,m%5=(j:Int)∧j<5:=⟨(m%5).toNat,by omega,by omega⟩
     obtain⟨d0,e0⟩:∃d,([dj (2+m) 0 0 1,.fl [.int 1,.int 0,.int 0,.int 1],.tup [.int 1,.int 0,.int 0],.tup [.int 1,.int 0,.bl false,.int 1],.non]:List D)[j0]?=some d:=⟨_,List.getElem?_eq_getElem lj0⟩
     refine am (ag Xc hr.m (ds:=[d0]) ?ea ?px ht.on)
     case ea=>
      refine ug ?_ ?_
      ·refine cB (ds:=[dj (2+m) 0 0 1,.fl [.int 1,.int 0,.int 0,.int 1],.tup [.int 1,.int 0,.int 0],.tup [.int 1,.int 0,.bl false,.int 1],.non]) (j:=j0) ?_ (Ev.to (aA (af 2) aa (by decide)) (congrArg D.int hj0)) e0
       refine gy ?_ ?_
       ·refine ap ?_
        refine mD (aI aa (af 2)) ?_
        refine aF aa ?_
        refine aF aa ?_
        refine aF aa ?_
        exact ae
       refine yE ?_ ?_
       ·refine iI (ds:=[.int 1,.int 0,.int 0,.int 1]) ?_ (fzs rfl)
        refine aQ ?_
        refine aF aa ?_
        refine aF aa ?_
        refine aF aa ?_
        refine aF aa ?_
        exact ae
       refine gy ?_ ?_
       ·refine ap ?_
        refine aF aa ?_
        refine aF aa ?_
        refine aF aa ?_
        exact ae
       refine gy ?_ ?_
       ·refine ap ?_
        refine aF aa ?_
        refine aF aa ?_
        refine aF bO ?_
        refine aF aa ?_
        exact ae
       refine aF jC ?_
       exact ae
      exact ae
     case px=>
      have zj0:j0=0∨j0=1∨j0=2∨j0=3∨j0=4:=by omega
      rcases zj0 with rfl|rfl|rfl|rfl|rfl<;>cases e0
      ·exact⟨_,rfl,.num (pv hM (by omega) (by omega)) (Bd.lit) (Bd.lit) (Bd.lit) (by omega),rfl⟩
      ·exact⟨_,rfl,.lst _,rfl⟩
      ·exact⟨_,rfl,.tup (bs:=[true,true,true]) (by simp) rfl rfl,rfl⟩
      ·exact⟨_,rfl,.tup (bs:=[true,true,false,true]) (by simp) rfl rfl,rfl⟩
      ·exact⟨_,rfl,.non,rfl⟩
  ·repeat(first|refine ak (Et.ff' (aj (af 0) aa) (by decide)) ?_|refine ak (bH (bC (Et.ff' (aj (af 0) aa) (by decide)))) ?_)
   by_cases h2:((w:Nat):Int)%2=0
   ·refine ao (k:=true) (bH (cD (Et.tt (aj (af 0) aa) (by decide)) (cC (Et.tt (aj (aA (af 1) aa (by decide)) aa) (h2))))) (λ_=> ?_) (λz=>by cases z)
    obtain⟨v,hv,hv1⟩:∃v:Nat,((w:Nat):Int)/2%11=(v:Int)∧v≤10:=⟨w/2%11,by omega,by omega⟩
    obtain⟨j0,hj0,lj0⟩:∃j:Nat,m%6=(j:Int)∧j<6:=⟨(m%6).toNat,by omega,by omega⟩
    obtain⟨d0,e0⟩:∃d,([.int 0,.int (3+m),.int (-1-4*m),.int (-2-4*m),.bl true,.str (Str.ofString "bar")]:List D)[j0]?=some d:=⟨_,List.getElem?_eq_getElem lj0⟩
    refine am (ag G1 hr.m (ds:=[.int (v:Int),d0]) ?ea ?px ht.on)
    case ea=>
     refine mD (Ev.to (aA (aM (af 1) aa (by decide) (Bd.lit (m:=4))) aa (by decide)) (congrArg D.int hv)) ?_
     refine ug ?_ ?_
     ·refine cB (ds:=[.int 0,.int (3+m),.int (-1-4*m),.int (-2-4*m),.bl true,.str (Str.ofString "bar")]) (j:=j0) ?_ (Ev.to (aA (af 2) aa (by decide)) (congrArg D.int hj0)) e0
      refine aF aa ?_
      refine mD (aI aa (af 2)) ?_
      refine mD (aU (aE aa) (aw aa (af 2) (Bd.lit (m:=4)) (i0 hM))) ?_
      refine mD (aU (aE aa) (aw aa (af 2) (Bd.lit (m:=4)) (i0 hM))) ?_
      refine aF bO ?_
      refine aF cj ?_
      exact ae
     exact ae
    case px=>
     have zj0:j0=0∨j0=1∨j0=2∨j0=3∨j0=4∨j0=5:=by omega
     rcases zj0 with rfl|rfl|rfl|rfl|rfl|rfl<;>cases e0
     ·exact⟨v,_,rfl,hv1,.inl (.num (by omega)),rfl⟩
     ·exact⟨v,_,rfl,hv1,.inl (.num (by omega)),rfl⟩
     ·exact⟨v,_,rfl,hv1,.inl (.num (by omega)),rfl⟩
     ·exact⟨v,_,rfl,hv1,.inl (.num (by omega)),rfl⟩
     ·exact⟨v,_,rfl,hv1,.inl (.of rfl),rfl⟩
     ·exact⟨v,_,rfl,hv1,.inl (.of rfl),rfl⟩
   ·refine ak (bH (cD (Et.tt (aj (af 0) aa) (by decide)) (cC (Et.ff' (aj (aA (af 1) aa (by decide)) aa) (h2))))) ?_
    refine ao (k:=true) (Et.tt (aj (af 0) aa) (by decide)) (λ_=> ?_) (λz=>by cases z)
    obtain⟨v,hv,hv1⟩:∃v:Nat,((w:Nat):Int)/2%12=(v:Int)∧v≤11:=⟨w/2%12,by omega,by omega⟩
    exact am (ag G4 hr.m (ad (Ev.to (aA (aM (af 1) aa (by decide) (Bd.lit (m:=4))) aa (by decide)) (congrArg D.int hv)) (ad (af 2) ae)) ⟨v,m,rfl,hv1,hM,rfl⟩ ht.on)
  ·repeat(first|refine ak (Et.ff' (aj (af 0) aa) (by decide)) ?_|refine ak (bH (bC (Et.ff' (aj (af 0) aa) (by decide)))) ?_)
   refine ao (k:=true) (Et.tt (aj (af 0) aa) (by decide)) (λ_=> ?_) (λz=>by cases z)
   obtain⟨j0,hj0,lj0⟩:∃j:Nat,((w:Nat):Int)%2=(j:Int)∧j<2:=⟨(((w:Nat):Int)%2).toNat,by omega,by omega⟩
   obtain⟨d0,e0⟩:∃d,([ar 1 0 1,ar 2 0 2]:List D)[j0]?=some d:=⟨_,List.getElem?_eq_getElem lj0⟩
   obtain⟨j1,hj1,lj1⟩:∃j:Nat,((w:Nat):Int)/2%2=(j:Int)∧j<2:=⟨(((w:Nat):Int)/2%2).toNat,by omega,by omega⟩
   obtain⟨d1,e1⟩:∃d,([ar 1 0 (5+m),ar 3 0 (3+m)]:List D)[j1]?=some d:=⟨_,List.getElem?_eq_getElem lj1⟩
   refine am (ag Xh hr.m (ds:=[d0,d1]) ?ea ?px ht.on)
   case ea=>
    refine ug ?_ ?_
    ·refine cB (ds:=[ar 1 0 1,ar 2 0 2]) (j:=j0) ?_ (Ev.to (aA (af 1) aa (by decide)) (congrArg D.int hj0)) e0
     refine gy ?_ ?_
     ·refine ap ?_
      refine aF aa ?_
      refine aF aa ?_
      refine aF aa ?_
      exact ae
     refine gy ?_ ?_
     ·refine ap ?_
      refine aF aa ?_
      refine aF aa ?_
      refine aF aa ?_
      exact ae
     exact ae
    refine ug ?_ ?_
    ·refine cB (ds:=[ar 1 0 (5+m),ar 3 0 (3+m)]) (j:=j1) ?_ (Ev.to (aA (aM (af 1) aa (by decide) (Bd.lit (m:=4))) aa (by decide)) (congrArg D.int hj1)) e1
     refine gy ?_ ?_
     ·refine ap ?_
      refine aF aa ?_
      refine aF aa ?_
      refine mD (aI aa (af 2)) ?_
      exact ae
     refine gy ?_ ?_
     ·refine ap ?_
      refine aF aa ?_
      refine aF aa ?_
      refine mD (aI aa (af 2)) ?_
      exact ae
     exact ae
    exact ae
   case px=>
    have zj0:j0=0∨j0=1:=by omega
    have zj1:j1=0∨j1=1:=by omega
    rcases zj0 with rfl|rfl<;>cases e0<;>rcases zj1 with rfl|rfl<;>cases e1
    ·exact .inr ⟨1,0,1,1,0,5+m,rfl,⟨by decide,by decide,.lit,.lit,.lit⟩,fK hM (by omega) (by omega) (by omega) (by omega) (by omega) (by omega) (by omega),.inl ⟨by unfold gv;omega,rfl⟩⟩
    ·exact .inr ⟨1,0,1,3,0,3+m,rfl,⟨by decide,by decide,.lit,.lit,.lit⟩,fK hM (by omega) (by omega) (by omega) (by omega) (by omega) (by omega) (by omega),.inl ⟨by unfold gv;omega,rfl⟩⟩
    ·exact .inr ⟨2,0,2,1,0,5+m,rfl,⟨by decide,by decide,.lit,.lit,.lit⟩,fK hM (by omega) (by omega) (by omega) (by omega) (by omega) (by omega) (by omega),.inl ⟨by unfold gv;omega,rfl⟩⟩
    ·exact .inr ⟨2,0,2,3,0,3+m,rfl,⟨by decide,by decide,.lit,.lit,.lit⟩,fK hM (by omega) (by omega) (by omega) (by omega) (by omega) (by omega) (by omega),.inl ⟨by unfold gv;omega,rfl⟩⟩
  ·repeat(first|refine ak (Et.ff' (aj (af 0) aa) (by decide)) ?_|refine ak (bH (bC (Et.ff' (aj (af 0) aa) (by decide)))) ?_)
   refine ao (k:=true) (Et.tt (aj (af 0) aa) (by decide)) (λ_=> ?_) (λz=>by cases z)
   obtain⟨v,hv,hv1⟩:∃v:Nat,((w:Nat):Int)%10=(v:Int)∧v≤9:=⟨w%10,by omega,by omega⟩
   exact am (ag G5 hr.m (ad (Ev.to (aA (af 1) aa (by decide)) (congrArg D.int hv)) (ad aa ae)) ⟨v,rfl,hv1,rfl⟩ ht.on)
  ·repeat(first|refine ak (Et.ff' (aj (af 0) aa) (by decide)) ?_|refine ak (bH (bC (Et.ff' (aj (af 0) aa) (by decide)))) ?_)
   obtain⟨v,hv,hv1⟩:∃v:Nat,((w:Nat):Int)%10=(v:Int)∧v≤9:=⟨w%10,by omega,by omega⟩
   exact am (ag G6 hr.m (ad (Ev.to (aA (af 1) aa (by decide)) (congrArg D.int hv)) (ad (af 2) ae)) ⟨v,m,rfl,hv1,hM,rfl⟩ ht.on)
set_option maxHeartbeats 2000000 in
theorem oH{Pl:Addr}{dp:Pos}(G0:oB P w K mg base 1 "_law_bad_form" n5 lF)(X2:sR P w K mg base 12 "_law_ask_form" Pl dp jW (qe cl))(F:Fun K "_law_ask" "_law_ask" fk f fd)(hm:mg "_law_ask"=some (.ref f))(hb:Binds K fd ["_law_kind","_law_way","_law_more"] []):
  sR P w K mg base 16 "_law_ask" Pl dp jW (sP cl):=by
 refine oV F lL hm hb (λds C h=> ?_) (λcdv A outer s H E hr ds C h tb ht=> ?_)
 ·obtain⟨w,m,rfl,_⟩:=h
  exact⟨rfl,by simp⟩
 ·obtain⟨w,m,rfl,hw,h20,hM,rfl⟩:=h
  have hv:((w:Nat):Int)%21=20:=by omega
  refine ak ?_ ?_
  ·refine bH (cD (Et.tt (aj (af 0) aa) (by decide)) (cC (Et.to (kT op_lt op_lt aa (aA (af 1) aa (by decide)) aa) ?_)))
   rw[decide_eq_false (show ¬((w:Nat):Int)%21<18 by omega),Bool.and_false]
  ·refine ao (k:=true) (Et.tt (aj (af 0) aa) (by decide)) (λ_=> ?_) (λz=>by cases z)
   exact am (pS X2 hr.m (e9 (Ev.r (Ev.to (aA (af 1) aa (by decide)) (congrArg D.int hv))) (e9 (cQ G0 hr.m (ad (af 2) (ad (aM (af 2) aa (by decide) (Bd.lit (m:=4))) ae)) ⟨_,_,rfl,⟨by have:=hM.1;omega,by have:=hM.1;have:=hM.2;omega⟩⟩) nM)) (λds hd=>by
    obtain⟨_,_,rfl,rfl,d,_,rfl,hd,rfl⟩:=hd
    exact⟨d,rfl,hd.1,rfl⟩) tb (ht _))
theorem nZ(T:Tx mg)(Q:Ex23 K mg cl)(F:Fun K "_law_sorts" "_law_sorts" eR f fd)(hm:mg "_law_sorts"=some (.ref f))(hb:Binds K fd ["_law_e"] []):
  zD P w K mg base 1 "_law_sorts" (sy cl):=by
 refine xV F jp hm hb (λds es h=> ?_) (λcdv A outer s H ds es h=> ?_)
 ·obtain⟨k,rfl,_⟩:=h
  exact⟨rfl,by simp⟩
 ·obtain⟨k,rfl,hk,rfl⟩:=h
  have nd:=jp.nd
  obtain⟨CE,mE,eE⟩:=Q.e
  obtain⟨Cw,mw,ew⟩:=Q.w
  refine iX 1 (ds:=[.bl true,.bl (decide (k=0)),.bl (decide (k=1)),.bl (decide (k=2))]) ?h1 (λd hd=>by simp only[List.mem_cons,List.not_mem_nil,or_false]at hd;rcases hd with rfl|rfl|rfl|rfl<;>exact .bl _) (λl _=> ?_) nd
  case h1=>
   refine aQ ?_
   refine wv ?_ ?_
   ·exact eN T.isi (af 0) mE (Q.x k hk) ((eE k hk).2)
   refine wv ?_ ?_
   ·exact eN T.isi (af 0) Q.m0 (Q.x k hk) (Q.k k 0 hk (by decide))
   refine wv ?_ ?_
   ·exact eN T.isi (af 0) Q.m1 (Q.x k hk) (Q.k k 1 hk (by decide))
   refine wv ?_ ?_
   ·exact eN T.isi (af 0) Q.m2 (Q.x k hk) (Q.k k 2 hk (by decide))
   exact ae
  refine iX 1 (ds:=[.bl true,.bl (decide (k=0)),.bl (decide (k=1)),.bl (decide (k=2))]++[.bl (decide (k=3)),.bl (decide (k=4)),.bl (decide (k=5))]) ?h2 (λd hd=>by simp only[List.cons_append,List.nil_append,List.mem_cons,List.not_mem_nil,or_false]at hd;rcases hd with rfl|rfl|rfl|rfl|rfl|rfl|rfl<;>exact .bl _) (λl2 _=> ?_) nd
  case h2=>
   refine nQ (af 1) ?_ (by simp)
   refine aQ ?_
   refine wv ?_ ?_
   ·exact eN T.isi (af 0) Q.m3 (Q.x k hk) (Q.k k 3 hk (by decide))
   refine wv ?_ ?_
   ·exact eN T.isi (af 0) Q.m4 (Q.x k hk) (Q.k k 4 hk (by decide))
   refine wv ?_ ?_
   ·exact eN T.isi (af 0) Q.m5 (Q.x k hk) (Q.k k 5 hk (by decide))
   exact ae
  refine iW (ds:=iA k) ?h3 (λl=>⟨l,rfl⟩)
  refine nQ (ds:=[.bl true,.bl (decide (k=0)),.bl (decide (k=1)),.bl (decide (k=2)),.bl (decide (k=3)),.bl (decide (k=4)),.bl (decide (k=5))]) (gs:=[.bl false,.bl true]) (af 1) ?_ (by simp)
  refine aQ ?_
  refine wv ?_ ?_
  ·exact eN T.isi (af 0) mw (Q.x k hk) (ew k hk)
  refine wv ?_ ?_
  ·exact uQ T.isi (af 0) Q.mv yU (Q.x k hk) (Q.v k hk)
  exact ae
theorem pC{Pl:Addr}{dp:Pos}(Q:Ex23 K mg cl)(G1:aG P w K mg base 16 "_law_ask" aH (xE cl))(X1:sR P w K mg base 16 "_law_ask" Pl dp jW (sP cl))(G2:zD P w K mg base 1 "_law_sorts" (sy cl))(F:Fun K "_law_told" "_law_told" fO f fd)(hm:mg "_law_told"=some (.ref f))(hb:Binds K fd ["_law_kind","_law_way","_law_more"] []):
  wc P w K mg base 17 "_law_told" Pl dp jW sA:=by
 refine uU F jY hm hb rfl (λds es h=> ?_) (λcdv A outer s H E hr ds es h=> ?_)
 ·obtain⟨k,w,m,rfl,_⟩:=h
  refine⟨rfl,by simp,λi d hi=> ?_⟩
  match i,hi with
  | 0,hi=>cases hi;rfl
  | 1,hi=>cases hi;rfl
  | 2,hi=>cases hi;rfl
  | 3,hi=>cases hi
 ·obtain⟨k,w,m,rfl,hk,hw,hM,rfl⟩:=h
  have nd:=jY.nd
  obtain⟨CE,mE,eE⟩:=Q.e
  refine⟨cl k,λH1 pins E1 tb ht=> ?_,λH1 pins=>xY 3 mE (eE k hk).1 (λe=> ?_) nd⟩
  ·by_cases h20:k=0∧w%21=20
   ·obtain⟨rfl,h20⟩:=h20
    exact aq (pS X1 hr (gx.r (ad (af 0) (ad (af 1) (ad (af 2) ae)))) (λds hd=>by subst hd;exact⟨w,m,rfl,hw,h20,hM,rfl⟩) tb (ht _ rfl))
   ·exact aq (ag G1 hr (ad (af 0) (ad (af 1) (ad (af 2) ae))) ⟨k,w,m,rfl,hk,hw,h20,hM,rfl⟩ ((ht _ rfl).on tb))
  ·exact iW (tq G2 (RoomS.of hr.m _) (ad (af 3) ae) ⟨k,rfl,hk,rfl⟩) (λl=>⟨l,rfl⟩)
set_option maxHeartbeats 4000000 in
theorem yd{Pl:Addr}{dp:Pos}(T:Tx mg)(Gc:Fn P w K mg base 1 "_law_cell_at" iu)(Gt:wc P w K mg base 17 "_law_told" Pl dp jW sA)(Gj:oB P w K mg base 8 "joined" cM cN)(Gn:Fn P w K mg base 4 "neutral" mP)(Gb:Fn P w K mg base 5 "bar_of" bE)
  (F:Fun K "law" "law" eQ f fd):FnOk P w K mg base CX0 18 f fd ["_law_script"] (FM.SpT K Pl PfT):=by
 have nd:=vG.nd
 refine wM (dp:=dp) (qn:=jW) (pre:=(defBody eQ).take 4) (mid:=((defBody eQ).drop 5).take 2) (c:=ifC (jR eQ 4)) (A':=ifA (jR eQ 4)) (p1:=ifP (jR eQ 4)) (e:=Aa (jR eQ 7)) (rp:=Ab (jR eQ 7)) zg ya F vG rfl (λns ρ h i d hi=> ?_) (λcdv A outer s H E hr ns hp=> ?_) (λcdv A outer s H E hr ns ρ hp mid=> ?_) (λcdv A outer s H E hr H1 pins ns ρ hp mid=> ?_) (λcdv A outer s H E hr H1 pins ns ρ hp mid=> ?_)
 ·obtain⟨k,w,m,rfl,_⟩:=h
  match i,hi with
  | 0,hi=>cases hi;rfl
  | 1,hi=>cases hi;rfl
  | 2,hi=>cases hi;rfl
  | 3,hi=>cases hi;rfl
  | 4,hi=>cases hi;rfl
  | 5,hi=>cases hi
 ·obtain⟨hlen,hs⟩:=hp
  have hr1:=hr.mono (show 1≤17 by decide)
  obtain⟨k,ek,hk⟩:∃k:Nat,cell ns 0%6=(k:Int)∧k<6:=⟨(cell ns 0%6).toNat,by omega,by omega⟩
  obtain⟨w,ew,hw⟩:∃w:Nat,cell ns 1%1000=(w:Int)∧w<1000:=⟨(cell ns 1%1000).toNat,by omega,by omega⟩
  have hM:Mo (cell ns 2%10^12):=⟨Int.emod_nonneg _ (by decide),Int.emod_lt_of_pos _ (by decide)⟩
  refine au 1 (Ev.to (aA (ah Gc hr1 (ad (af 0) (ad aa ae)) ⟨ns,0,rfl,rfl⟩) aa (by decide)) (congrArg D.int ek)) (.int _) ?_ nd
  refine au 2 (Ev.to (aA (ah Gc hr1 (ad (af 0) (ad aa ae)) ⟨ns,1,rfl,rfl⟩) aa (by decide)) (congrArg D.int ew)) (.int _) ?_ nd
  refine au 3 (aA (ah Gc hr1 (ad (af 0) (ad aa ae)) ⟨ns,2,rfl,rfl⟩) (xR (n:=12) (m:=4) aa aa .lit) (by decide)) (.int _) ?_ nd
  have ej:∀ {X:Cx} {e:Expr} {ρ:Ro} (j:Nat),Ev X e ρ (.bl (decide ((k:Int)=(j:Int))))→Ev X e ρ (.bl (decide (k=j))):=λj h=>Ev.to h (congrArg D.bl (decide_eq_decide.mpr (by omega)))
  refine au 4 (d:=.fl (iA k)) (iI (aQ ?due) (p7 k)) (.fl (p7 k)) ?_ nd
  case due=>
   show gx _ _ _ [.bl true,.bl (decide (k=0)),.bl (decide (k=1)),.bl (decide (k=2)),.bl (decide (k=3)),.bl (decide (k=4)),.bl (decide (k=5)),.bl false,.bl true]
   refine aF ?_ ?_
   ·exact bO
   refine ad ?_ ?_
   ·exact ej 0 (gH (af 1) aa)
   refine ad ?_ ?_
   ·exact ej 1 (gH (af 1) aa)
   refine ad ?_ ?_
   ·exact ej 2 (gH (af 1) aa)
   refine ad ?_ ?_
   ·exact ej 3 (gH (af 1) aa)
   refine ad ?_ ?_
   ·exact ej 4 (gH (af 1) aa)
   refine ad ?_ ?_
   ·exact ej 5 (gH (af 1) aa)
   refine aF ?_ ?_
   ·exact bO
   refine aF ?_ ?_
   ·exact bO
   exact ae
  exact aD ⟨k,w,_,rfl,hk,hw,hM⟩
 ·obtain⟨k,w,m,rfl,hk,hw,hM⟩:=mid
  exact ww vp (oT Gt hr (ad (af 1) (ad (af 2) (ad (af 3) ae))) ⟨k,w,m,rfl,hk,hw,hM,rfl⟩) (evg (af 4)) (nomark _) (n6 hr rfl rfl (ng k) (by decide) (by rw[bN.mpr rfl];rfl))
 ·obtain⟨k,w,m,rfl,hk,hw,hM⟩:=mid
  refine au 5 (d:=ar 1 1 6) (Ev.to (qK (f:=⟨2,1,3⟩) (g:=⟨2,-1,3⟩) (x:=⟨_,jP 1 (.inl rfl)⟩) (y:=⟨_,jP (-1) (.inr rfl)⟩) gE Gj hr.m (ap (aF aa (aF aa (aF aa ae)))) (ap (aF aa (uI (aE aa) (aF aa ae)))) (j23 1 (.inl rfl)) (j23 (-1) (.inr rfl)) (.refl _) (.refl _)) (congrArg qD x5)) (xX _ _ _) ?_ nd
  refine ak (bH (fG ?a (fG ?b (gI ?c)))) (aD ⟨k,w,m,rfl,hk,hw,hM⟩)
  case a=>exact Et.to (uK (n:=0) hr (af 5) (ap (aF aa (aF aa (aF aa ae)))) (Cm.ints [_,_,_] [_,_,_])) (congrArg not (bN.mpr rfl))
  case b=>exact Et.to (uK (n:=0) hr (ah Gn hr.m (uI (aE aa) ae) ⟨-23,rfl,by decide,by decide,rfl⟩) (af 5) (Cm.ints [_,_,_] [_,_,_])) (congrArg not (bN.mpr rfl))
  case c=>exact Et.to (eM (ah Gb hr.m (ad (af 5) ae) ⟨1,1,6,rfl,⟨by decide,by decide,.lit,.lit,.lit⟩,rfl⟩) (aE aa)) (by decide)
 ·obtain⟨k,w,m,rfl,hk,hw,hM⟩:=mid
  exact ue.to (wA ye (oT Gt hr (ad (af 1) (ad (af 2) (ad (af 3) ae))) ⟨k,w,m,rfl,hk,hw,hM,rfl⟩) (evg (af 4)) (nomark _) (n6 hr rfl rfl (ng k) (by decide) rfl)) (by rw[bN.mpr rfl];rfl)
end
abbrev bB(K:PySem.W.Frag)(n:Str)(f:Addr): Prop:=PySem.W.nsIn K mainGlobals n=some (some (.ref f))
abbrev bI(K:PySem.W.Frag)(f:Addr)(n q:Str)(st:Stmt)(oc:Value)(od:Option Addr)(dV kV dc pm:Value)(an:Option Addr)(cd ct:Value)(sl:Array (Option Value)): Prop:=K.lookup f=some ⟨oc,od,.func (PySem.W.fnOf n q (defArgs st) (defBody st) (defScope st) dV kV dc pm an cd ct),sl⟩
abbrev dJ(K:PySem.W.Frag)(a b:Addr)(t:Bool): Prop:=PySem.W.mroIn K a (.ref b)=some t
abbrev qg(K:PySem.W.Frag)(E:Addr)(n:Str)(v:String): Prop:=PySem.W.findIn K (.ref E) n=some (some (.builtin v))
open PySem.W (nsIn codeIn keepIn fnOf mroIn findIn mg_of mg_none_of specialIn takesIn excIn) in
set_option maxHeartbeats 8000000 in
theorem all_mk{l:PySem.W.OpenLaw}{w:World}{K:PySem.W.Frag}{h:Heap}{mg:Str→Option Value}{fa f0 f1 f2 f3 f4 f5 f6 f7 f8 f9 f10 f11 f12 f13 f14 f15 f16 f17 f18 f19 f20 f21 f22 f23 f24 f25 f26 f27 f28 f29 f30 f31 f32 f33 f34 f35 f36 f37 f38 f39 f40 f41 f42 f43 f44 f45 f46 f47 f48 f49 f50 f51 f52 f53 f54 f55 f56 f57 f58 f59 f60 f61 f62 f63 f64 f65 f66 f67 f68 f69 f70 f71 f72 f73 f74 f75 f76 f77 f78:Addr}(X:K.In h)(G:h.Ns mainGlobals mg)(hfa:mg "law"=some (.ref fa))
  {od0 an0 od1 an1 od2 an2 od3 an3 od4 an4 od5 an5 od6 an6 od7 an7 od8 an8 od9 an9 od10 an10 od11 an11 od12 an12 od13 an13 od14 an14 od15 an15 od16 an16 od17 an17 od18 an18 od19 an19 od20 an20 od21 an21 od22 an22 od23 an23 od24 an24 od25 an25 od26 an26 od27 an27 od28 an28 od29 an29 od30 an30 od31 an31 od32 an32 od33 an33 od34 an34 od35 an35 od36 an36 od37 an37 od38 an38 od39 an39 od40 an40 od41 an41 od42 an42 od43 an43 od44 an44 od45 an45 od46 an46 od47 an47 od48 an48 od49 an49 od50 an50 od51 an51 od52 an52 od53 an53 od54 an54 od55 an55 od56 an56 od57 an57 od58 an58 od59 an59 od60 an60 od61 an61 od62 an62 od63 an63 od64 an64 od65 an65 od66 an66 od67 an67 od68 an68 od69 an69 od70 an70 od71 an71 od72 an72 od73 an73 od74 an74 od75 an75 od76 an76 od77 an77 od78 an78:Option Addr} {sl0 sl1 sl2 sl3 sl4 sl5 sl6 sl7 sl8 sl9 sl10 sl11 sl12 sl13 sl14 sl15 sl16 sl17 sl18 sl19 sl20 sl21 sl22 sl23 sl24 sl25 sl26 sl27 sl28 sl29 sl30 sl31 sl32 sl33 sl34 sl35 sl36 sl37 sl38 sl39 sl40 sl41 sl42 sl43 sl44 sl45 sl46 sl47 sl48 sl49 sl50 sl51 sl52 sl53 sl54 sl55 sl56 sl57 sl58 sl59 sl60 sl61 sl62 sl63 sl64 sl65 sl66 sl67 sl68 sl69 sl70 sl71 sl72 sl73 sl74 sl75 sl76 sl77 sl78:Array (Option Value)} {oc0 kV0 dc0 pm0 cd0 ct0 oc1 kV1 dc1 pm1 cd1 ct1 oc2 kV2 dc2 pm2 cd2 ct2 oc3 kV3 dc3 pm3 cd3 ct3 oc4 kV4 dc4 pm4 cd4 ct4 oc5 kV5 dc5 pm5 cd5 ct5 oc6 kV6 dc6 pm6 cd6 ct6 oc7 kV7 dc7 pm7 cd7 ct7 oc8 kV8 dc8 pm8 cd8 ct8 oc9 kV9 dc9 pm9 cd9 ct9 oc10 kV10 dc10 pm10 cd10 ct10 oc11 kV11 dc11 pm11 cd11 ct11 oc12 kV12 dc12 pm12 cd12 ct12 oc13 kV13 dc13 pm13 cd13 ct13 oc14 kV14 dc14 pm14 cd14 ct14 oc15 kV15 dc15 pm15 cd15 ct15 oc16 kV16 dc16 pm16 cd16 ct16 oc17 kV17 dc17 pm17 cd17 ct17 oc18 kV18 dc18 pm18 cd18 ct18 oc19 kV19 dc19 pm19 cd19 ct19 oc20 kV20 dc20 pm20 cd20 ct20 oc21 kV21 dc21 pm21 cd21 ct21 oc22 kV22 dc22 pm22 cd22 ct22 oc23 kV23 dc23 pm23 cd23 ct23 oc24 kV24 dc24 pm24 cd24 ct24 oc25 kV25 dc25 pm25 cd25 ct25 oc26 kV26 dc26 pm26 cd26 ct26 oc27 kV27 dc27 pm27 cd27 ct27 oc28 kV28 dc28 pm28 cd28 ct28 oc29 kV29 dc29 pm29 cd29 ct29 oc30 kV30 dc30 pm30 cd30 ct30 oc31 kV31 dc31 pm31 cd31 ct31 oc32 kV32 dc32 pm32 cd32 ct32 oc33 kV33 dc33 pm33 cd33 ct33 oc34 kV34 dc34 pm34 cd34 ct34 oc35 kV35 dc35 pm35 cd35 ct35 oc36 kV36 dc36 pm36 cd36 ct36 oc37 kV37 dc37 pm37 cd37 ct37 oc38 kV38 dc38 pm38 cd38 ct38 oc39 kV39 dc39 pm39 cd39 ct39 oc40 kV40 dc40 pm40 cd40 ct40 oc41 kV41 dc41 pm41 cd41 ct41 oc42 kV42 dc42 pm42 cd42 ct42 oc43 kV43 dc43 pm43 cd43 ct43 oc44 kV44 dc44 pm44 cd44 ct44 oc45 kV45 dc45 pm45 cd45 ct45 oc46 kV46 dc46 pm46 cd46 ct46 oc47 kV47 dc47 pm47 cd47 ct47 oc48 kV48 dc48 pm48 cd48 ct48 oc49 kV49 dc49 pm49 cd49 ct49 oc50 kV50 dc50 pm50 cd50 ct50 oc51 kV51 dc51 pm51 cd51 ct51 oc52 kV52 dc52 pm52 cd52 ct52 oc53 kV53 dc53 pm53 cd53 ct53 oc54 kV54 dc54 pm54 cd54 ct54 oc55 kV55 dc55 pm55 cd55 ct55 oc56 kV56 dc56 pm56 cd56 ct56 oc57 kV57 dc57 pm57 cd57 ct57 oc58 kV58 dc58 pm58 cd58 ct58 oc59 kV59 dc59 pm59 cd59 ct59 oc60 kV60 dc60 pm60 cd60 ct60 oc61 kV61 dc61 pm61 cd61 ct61 oc62 kV62 dc62 pm62 cd62 ct62 oc63 kV63 dc63 pm63 cd63 ct63 oc64 kV64 dc64 pm64 cd64 ct64 oc65 kV65 dc65 pm65 cd65 ct65 oc66 kV66 dc66 pm66 cd66 ct66 oc67 kV67 dc67 pm67 cd67 ct67 oc68 kV68 dc68 pm68 cd68 ct68 oc69 kV69 dc69 pm69 cd69 ct69 oc70 kV70 dc70 pm70 cd70 ct70 oc71 kV71 dc71 pm71 cd71 ct71 oc72 kV72 dc72 pm72 cd72 ct72 oc73 kV73 dc73 pm73 cd73 ct73 oc74 kV74 dc74 pm74 cd74 ct74 oc75 kV75 dc75 pm75 cd75 ct75 oc76 kV76 dc76 pm76 cd76 ct76 oc77 kV77 dc77 pm77 cd77 ct77 oc78 kV78 dc78 pm78 cd78 ct78:Value}
  (a0:bB K "is_whole" f0) (l0:bI K f0 "is_whole" "is_whole" d9 oc0 od0 .none kV0 dc0 pm0 an0 cd0 ct0 sl0) (c0:codeIn K cd0 "is_whole"=true) (k0:keepIn K (.ref f0)=true)
  (a1:bB K "is_whole_tuple" f1) (l1:bI K f1 "is_whole_tuple" "is_whole_tuple" bF oc1 od1 .none kV1 dc1 pm1 an1 cd1 ct1 sl1) (c1:codeIn K cd1 "is_whole_tuple"=true) (k1:keepIn K (.ref f1)=true)
  (a2:bB K "is_bar" f2) (l2:bI K f2 "is_bar" "is_bar" gQ oc2 od2 .none kV2 dc2 pm2 an2 cd2 ct2 sl2) (c2:codeIn K cd2 "is_bar"=true) (k2:keepIn K (.ref f2)=true)
  (a3:bB K "require_bar" f3) (l3:bI K f3 "require_bar" "require_bar" cs oc3 od3 .none kV3 dc3 pm3 an3 cd3 ct3 sl3) (c3:codeIn K cd3 "require_bar"=true) (k3:keepIn K (.ref f3)=true)
  (a4:bB K "require_bar_from" f4) (l4:bI K f4 "require_bar_from" "require_bar_from" bc oc4 od4 .none kV4 dc4 pm4 an4 cd4 ct4 sl4) (c4:codeIn K cd4 "require_bar_from"=true) (k4:keepIn K (.ref f4)=true)
  (a5:bB K "require_whole" f5) (l5:bI K f5 "require_whole" "require_whole" bM oc5 od5 .none kV5 dc5 pm5 an5 cd5 ct5 sl5) (c5:codeIn K cd5 "require_whole"=true) (k5:keepIn K (.ref f5)=true)
  (a6:bB K "require_number" f6) (l6:bI K f6 "require_number" "require_number" bG oc6 od6 .none kV6 dc6 pm6 an6 cd6 ct6 sl6) (c6:codeIn K cd6 "require_number"=true) (k6:keepIn K (.ref f6)=true)
  (a7:bB K "common_divisor" f7) (l7:bI K f7 "common_divisor" "common_divisor" bW oc7 od7 .none kV7 dc7 pm7 an7 cd7 ct7 sl7) (c7:codeIn K cd7 "common_divisor"=true) (k7:keepIn K (.ref f7)=true)
  (a8:bB K "divisor_with_shares" f8) (l8:bI K f8 "divisor_with_shares" "divisor_with_shares" bj oc8 od8 .none kV8 dc8 pm8 an8 cd8 ct8 sl8) (c8:codeIn K cd8 "divisor_with_shares"=true) (k8:keepIn K (.ref f8)=true)
  (a9:bB K "prime_factors" f9) (l9:bI K f9 "prime_factors" "prime_factors" cG oc9 od9 .none kV9 dc9 pm9 an9 cd9 ct9 sl9) (c9:codeIn K cd9 "prime_factors"=true) (k9:keepIn K (.ref f9)=true)
  (a10:bB K "prime_divisors" f10) (l10:bI K f10 "prime_divisors" "prime_divisors" bZ oc10 od10 .none kV10 dc10 pm10 an10 cd10 ct10 sl10) (c10:codeIn K cd10 "prime_divisors"=true) (k10:keepIn K (.ref f10)=true)
  (a11:bB K "power_by" f11) (l11:bI K f11 "power_by" "power_by" fQ oc11 od11 .none kV11 dc11 pm11 an11 cd11 ct11 sl11) (c11:codeIn K cd11 "power_by"=true) (k11:keepIn K (.ref f11)=true)
  (a12:bB K "leaves_square" f12) (l12:bI K f12 "leaves_square" "leaves_square" cF oc12 od12 .none kV12 dc12 pm12 an12 cd12 ct12 sl12) (c12:codeIn K cd12 "leaves_square"=true) (k12:keepIn K (.ref f12)=true)
  (a13:bB K "bar_of_numbers" f13) (l13:bI K f13 "bar_of_numbers" "bar_of_numbers" bV oc13 od13 .none kV13 dc13 pm13 an13 cd13 ct13 sl13) (c13:codeIn K cd13 "bar_of_numbers"=true) (k13:keepIn K (.ref f13)=true)
  (a14:bB K "is_form" f14) (l14:bI K f14 "is_form" "is_form" fj oc14 od14 .none kV14 dc14 pm14 an14 cd14 ct14 sl14) (c14:codeIn K cd14 "is_form"=true) (k14:keepIn K (.ref f14)=true)
  (a15:bB K "require_form" f15) (l15:bI K f15 "require_form" "require_form" bS oc15 od15 .none kV15 dc15 pm15 an15 cd15 ct15 sl15) (c15:codeIn K cd15 "require_form"=true) (k15:keepIn K (.ref f15)=true)
  (a16:bB K "bar_of" f16) (l16:bI K f16 "bar_of" "bar_of" gO oc16 od16 .none kV16 dc16 pm16 an16 cd16 ct16 sl16) (c16:codeIn K cd16 "bar_of"=true) (k16:keepIn K (.ref f16)=true)
  (a17:bB K "worth" f17) (l17:bI K f17 "worth" "worth" jm oc17 od17 .none kV17 dc17 pm17 an17 cd17 ct17 sl17) (c17:codeIn K cd17 "worth"=true) (k17:keepIn K (.ref f17)=true)
  (a18:bB K "is_bare" f18) (l18:bI K f18 "is_bare" "is_bare" fh oc18 od18 .none kV18 dc18 pm18 an18 cd18 ct18 sl18) (c18:codeIn K cd18 "is_bare"=true) (k18:keepIn K (.ref f18)=true)
  (a19:bB K "is_turning" f19) (l19:bI K f19 "is_turning" "is_turning" cU oc19 od19 .none kV19 dc19 pm19 an19 cd19 ct19 sl19) (c19:codeIn K cd19 "is_turning"=true) (k19:keepIn K (.ref f19)=true)
  (a20:bB K "require_turning" f20) (l20:bI K f20 "require_turning" "require_turning" bo oc20 od20 .none kV20 dc20 pm20 an20 cd20 ct20 sl20) (c20:codeIn K cd20 "require_turning"=true) (k20:keepIn K (.ref f20)=true)
  (a21:bB K "sent" f21) (l21:bI K f21 "sent" "sent" n9 oc21 od21 .none kV21 dc21 pm21 an21 cd21 ct21 sl21) (c21:codeIn K cd21 "sent"=true) (k21:keepIn K (.ref f21)=true)
  (a22:bB K "turned" f22) (l22:bI K f22 "turned" "turned" jl oc22 od22 .none kV22 dc22 pm22 an22 cd22 ct22 sl22) (c22:codeIn K cd22 "turned"=true) (k22:keepIn K (.ref f22)=true)
  (a23:bB K "behind" f23) (l23:bI K f23 "behind" "behind" jg oc23 od23 .none kV23 dc23 pm23 an23 cd23 ct23 sl23) (c23:codeIn K cd23 "behind"=true) (k23:keepIn K (.ref f23)=true)
  (a24:bB K "way_back" f24) (l24:bI K f24 "way_back" "way_back" eu oc24 od24 .none kV24 dc24 pm24 an24 cd24 ct24 sl24) (c24:codeIn K cd24 "way_back"=true) (k24:keepIn K (.ref f24)=true)
  (a25:bB K "is_least" f25) (l25:bI K f25 "is_least" "is_least" fN oc25 od25 .none kV25 dc25 pm25 an25 cd25 ct25 sl25) (c25:codeIn K cd25 "is_least"=true) (k25:keepIn K (.ref f25)=true)
  (a26:bB K "stepped" f26) (l26:bI K f26 "stepped" "stepped" ia oc26 od26 .none kV26 dc26 pm26 an26 cd26 ct26 sl26) (c26:codeIn K cd26 "stepped"=true) (k26:keepIn K (.ref f26)=true)
  (a27:bB K "behind_step" f27) (l27:bI K f27 "behind_step" "behind_step" dz oc27 od27 .none kV27 dc27 pm27 an27 cd27 ct27 sl27) (c27:codeIn K cd27 "behind_step"=true) (k27:keepIn K (.ref f27)=true)
  (a28:bB K "swapped" f28) (l28:bI K f28 "swapped" "swapped" ib oc28 od28 .none kV28 dc28 pm28 an28 cd28 ct28 sl28) (c28:codeIn K cd28 "swapped"=true) (k28:keepIn K (.ref f28)=true)
  (a29:bB K "behind_swap" f29) (l29:bI K f29 "behind_swap" "behind_swap" dB oc29 od29 .none kV29 dc29 pm29 an29 cd29 ct29 sl29) (c29:codeIn K cd29 "behind_swap"=true) (k29:keepIn K (.ref f29)=true)
  (a30:bB K "step_to_middle" f30) (l30:bI K f30 "step_to_middle" "step_to_middle" cb oc30 od30 .none kV30 dc30 pm30 an30 cd30 ct30 sl30) (c30:codeIn K cd30 "step_to_middle"=true) (k30:keepIn K (.ref f30)=true)
  (a31:bB K "least_of" f31) (l31:bI K f31 "least_of" "least_of" eo oc31 od31 .none kV31 dc31 pm31 an31 cd31 ct31 sl31) (c31:codeIn K cd31 "least_of"=true) (k31:keepIn K (.ref f31)=true)
  (a32:bB K "alike" f32) (l32:bI K f32 "alike" "alike" kH oc32 od32 .none kV32 dc32 pm32 an32 cd32 ct32 sl32) (c32:codeIn K cd32 "alike"=true) (k32:keepIn K (.ref f32)=true)
  (a33:bB K "own_turnings" f33) (l33:bI K f33 "own_turnings" "own_turnings" dh oc33 od33 .none kV33 dc33 pm33 an33 cd33 ct33 sl33) (c33:codeIn K cd33 "own_turnings"=true) (k33:keepIn K (.ref f33)=true)
  (a34:bB K "smallest" f34) (l34:bI K f34 "smallest" "smallest" fV oc34 od34 .none kV34 dc34 pm34 an34 cd34 ct34 sl34) (c34:codeIn K cd34 "smallest"=true) (k34:keepIn K (.ref f34)=true)
  (a35:bB K "require_bare" f35) (l35:bI K f35 "require_bare" "require_bare" bR oc35 od35 .none kV35 dc35 pm35 an35 cd35 ct35 sl35) (c35:codeIn K cd35 "require_bare"=true) (k35:keepIn K (.ref f35)=true)
  (a36:bB K "require_same_bar" f36) (l36:bI K f36 "require_same_bar" "require_same_bar" bi oc36 od36 .none kV36 dc36 pm36 an36 cd36 ct36 sl36) (c36:codeIn K cd36 "require_same_bar"=true) (k36:keepIn K (.ref f36)=true)
  (a37:bB K "joint_divisor" f37) (l37:bI K f37 "joint_divisor" "joint_divisor" cE oc37 od37 .none kV37 dc37 pm37 an37 cd37 ct37 sl37) (c37:codeIn K cd37 "joint_divisor"=true) (k37:keepIn K (.ref f37)=true)
  (a38:bB K "joint_middle" f38) (l38:bI K f38 "joint_middle" "joint_middle" cW oc38 od38 .none kV38 dc38 pm38 an38 cd38 ct38 sl38) (c38:codeIn K cd38 "joint_middle"=true) (k38:keepIn K (.ref f38)=true)
  (a39:bB K "joint_rows" f39) (l39:bI K f39 "joint_rows" "joint_rows" dO oc39 od39 .none kV39 dc39 pm39 an39 cd39 ct39 sl39) (c39:codeIn K cd39 "joint_rows"=true) (k39:keepIn K (.ref f39)=true)
  (a40:bB K "joined_whole" f40) (l40:bI K f40 "joined_whole" "joined_whole" cV oc40 od40 .none kV40 dc40 pm40 an40 cd40 ct40 sl40) (c40:codeIn K cd40 "joined_whole"=true) (k40:keepIn K (.ref f40)=true)
  (a41:bB K "joined" f41) (l41:bI K f41 "joined" "joined" gR oc41 od41 .none kV41 dc41 pm41 an41 cd41 ct41 sl41) (c41:codeIn K cd41 "joined"=true) (k41:keepIn K (.ref f41)=true)
  (a42:bB K "neutral" f42) (l42:bI K f42 "neutral" "neutral" fq oc42 od42 .none kV42 dc42 pm42 an42 cd42 ct42 sl42) (c42:codeIn K cd42 "neutral"=true) (k42:keepIn K (.ref f42)=true)
  (a43:bB K "opposite" f43) (l43:bI K f43 "opposite" "opposite" fP oc43 od43 .none kV43 dc43 pm43 an43 cd43 ct43 sl43) (c43:codeIn K cd43 "opposite"=true) (k43:keepIn K (.ref f43)=true)
  (a44:bB K "repeated" f44) (l44:bI K f44 "repeated" "repeated" fR oc44 od44 .none kV44 dc44 pm44 an44 cd44 ct44 sl44) (c44:codeIn K cd44 "repeated"=true) (k44:keepIn K (.ref f44)=true)
  (a45:bB K "least_forms" f45) (l45:bI K f45 "least_forms" "least_forms" dF oc45 od45 .none kV45 dc45 pm45 an45 cd45 ct45 sl45) (c45:codeIn K cd45 "least_forms"=true) (k45:keepIn K (.ref f45)=true)
  (a46:bB K "classes" f46) (l46:bI K f46 "classes" "classes" hV oc46 od46 .none kV46 dc46 pm46 an46 cd46 ct46 sl46) (c46:codeIn K cd46 "classes"=true) (k46:keepIn K (.ref f46)=true)
  (a47:bB K "kept" f47) (l47:bI K f47 "kept" "kept" n8 oc47 od47 .none kV47 dc47 pm47 an47 cd47 ct47 sl47) (c47:codeIn K cd47 "kept"=true) (k47:keepIn K (.ref f47)=true)
  (a48:bB K "marks_beside_odd_primes" f48) (l48:bI K f48 "marks_beside_odd_primes" "marks_beside_odd_primes" aN oc48 od48 .none kV48 dc48 pm48 an48 cd48 ct48 sl48) (c48:codeIn K cd48 "marks_beside_odd_primes"=true) (k48:keepIn K (.ref f48)=true)
  (a49:bB K "marks_of" f49) (l49:bI K f49 "marks_of" "marks_of" er oc49 od49 .none kV49 dc49 pm49 an49 cd49 ct49 sl49) (c49:codeIn K cd49 "marks_of"=true) (k49:keepIn K (.ref f49)=true)
  (a50:bB K "is_plus_at" f50) (l50:bI K f50 "is_plus_at" "is_plus_at" dN oc50 od50 .none kV50 dc50 pm50 an50 cd50 ct50 sl50) (c50:codeIn K cd50 "is_plus_at"=true) (k50:keepIn K (.ref f50)=true)
  (a51:bB K "telling_place" f51) (l51:bI K f51 "telling_place" "telling_place" cH oc51 od51 .none kV51 dc51 pm51 an51 cd51 ct51 sl51) (c51:codeIn K cd51 "telling_place"=true) (k51:keepIn K (.ref f51)=true)
  (a52:bB K "signs_of" f52) (l52:bI K f52 "signs_of" "signs_of" fU oc52 od52 .none kV52 dc52 pm52 an52 cd52 ct52 sl52) (c52:codeIn K cd52 "signs_of"=true) (k52:keepIn K (.ref f52)=true)
  (a53:bB K "genus_of" f53) (l53:bI K f53 "genus_of" "genus_of" d8 oc53 od53 .none kV53 dc53 pm53 an53 cd53 ct53 sl53) (c53:codeIn K cd53 "genus_of"=true) (k53:keepIn K (.ref f53)=true)
  (a54:bB K "same_genus" f54) (l54:bI K f54 "same_genus" "same_genus" aK oc54 od54 .none kV54 dc54 pm54 an54 cd54 ct54 sl54) (c54:codeIn K cd54 "same_genus"=true) (k54:keepIn K (.ref f54)=true)
  (a55:bB K "halved" f55) (l55:bI K f55 "halved" "halved" jh oc55 od55 .none kV55 dc55 pm55 an55 cd55 ct55 sl55) (c55:codeIn K cd55 "halved"=true) (k55:keepIn K (.ref f55)=true)
  (a56:bB K "round_of" f56) (l56:bI K f56 "round_of" "round_of" fT oc56 od56 .none kV56 dc56 pm56 an56 cd56 ct56 sl56) (c56:codeIn K cd56 "round_of"=true) (k56:keepIn K (.ref f56)=true)
  (a57:bB K "rounds" f57) (l57:bI K f57 "rounds" "rounds" jk oc57 od57 .none kV57 dc57 pm57 an57 cd57 ct57 sl57) (c57:codeIn K cd57 "rounds"=true) (k57:keepIn K (.ref f57)=true)
  (a58:bB K "lengths" f58) (l58:bI K f58 "lengths" "lengths" hW oc58 od58 .none kV58 dc58 pm58 an58 cd58 ct58 sl58) (c58:codeIn K cd58 "lengths"=true) (k58:keepIn K (.ref f58)=true)
  (a59:bB K "parted" f59) (l59:bI K f59 "parted" "parted" ji oc59 od59 .none kV59 dc59 pm59 an59 cd59 ct59 sl59) (c59:codeIn K cd59 "parted"=true) (k59:keepIn K (.ref f59)=true)
  (a60:bB K "written" f60) (l60:bI K f60 "written" "written" ic oc60 od60 .none kV60 dc60 pm60 an60 cd60 ct60 sl60) (c60:codeIn K cd60 "written"=true) (k60:keepIn K (.ref f60)=true)
  {dA61:Addr} {dod61:Option Addr} {dcl61:Value} {dn61:Nat} {dsl61:Array (Option Value)} {dt61:Tok}
  (a61:bB K "table" f61) (l61:bI K f61 "table" "table" cg oc61 od61 (.ref dA61) kV61 dc61 pm61 an61 cd61 ct61 sl61) (c61:codeIn K cd61 "table"=true) (k61:keepIn K (.ref f61)=true)
  (dl61:K.lookup dA61=some ⟨dcl61,dod61,.seq #[.int (6:Int) dt61] dn61,dsl61⟩)
  (a62:bB K "places" f62) (l62:bI K f62 "places" "places" jj oc62 od62 .none kV62 dc62 pm62 an62 cd62 ct62 sl62) (c62:codeIn K cd62 "places"=true) (k62:keepIn K (.ref f62)=true)
  (a63:bB K "require_telling_prime" f63) (l63:bI K f63 "require_telling_prime" "require_telling_prime" aV oc63 od63 .none kV63 dc63 pm63 an63 cd63 ct63 sl63) (c63:codeIn K cd63 "require_telling_prime"=true) (k63:keepIn K (.ref f63)=true)
  (a64:bB K "prime_told" f64) (l64:bI K f64 "prime_told" "prime_told" dP oc64 od64 .none kV64 dc64 pm64 an64 cd64 ct64 sl64) (c64:codeIn K cd64 "prime_told"=true) (k64:keepIn K (.ref f64)=true)
  (a65:bB K "ways" f65) (l65:bI K f65 "ways" "ways" oi oc65 od65 .none kV65 dc65 pm65 an65 cd65 ct65 sl65) (c65:codeIn K cd65 "ways"=true) (k65:keepIn K (.ref f65)=true)
  (a66:bB K "ways_sum" f66) (l66:bI K f66 "ways_sum" "ways_sum" fW oc66 od66 .none kV66 dc66 pm66 an66 cd66 ct66 sl66) (c66:codeIn K cd66 "ways_sum"=true) (k66:keepIn K (.ref f66)=true)
  (a67:bB K "_law_cell_at" f67) (l67:bI K f67 "_law_cell_at" "_law_cell_at" dE oc67 od67 .none kV67 dc67 pm67 an67 cd67 ct67 sl67) (c67:codeIn K cd67 "_law_cell_at"=true) (k67:keepIn K (.ref f67)=true)
  (a68:bB K "_law_bad_form" f68) (l68:bI K f68 "_law_bad_form" "_law_bad_form" df oc68 od68 .none kV68 dc68 pm68 an68 cd68 ct68 sl68) (c68:codeIn K cd68 "_law_bad_form"=true) (k68:keepIn K (.ref f68)=true)
  (a69:bB K "_law_ask_form" f69) (l69:bI K f69 "_law_ask_form" "_law_ask_form" bQ oc69 od69 .none kV69 dc69 pm69 an69 cd69 ct69 sl69) (c69:codeIn K cd69 "_law_ask_form"=true) (k69:keepIn K (.ref f69)=true)
  (a70:bB K "_law_ask_late" f70) (l70:bI K f70 "_law_ask_late" "_law_ask_late" de oc70 od70 .none kV70 dc70 pm70 an70 cd70 ct70 sl70) (c70:codeIn K cd70 "_law_ask_late"=true) (k70:keepIn K (.ref f70)=true)
  (a71:bB K "_law_ask_bar" f71) (l71:bI K f71 "_law_ask_bar" "_law_ask_bar" dC oc71 od71 .none kV71 dc71 pm71 an71 cd71 ct71 sl71) (c71:codeIn K cd71 "_law_ask_bar"=true) (k71:keepIn K (.ref f71)=true)
  (a72:bB K "_law_ask_low" f72) (l72:bI K f72 "_law_ask_low" "_law_ask_low" dD oc72 od72 .none kV72 dc72 pm72 an72 cd72 ct72 sl72) (c72:codeIn K cd72 "_law_ask_low"=true) (k72:keepIn K (.ref f72)=true)
  (a73:bB K "_law_ask_bare" f73) (l73:bI K f73 "_law_ask_bare" "_law_ask_bare" cZ oc73 od73 .none kV73 dc73 pm73 an73 cd73 ct73 sl73) (c73:codeIn K cd73 "_law_ask_bare"=true) (k73:keepIn K (.ref f73)=true)
  (a74:bB K "_law_ask_bounds" f74) (l74:bI K f74 "_law_ask_bounds" "_law_ask_bounds" bX oc74 od74 .none kV74 dc74 pm74 an74 cd74 ct74 sl74) (c74:codeIn K cd74 "_law_ask_bounds"=true) (k74:keepIn K (.ref f74)=true)
  (a75:bB K "_law_ask" f75) (l75:bI K f75 "_law_ask" "_law_ask" fk oc75 od75 .none kV75 dc75 pm75 an75 cd75 ct75 sl75) (c75:codeIn K cd75 "_law_ask"=true) (k75:keepIn K (.ref f75)=true)
  (a76:bB K "_law_sorts" f76) (l76:bI K f76 "_law_sorts" "_law_sorts" eR oc76 od76 .none kV76 dc76 pm76 an76 cd76 ct76 sl76) (c76:codeIn K cd76 "_law_sorts"=true) (k76:keepIn K (.ref f76)=true)
  (a77:bB K "_law_told" f77) (l77:bI K f77 "_law_told" "_law_told" fO oc77 od77 .none kV77 dc77 pm77 an77 cd77 ct77 sl77) (c77:codeIn K cd77 "_law_told"=true) (k77:keepIn K (.ref f77)=true)
  (a78:bB K "law" f78) (l78:bI K f78 "law" "law" eQ oc78 od78 .none kV78 dc78 pm78 an78 cd78 ct78 sl78) (c78:codeIn K cd78 "law"=true) (k78:keepIn K (.ref f78)=true)
  {E0 E1 E2 E3 E4 E5 E6 E7:Addr}
  (xg0:bB K "FormError" E0) (xa0:qg K E0 "__getattribute__" "BaseException.__getattribute__") (xb0:findIn K (.ref E0) "__getattr__"=some none) (xc0:qg K E0 "__class__" "object.__class__") (xo0:mroIn K E0 (.type "object")=some true) (xe0:mroIn K E0 (.type "BaseException")=some true) (xt0:PySem.W.typeIn K (.ref E0)=some (.type "type")) (xs0:dJ K E0 E0 true) (xv0:mroIn K E0 (.type "ValueError")=some true)
  (xg1:bB K "NotAForm" E1) (xa1:qg K E1 "__getattribute__" "BaseException.__getattribute__") (xb1:findIn K (.ref E1) "__getattr__"=some none) (xc1:qg K E1 "__class__" "object.__class__") (xo1:mroIn K E1 (.type "object")=some true) (xe1:mroIn K E1 (.type "BaseException")=some true) (xt1:PySem.W.typeIn K (.ref E1)=some (.type "type")) (xs1:dJ K E1 E1 true) (xv1:mroIn K E1 (.type "ValueError")=some true)
  (xg2:bB K "NotATurning" E2) (xa2:qg K E2 "__getattribute__" "BaseException.__getattribute__") (xb2:findIn K (.ref E2) "__getattr__"=some none) (xc2:qg K E2 "__class__" "object.__class__") (xo2:mroIn K E2 (.type "object")=some true) (xe2:mroIn K E2 (.type "BaseException")=some true) (xt2:PySem.W.typeIn K (.ref E2)=some (.type "type")) (xs2:dJ K E2 E2 true) (xv2:mroIn K E2 (.type "ValueError")=some true)
  (xg3:bB K "NoBar" E3) (xa3:qg K E3 "__getattribute__" "BaseException.__getattribute__") (xb3:findIn K (.ref E3) "__getattr__"=some none) (xc3:qg K E3 "__class__" "object.__class__") (xo3:mroIn K E3 (.type "object")=some true) (xe3:mroIn K E3 (.type "BaseException")=some true) (xt3:PySem.W.typeIn K (.ref E3)=some (.type "type")) (xs3:dJ K E3 E3 true) (xv3:mroIn K E3 (.type "ValueError")=some true)
  (xg4:bB K "OtherBar" E4) (xa4:qg K E4 "__getattribute__" "BaseException.__getattribute__") (xb4:findIn K (.ref E4) "__getattr__"=some none) (xc4:qg K E4 "__class__" "object.__class__") (xo4:mroIn K E4 (.type "object")=some true) (xe4:mroIn K E4 (.type "BaseException")=some true) (xt4:PySem.W.typeIn K (.ref E4)=some (.type "type")) (xs4:dJ K E4 E4 true) (xv4:mroIn K E4 (.type "ValueError")=some true)
  (xg5:bB K "NotBare" E5) (xa5:qg K E5 "__getattribute__" "BaseException.__getattribute__") (xb5:findIn K (.ref E5) "__getattr__"=some none) (xc5:qg K E5 "__class__" "object.__class__") (xo5:mroIn K E5 (.type "object")=some true) (xe5:mroIn K E5 (.type "BaseException")=some true) (xt5:PySem.W.typeIn K (.ref E5)=some (.type "type")) (xs5:dJ K E5 E5 true) (xv5:mroIn K E5 (.type "ValueError")=some true)
  (xg6:bB K "OutOfBounds" E6) (xa6:qg K E6 "__getattribute__" "BaseException.__getattribute__") (xb6:findIn K (.ref E6) "__getattr__"=some none) (xc6:qg K E6 "__class__" "object.__class__") (xo6:mroIn K E6 (.type "object")=some true) (xe6:mroIn K E6 (.type "BaseException")=some true) (xt6:PySem.W.typeIn K (.ref E6)=some (.type "type")) (xs6:dJ K E6 E6 true) (xv6:mroIn K E6 (.type "ValueError")=some true)
  (xg7:bB K "NotWritten" E7) (xa7:qg K E7 "__getattribute__" "BaseException.__getattribute__") (xb7:findIn K (.ref E7) "__getattr__"=some none) (xc7:qg K E7 "__class__" "object.__class__") (xo7:mroIn K E7 (.type "object")=some true) (xe7:mroIn K E7 (.type "BaseException")=some true) (xt7:PySem.W.typeIn K (.ref E7)=some (.type "type")) (xs7:dJ K E7 E7 true) (xv7:mroIn K E7 (.type "ValueError")=some true)
  (xd:specialIn K (.builtin "object.__class__") "__get__"=some (some (.builtin "getset_descriptor.__get__"))) (xf:takesIn K (.builtin "object.__class__")=some true) (xn:nsIn K cStatics sharingNotToldKey=some none) (xm:nsIn K mainGlobals "ValueError"=some none)
  (xq1:excIn K E1 [Value.type "ValueError",Value.type "Exception",Value.type "BaseException",Value.type "object"] "ValueError.__new__"=true)
  (xr10:dJ K E1 E0 true)
  (xr12:dJ K E1 E2 false)
  (xr13:dJ K E1 E3 false)
  (xr14:dJ K E1 E4 false)
  (xr15:dJ K E1 E5 false)
  (xr16:dJ K E1 E6 false)
  (xr17:dJ K E1 E7 false)
  (xq2:excIn K E2 [Value.type "ValueError",Value.type "Exception",Value.type "BaseException",Value.type "object"] "ValueError.__new__"=true)
  (xr20:dJ K E2 E0 true)
  (xr21:dJ K E2 E1 false)
  (xr23:dJ K E2 E3 false)
  (xr24:dJ K E2 E4 false)
  (xr25:dJ K E2 E5 false)
  (xr26:dJ K E2 E6 false)
  (xr27:dJ K E2 E7 false)
  (xq3:excIn K E3 [Value.type "ValueError",Value.type "Exception",Value.type "BaseException",Value.type "object"] "ValueError.__new__"=true)
  (xr30:dJ K E3 E0 true)
  (xr31:dJ K E3 E1 false)
  (xr32:dJ K E3 E2 false)
  (xr34:dJ K E3 E4 false)
  (xr35:dJ K E3 E5 false)
  (xr36:dJ K E3 E6 false)
  (xr37:dJ K E3 E7 false)
  (xq4:excIn K E4 [Value.type "ValueError",Value.type "Exception",Value.type "BaseException",Value.type "object"] "ValueError.__new__"=true)
  (xr40:dJ K E4 E0 true)
  (xr41:dJ K E4 E1 false)
  (xr42:dJ K E4 E2 false)
  (xr43:dJ K E4 E3 false)
  (xr45:dJ K E4 E5 false)
  (xr46:dJ K E4 E6 false)
  (xr47:dJ K E4 E7 false)
  (xq5:excIn K E5 [Value.type "ValueError",Value.type "Exception",Value.type "BaseException",Value.type "object"] "ValueError.__new__"=true)
  (xr50:dJ K E5 E0 true)
  (xr51:dJ K E5 E1 false)
  (xr52:dJ K E5 E2 false)
  (xr53:dJ K E5 E3 false)
  (xr54:dJ K E5 E4 false)
  (xr56:dJ K E5 E6 false)
  (xr57:dJ K E5 E7 false)
  (xq6:excIn K E6 [Value.type "ValueError",Value.type "Exception",Value.type "BaseException",Value.type "object"] "ValueError.__new__"=true)
  (xr60:dJ K E6 E0 true)
  (xr61:dJ K E6 E1 false)
  (xr62:dJ K E6 E2 false)
  (xr63:dJ K E6 E3 false)
  (xr64:dJ K E6 E4 false)
  (xr65:dJ K E6 E5 false)
  (xr67:dJ K E6 E7 false)
  {gNO_TURN:Addr} {odNO_TURN:Option Addr} {nNO_TURN:Nat} {slNO_TURN:Array (Option Value)} {tNO_TURN0 tNO_TURN1 tNO_TURN2 tNO_TURN3:Tok}
  (caNO_TURN:bB K "NO_TURN" gNO_TURN) (clNO_TURN:K.lookup gNO_TURN=some ⟨.type "tuple",odNO_TURN,.seq #[.int (1:Int) tNO_TURN0,.int (0:Int) tNO_TURN1,.int (0:Int) tNO_TURN2,.int (1:Int) tNO_TURN3] nNO_TURN,slNO_TURN⟩)
  {tLOWEST_LISTED_BAR:Tok} (caLOWEST_LISTED_BAR:nsIn K mainGlobals "LOWEST_LISTED_BAR"=some (some (.int (-4000:Int) tLOWEST_LISTED_BAR)))
  {tLOWEST_MARKED_BAR:Tok} (caLOWEST_MARKED_BAR:nsIn K mainGlobals "LOWEST_MARKED_BAR"=some (some (.int (-1000000:Int) tLOWEST_MARKED_BAR)))
  {tMOST_TIMES:Tok} (caMOST_TIMES:nsIn K mainGlobals "MOST_TIMES"=some (some (.int (1000:Int) tMOST_TIMES)))
  {tGREATEST_places:Tok} (caGREATEST_places:nsIn K mainGlobals "GREATEST_places"=some (some (.int (10000:Int) tGREATEST_places)))
  {tGREATEST_primes:Tok} (caGREATEST_primes:nsIn K mainGlobals "GREATEST_primes"=some (some (.int (10000:Int) tGREATEST_primes)))
  (z0:nsIn K mainGlobals "abs"=some none) (z1:nsIn K mainGlobals "all"=some none) (z2:nsIn K mainGlobals "any"=some none) (z3:nsIn K mainGlobals "bool"=some none) (z4:nsIn K mainGlobals "dict"=some none) (z5:nsIn K mainGlobals "enumerate"=some none) (z6:nsIn K mainGlobals "int"=some none) (z7:nsIn K mainGlobals "isinstance"=some none) (z8:nsIn K mainGlobals "len"=some none) (z9:nsIn K mainGlobals "list"=some none) (z10:nsIn K mainGlobals "max"=some none) (z11:nsIn K mainGlobals "min"=some none) (z12:nsIn K mainGlobals "range"=some none) (z13:nsIn K mainGlobals "reversed"=some none) (z14:nsIn K mainGlobals "set"=some none) (z15:nsIn K mainGlobals "sorted"=some none) (z16:nsIn K mainGlobals "str"=some none) (z17:nsIn K mainGlobals "sum"=some none) (z18:nsIn K mainGlobals "tuple"=some none) (z19:nsIn K mainGlobals "zip"=some none) :
  ∃(fd fdm:FuncData) (fm:Addr),(∀(s:Shared) (v:Value),BindsTo s fd ⟨[v],[]⟩ [("_law_script",v)])∧mg "same_genus"=some (.ref fm)∧(∃o,h.get? fm=some o∧o.data = .func fdm)∧∀(base:Heap) (Pl cc:Addr),K.In base→base.Ns mainGlobals mg→fdm.code = .ref cc→FM.Tab base mg Pl cc→FnOk l.prog w K mg base CX0 18 fa fd ["_law_script"] (FM.SpT K Pl CM.PfT):=by
 have e:=hfa.symm.trans (mg_of X G a78)
 cases e
 have T:Tx mg:=⟨mg_none_of X G z0,mg_none_of X G z1,mg_none_of X G z2,mg_none_of X G z3,mg_none_of X G z4,mg_none_of X G z5,mg_none_of X G z6,mg_none_of X G z7,mg_none_of X G z8,mg_none_of X G z9,mg_none_of X G z10,mg_none_of X G z11,mg_none_of X G z12,mg_none_of X G z13,mg_none_of X G z14,mg_none_of X G z15,mg_none_of X G z16,mg_none_of X G z17,mg_none_of X G z18,mg_none_of X G z19⟩
 have F0:=fun_mk (st:=d9) l0 c0 k0
 have b0:=F0.binds (ps:=["value"]) λ_ _ _ _ _ _ us hl=>match us,hl with | [_],_=>rfl
 have m0:=mg_of X G a0
 have F1:=fun_mk (st:=bF) l1 c1 k1
 have b1:=F1.binds (ps:=["value","length"]) λ_ _ _ _ _ _ us hl=>match us,hl with | [_,_],_=>rfl
 have m1:=mg_of X G a1
 have F2:=fun_mk (st:=gQ) l2 c2 k2
 have b2:=F2.binds (ps:=["value"]) λ_ _ _ _ _ _ us hl=>match us,hl with | [_],_=>rfl
 have m2:=mg_of X G a2
 have F3:=fun_mk (st:=cs) l3 c3 k3
 have b3:=F3.binds (ps:=["value"]) λ_ _ _ _ _ _ us hl=>match us,hl with | [_],_=>rfl
 have m3:=mg_of X G a3
 have F4:=fun_mk (st:=bc) l4 c4 k4
 have b4:=F4.binds (ps:=["value","lowest"]) λ_ _ _ _ _ _ us hl=>match us,hl with | [_,_],_=>rfl
 have m4:=mg_of X G a4
 have F5:=fun_mk (st:=bM) l5 c5 k5
 have b5:=F5.binds (ps:=["value"]) λ_ _ _ _ _ _ us hl=>match us,hl with | [_],_=>rfl
 have m5:=mg_of X G a5
 have F6:=fun_mk (st:=bG) l6 c6 k6
 have b6:=F6.binds (ps:=["value","lowest","highest"]) λ_ _ _ _ _ _ us hl=>match us,hl with | [_,_,_],_=>rfl
 have m6:=mg_of X G a6
 have F7:=fun_mk (st:=bW) l7 c7 k7
 have b7:=F7.binds (ps:=["one","other"]) λ_ _ _ _ _ _ us hl=>match us,hl with | [_,_],_=>rfl
 have m7:=mg_of X G a7
 have F8:=fun_mk (st:=bj) l8 c8 k8
 have b8:=F8.binds (ps:=["one","other"]) λ_ _ _ _ _ _ us hl=>match us,hl with | [_,_],_=>rfl
 have m8:=mg_of X G a8
 have F9:=fun_mk (st:=cG) l9 c9 k9
 have b9:=F9.binds (ps:=["number"]) λ_ _ _ _ _ _ us hl=>match us,hl with | [_],_=>rfl
 have m9:=mg_of X G a9
 have F10:=fun_mk (st:=bZ) l10 c10 k10
 have b10:=F10.binds (ps:=["number"]) λ_ _ _ _ _ _ us hl=>match us,hl with | [_],_=>rfl
 have m10:=mg_of X G a10
 have F11:=fun_mk (st:=fQ) l11 c11 k11
 have b11:=F11.binds (ps:=["base","exponent","divisor"]) λ_ _ _ _ _ _ us hl=>match us,hl with | [_,_,_],_=>rfl
 have m11:=mg_of X G a11
 have F12:=fun_mk (st:=cF) l12 c12 k12
 have b12:=F12.binds (ps:=["number","prime"]) λ_ _ _ _ _ _ us hl=>match us,hl with | [_,_],_=>rfl
 have m12:=mg_of X G a12
 have F13:=fun_mk (st:=bV) l13 c13 k13
 have b13:=F13.binds (ps:=["a","b","c"]) λ_ _ _ _ _ _ us hl=>match us,hl with | [_,_,_],_=>rfl
 have m13:=mg_of X G a13
 have F14:=fun_mk (st:=fj) l14 c14 k14
 have b14:=F14.binds (ps:=["value"]) λ_ _ _ _ _ _ us hl=>match us,hl with | [_],_=>rfl
 have m14:=mg_of X G a14
 have F15:=fun_mk (st:=bS) l15 c15 k15
 have b15:=F15.binds (ps:=["value"]) λ_ _ _ _ _ _ us hl=>match us,hl with | [_],_=>rfl
 have m15:=mg_of X G a15
 have F16:=fun_mk (st:=gO) l16 c16 k16
 have b16:=F16.binds (ps:=["form"]) λ_ _ _ _ _ _ us hl=>match us,hl with | [_],_=>rfl
 have m16:=mg_of X G a16
 have F17:=fun_mk (st:=jm) l17 c17 k17
 have b17:=F17.binds (ps:=["form","place"]) λ_ _ _ _ _ _ us hl=>match us,hl with | [_,_],_=>rfl
 have m17:=mg_of X G a17
 have F18:=fun_mk (st:=fh) l18 c18 k18
 have b18:=F18.binds (ps:=["form"]) λ_ _ _ _ _ _ us hl=>match us,hl with | [_],_=>rfl
 have m18:=mg_of X G a18
 have F19:=fun_mk (st:=cU) l19 c19 k19
 have b19:=F19.binds (ps:=["value"]) λ_ _ _ _ _ _ us hl=>match us,hl with | [_],_=>rfl
 have m19:=mg_of X G a19
 have F20:=fun_mk (st:=bo) l20 c20 k20
 have b20:=F20.binds (ps:=["value"]) λ_ _ _ _ _ _ us hl=>match us,hl with | [_],_=>rfl
 have m20:=mg_of X G a20
 have F21:=fun_mk (st:=n9) l21 c21 k21
 have b21:=F21.binds (ps:=["turning","place"]) λ_ _ _ _ _ _ us hl=>match us,hl with | [_,_],_=>rfl
 have m21:=mg_of X G a21
 have F22:=fun_mk (st:=jl) l22 c22 k22
 have b22:=F22.binds (ps:=["form","turning"]) λ_ _ _ _ _ _ us hl=>match us,hl with | [_,_],_=>rfl
 have m22:=mg_of X G a22
 have F23:=fun_mk (st:=jg) l23 c23 k23
 have b23:=F23.binds (ps:=["one","other"]) λ_ _ _ _ _ _ us hl=>match us,hl with | [_,_],_=>rfl
 have m23:=mg_of X G a23
 have F24:=fun_mk (st:=eu) l24 c24 k24
 have b24:=F24.binds (ps:=["turning"]) λ_ _ _ _ _ _ us hl=>match us,hl with | [_],_=>rfl
 have m24:=mg_of X G a24
 have F25:=fun_mk (st:=fN) l25 c25 k25
 have b25:=F25.binds (ps:=["form"]) λ_ _ _ _ _ _ us hl=>match us,hl with | [_],_=>rfl
 have m25:=mg_of X G a25
 have F26:=fun_mk (st:=ia) l26 c26 k26
 have b26:=F26.binds (ps:=["form","step"]) λ_ _ _ _ _ _ us hl=>match us,hl with | [_,_],_=>rfl
 have m26:=mg_of X G a26
 have F27:=fun_mk (st:=dz) l27 c27 k27
 have b27:=F27.binds (ps:=["turning","step"]) λ_ _ _ _ _ _ us hl=>match us,hl with | [_,_],_=>rfl
 have m27:=mg_of X G a27
 have F28:=fun_mk (st:=ib) l28 c28 k28
 have b28:=F28.binds (ps:=["form"]) λ_ _ _ _ _ _ us hl=>match us,hl with | [_],_=>rfl
 have m28:=mg_of X G a28
 have F29:=fun_mk (st:=dB) l29 c29 k29
 have b29:=F29.binds (ps:=["turning"]) λ_ _ _ _ _ _ us hl=>match us,hl with | [_],_=>rfl
 have m29:=mg_of X G a29
 have F30:=fun_mk (st:=cb) l30 c30 k30
 have b30:=F30.binds (ps:=["form"]) λ_ _ _ _ _ _ us hl=>match us,hl with | [_],_=>rfl
 have m30:=mg_of X G a30
 have F31:=fun_mk (st:=eo) l31 c31 k31
 have b31:=F31.binds (ps:=["form"]) λ_ _ _ _ _ _ us hl=>match us,hl with | [_],_=>rfl
 have m31:=mg_of X G a31
 have F32:=fun_mk (st:=kH) l32 c32 k32
 have b32:=F32.binds (ps:=["one","other"]) λ_ _ _ _ _ _ us hl=>match us,hl with | [_,_],_=>rfl
 have m32:=mg_of X G a32
 have F33:=fun_mk (st:=dh) l33 c33 k33
 have b33:=F33.binds (ps:=["form"]) λ_ _ _ _ _ _ us hl=>match us,hl with | [_],_=>rfl
 have m33:=mg_of X G a33
 have F34:=fun_mk (st:=fV) l34 c34 k34
 have b34:=F34.binds (ps:=["form"]) λ_ _ _ _ _ _ us hl=>match us,hl with | [_],_=>rfl
 have m34:=mg_of X G a34
 have F35:=fun_mk (st:=bR) l35 c35 k35
 have b35:=F35.binds (ps:=["form"]) λ_ _ _ _ _ _ us hl=>match us,hl with | [_],_=>rfl
 have m35:=mg_of X G a35
 have F36:=fun_mk (st:=bi) l36 c36 k36
 have b36:=F36.binds (ps:=["one","other"]) λ_ _ _ _ _ _ us hl=>match us,hl with | [_,_],_=>rfl
 have m36:=mg_of X G a36
 have F37:=fun_mk (st:=cE) l37 c37 k37
 have b37:=F37.binds (ps:=["one","other"]) λ_ _ _ _ _ _ us hl=>match us,hl with | [_,_],_=>rfl
 have m37:=mg_of X G a37
 have F38:=fun_mk (st:=cW) l38 c38 k38
 have b38:=F38.binds (ps:=["one","other","shares"]) λ_ _ _ _ _ _ us hl=>match us,hl with | [_,_,_],_=>rfl
 have m38:=mg_of X G a38
 have F39:=fun_mk (st:=dO) l39 c39 k39
 have b39:=F39.binds (ps:=["one","other","divisor","middle"]) λ_ _ _ _ _ _ us hl=>match us,hl with | [_,_,_,_],_=>rfl
 have m39:=mg_of X G a39
 have F40:=fun_mk (st:=cV) l40 c40 k40
 have b40:=F40.binds (ps:=["one","other"]) λ_ _ _ _ _ _ us hl=>match us,hl with | [_,_],_=>rfl
 have m40:=mg_of X G a40
 have F41:=fun_mk (st:=gR) l41 c41 k41
 have b41:=F41.binds (ps:=["one","other"]) λ_ _ _ _ _ _ us hl=>match us,hl with | [_,_],_=>rfl
 have m41:=mg_of X G a41
 have F42:=fun_mk (st:=fq) l42 c42 k42
 have b42:=F42.binds (ps:=["bar"]) λ_ _ _ _ _ _ us hl=>match us,hl with | [_],_=>rfl
 have m42:=mg_of X G a42
 have F43:=fun_mk (st:=fP) l43 c43 k43
 have b43:=F43.binds (ps:=["form"]) λ_ _ _ _ _ _ us hl=>match us,hl with | [_],_=>rfl
 have m43:=mg_of X G a43
 have F44:=fun_mk (st:=fR) l44 c44 k44
 have b44:=F44.binds (ps:=["form","times"]) λ_ _ _ _ _ _ us hl=>match us,hl with | [_,_],_=>rfl
 have m44:=mg_of X G a44
 have F45:=fun_mk (st:=dF) l45 c45 k45
 have b45:=F45.binds (ps:=["bar"]) λ_ _ _ _ _ _ us hl=>match us,hl with | [_],_=>rfl
 have m45:=mg_of X G a45
 have F46:=fun_mk (st:=hV) l46 c46 k46
 have b46:=F46.binds (ps:=["bar"]) λ_ _ _ _ _ _ us hl=>match us,hl with | [_],_=>rfl
 have m46:=mg_of X G a46
 have F47:=fun_mk (st:=n8) l47 c47 k47
 have b47:=F47.binds (ps:=["bar","wanted"]) λ_ _ _ _ _ _ us hl=>match us,hl with | [_,_],_=>rfl
 have m47:=mg_of X G a47
 have F48:=fun_mk (st:=aN) l48 c48 k48
 have b48:=F48.binds (ps:=["quarter"]) λ_ _ _ _ _ _ us hl=>match us,hl with | [_],_=>rfl
 have m48:=mg_of X G a48
 have F49:=fun_mk (st:=er) l49 c49 k49
 have b49:=F49.binds (ps:=["bar"]) λ_ _ _ _ _ _ us hl=>match us,hl with | [_],_=>rfl
 have m49:=mg_of X G a49
 have F50:=fun_mk (st:=dN) l50 c50 k50
 have b50:=F50.binds (ps:=["mark","number"]) λ_ _ _ _ _ _ us hl=>match us,hl with | [_,_],_=>rfl
 have m50:=mg_of X G a50
 have F51:=fun_mk (st:=cH) l51 c51 k51
 have b51:=F51.binds (ps:=["form"]) λ_ _ _ _ _ _ us hl=>match us,hl with | [_],_=>rfl
 have m51:=mg_of X G a51
 have F52:=fun_mk (st:=fU) l52 c52 k52
 have b52:=F52.binds (ps:=["form"]) λ_ _ _ _ _ _ us hl=>match us,hl with | [_],_=>rfl
 have m52:=mg_of X G a52
 have F53:=fun_mk (st:=d8) l53 c53 k53
 have b53:=F53.binds (ps:=["form"]) λ_ _ _ _ _ _ us hl=>match us,hl with | [_],_=>rfl
 have m53:=mg_of X G a53
 have F54:=fun_mk (st:=aK) l54 c54 k54
 have b54:=F54.binds (ps:=["form"]) λ_ _ _ _ _ _ us hl=>match us,hl with | [_],_=>rfl
 have m54:=mg_of X G a54
 have F55:=fun_mk (st:=jh) l55 c55 k55
 have b55:=F55.binds (ps:=["form"]) λ_ _ _ _ _ _ us hl=>match us,hl with | [_],_=>rfl
 have m55:=mg_of X G a55
 have F56:=fun_mk (st:=fT) l56 c56 k56
 have b56:=F56.binds (ps:=["form"]) λ_ _ _ _ _ _ us hl=>match us,hl with | [_],_=>rfl
 have m56:=mg_of X G a56
 have F57:=fun_mk (st:=jk) l57 c57 k57
 have b57:=F57.binds (ps:=["bar"]) λ_ _ _ _ _ _ us hl=>match us,hl with | [_],_=>rfl
 have m57:=mg_of X G a57
 have F58:=fun_mk (st:=hW) l58 c58 k58
 have b58:=F58.binds (ps:=["bar"]) λ_ _ _ _ _ _ us hl=>match us,hl with | [_],_=>rfl
 have m58:=mg_of X G a58
 have F59:=fun_mk (st:=ji) l59 c59 k59
 have b59:=F59.binds (ps:=["bar"]) λ_ _ _ _ _ _ us hl=>match us,hl with | [_],_=>rfl
 have m59:=mg_of X G a59
 have F60:=fun_mk (st:=ic) l60 c60 k60
 have b60:=F60.binds (ps:=["form"]) λ_ _ _ _ _ _ us hl=>match us,hl with | [_],_=>rfl
 have m60:=mg_of X G a60
 have F61:FunD K "table" "table" cg f61 (fnOf "table" "table" (defArgs cg) (defBody cg) (defScope cg) (.ref dA61) kV61 dc61 pm61 an61 cd61 ct61) (.int (6:Int) dt61):=⟨⟨_,_,_,_,_,_,_,_,_,_,rfl,l61,c61⟩,k61⟩
 have b61:Binds K (fnOf "table" "table" (defArgs cg) (defBody cg) (defScope cg) (.ref dA61) kV61 dc61 pm61 an61 cd61 ct61) ["bar","width"] []:=λs us hK hl=>match us,hl with | [_,_],_=>BindsTo.of_defaults rfl (hK _ _ dl61) rfl rfl rfl
 have bD61:Binds K (fnOf "table" "table" (defArgs cg) (defBody cg) (defScope cg) (.ref dA61) kV61 dc61 pm61 an61 cd61 ct61) ["bar","width"] [.int (6:Int) dt61]:=λs us hK hl=>match us,hl with | [],hl=>absurd hl (by simp) | [_],_=>BindsTo.of_defaults rfl (hK _ _ dl61) rfl rfl rfl|_::_::_,hl=>absurd hl (by simp)
 have m61:=mg_of X G a61
 have F62:=fun_mk (st:=jj) l62 c62 k62
 have b62:=F62.binds (ps:=["form","number"]) λ_ _ _ _ _ _ us hl=>match us,hl with | [_,_],_=>rfl
 have m62:=mg_of X G a62
 have F63:=fun_mk (st:=aV) l63 c63 k63
 have b63:=F63.binds (ps:=["bar","prime"]) λ_ _ _ _ _ _ us hl=>match us,hl with | [_,_],_=>rfl
 have m63:=mg_of X G a63
 have F64:=fun_mk (st:=dP) l64 c64 k64
 have b64:=F64.binds (ps:=["bar","prime"]) λ_ _ _ _ _ _ us hl=>match us,hl with | [_,_],_=>rfl
 have m64:=mg_of X G a64
 have F65:=fun_mk (st:=oi) l65 c65 k65
 have b65:=F65.binds (ps:=["bar","number"]) λ_ _ _ _ _ _ us hl=>match us,hl with | [_,_],_=>rfl
 have m65:=mg_of X G a65
 have F66:=fun_mk (st:=fW) l66 c66 k66
 have b66:=F66.binds (ps:=["bar","number"]) λ_ _ _ _ _ _ us hl=>match us,hl with | [_,_],_=>rfl
 have m66:=mg_of X G a66
 have F67:=fun_mk (st:=dE) l67 c67 k67
 have b67:=F67.binds (ps:=["_law_script","_law_k"]) λ_ _ _ _ _ _ us hl=>match us,hl with | [_,_],_=>rfl
 have m67:=mg_of X G a67
 have F68:=fun_mk (st:=df) l68 c68 k68
 have b68:=F68.binds (ps:=["_law_cell","_law_more"]) λ_ _ _ _ _ _ us hl=>match us,hl with | [_,_],_=>rfl
 have m68:=mg_of X G a68
 have F69:=fun_mk (st:=bQ) l69 c69 k69
 have b69:=F69.binds (ps:=["_law_way","_law_form"]) λ_ _ _ _ _ _ us hl=>match us,hl with | [_,_],_=>rfl
 have m69:=mg_of X G a69
 have F70:=fun_mk (st:=de) l70 c70 k70
 have b70:=F70.binds (ps:=["_law_way","_law_form"]) λ_ _ _ _ _ _ us hl=>match us,hl with | [_,_],_=>rfl
 have m70:=mg_of X G a70
 have F71:=fun_mk (st:=dC) l71 c71 k71
 have b71:=F71.binds (ps:=["_law_way","_law_bar"]) λ_ _ _ _ _ _ us hl=>match us,hl with | [_,_],_=>rfl
 have m71:=mg_of X G a71
 have F72:=fun_mk (st:=dD) l72 c72 k72
 have b72:=F72.binds (ps:=["_law_way","_law_more"]) λ_ _ _ _ _ _ us hl=>match us,hl with | [_,_],_=>rfl
 have m72:=mg_of X G a72
 have F73:=fun_mk (st:=cZ) l73 c73 k73
 have b73:=F73.binds (ps:=["_law_way","_law_times"]) λ_ _ _ _ _ _ us hl=>match us,hl with | [_,_],_=>rfl
 have m73:=mg_of X G a73
 have F74:=fun_mk (st:=bX) l74 c74 k74
 have b74:=F74.binds (ps:=["_law_way","_law_more"]) λ_ _ _ _ _ _ us hl=>match us,hl with | [_,_],_=>rfl
 have m74:=mg_of X G a74
 have F75:=fun_mk (st:=fk) l75 c75 k75
 have b75:=F75.binds (ps:=["_law_kind","_law_way","_law_more"]) λ_ _ _ _ _ _ us hl=>match us,hl with | [_,_,_],_=>rfl
 have m75:=mg_of X G a75
 have F76:=fun_mk (st:=eR) l76 c76 k76
 have b76:=F76.binds (ps:=["_law_e"]) λ_ _ _ _ _ _ us hl=>match us,hl with | [_],_=>rfl
 have m76:=mg_of X G a76
 have F77:=fun_mk (st:=fO) l77 c77 k77
 have b77:=F77.binds (ps:=["_law_kind","_law_way","_law_more"]) λ_ _ _ _ _ _ us hl=>match us,hl with | [_,_,_],_=>rfl
 have m77:=mg_of X G a77
 have F78:=fun_mk (st:=eQ) l78 c78 k78
 have b78:=F78.binds (ps:=["_law_script"]) λ_ _ _ _ _ _ us hl=>match us,hl with | [_],_=>rfl
 have m78:=mg_of X G a78
 refine⟨fnOf "law" "law" (defArgs eQ) (defBody eQ) (defScope eQ) .none kV78 dc78 pm78 an78 cd78 ct78,fnOf "same_genus" "same_genus" (defArgs aK) (defBody aK) (defScope aK) .none kV54 dc54 pm54 an54 cd54 ct54,f54,λs v=>.of_eq rfl,m54,⟨_,X _ _ l54,rfl⟩,λbase Pl cc _ _ hcc B=> ?_⟩
 have C_NO_TURN:j9 K mg "NO_TURN" (.kt [.int (1:Int),.int (0:Int),.int (0:Int),.int (1:Int)]):=wl (ns:=[(1:Int),(0:Int),(0:Int),(1:Int)]) (mg_of X G caNO_TURN) clNO_TURN (.cons (.cons (.cons (.cons .nil)))) (Nat.le_of_ble_eq_true rfl)
 have C_LOWEST_LISTED_BAR:j9 K mg "LOWEST_LISTED_BAR" (.int (-4000:Int)):=iV (mg_of X G caLOWEST_LISTED_BAR)
 have C_LOWEST_MARKED_BAR:j9 K mg "LOWEST_MARKED_BAR" (.int (-1000000:Int)):=iV (mg_of X G caLOWEST_MARKED_BAR)
 have C_MOST_TIMES:j9 K mg "MOST_TIMES" (.int (1000:Int)):=iV (mg_of X G caMOST_TIMES)
 have C_GREATEST_places:j9 K mg "GREATEST_places" (.int (10000:Int)):=iV (mg_of X G caGREATEST_places)
 have C_GREATEST_primes:j9 K mg "GREATEST_primes" (.int (10000:Int)):=iV (mg_of X G caGREATEST_primes)
 have ec0:EcF K E0:=⟨⟨xa0,xb0,xc0,xd,xf,xo0,xe0⟩,xt0,xs0,xv0⟩
 have ec1:EcF K E1:=⟨⟨xa1,xb1,xc1,xd,xf,xo1,xe1⟩,xt1,xs1,xv1⟩
 have ec2:EcF K E2:=⟨⟨xa2,xb2,xc2,xd,xf,xo2,xe2⟩,xt2,xs2,xv2⟩
 have ec3:EcF K E3:=⟨⟨xa3,xb3,xc3,xd,xf,xo3,xe3⟩,xt3,xs3,xv3⟩
 have ec4:EcF K E4:=⟨⟨xa4,xb4,xc4,xd,xf,xo4,xe4⟩,xt4,xs4,xv4⟩
 have ec5:EcF K E5:=⟨⟨xa5,xb5,xc5,xd,xf,xo5,xe5⟩,xt5,xs5,xv5⟩
 have ec6:EcF K E6:=⟨⟨xa6,xb6,xc6,xd,xf,xo6,xe6⟩,xt6,xs6,xv6⟩
 have ec7:EcF K E7:=⟨⟨xa7,xb7,xc7,xd,xf,xo7,xe7⟩,xt7,xs7,xv7⟩
 obtain⟨cl,Q⟩:∃cl,Ex23 K mg cl:=⟨_,wB xq1 xq2 xq3 xq4 xq5 xq6 (mg_of X G xg0) (mg_of X G xg1) (mg_of X G xg2) (mg_of X G xg3) (mg_of X G xg4) (mg_of X G xg5) (mg_of X G xg6) (mg_of X G xg7) (mg_none_of X G xm) ec0 ec1 ec2 ec3 ec4 ec5 ec6 ec7 xr10 xr12 xr13 xr14 xr15 xr16 xr17 xr20 xr21 xr23 xr24 xr25 xr26 xr27 xr30 xr31 xr32 xr34 xr35 xr36 xr37 xr40 xr41 xr42 xr43 xr45 xr46 xr47 xr50 xr51 xr52 xr53 xr54 xr56 xr57 xr60 xr61 xr62 xr63 xr64 xr65 xr67⟩
 have G_is_whole:=pB (P:=l.prog) (w:=w) (base:=base) T F0 m0 b0
 have X_is_whole:=nk (P:=l.prog) (w:=w) (base:=base) T F0 m0 b0
 have G_is_whole_tuple:=i6 T G_is_whole F1 m1 b1
 have X_is_whole_tuple:=iC T X_is_whole F1 m1 b1
 have G_is_bar:=tT G_is_whole F2 m2 b2
 have X_is_bar:=qt X_is_whole F2 m2 b2
 have G_require_bar:=lA G_is_bar F3 m3 b3
 have X_require_bar:=kc (cl:=cl) Q X_is_bar F3 m3 b3
 have G_require_bar_from:=ij G_require_bar F4 m4 b4
 have X_require_bar_from:=gC (cl:=cl) Q X_require_bar G_require_bar F4 m4 b4
 have G_require_whole:=jL G_is_whole F5 m5 b5
 have X_require_whole:=iT (cl:=cl) Q X_is_whole F5 m5 b5
 have G_require_number:=i9 G_require_whole F6 m6 b6
 have X_require_number:=iD (cl:=cl) Q X_require_whole G_require_whole F6 m6 b6
 have G_common_divisor:=i5 (P:=l.prog) (w:=w) (base:=base) T F7 m7 b7
 have G_divisor_with_shares:=fL (P:=l.prog) (w:=w) (base:=base)  F8 m8 b8
 have G_prime_factors:=jK (P:=l.prog) (w:=w) (base:=base)  F9 m9 b9
 have G_prime_divisors:=i8 T G_prime_factors F10 m10 b10
 have G_power_by:=pF (P:=l.prog) (w:=w) (base:=base)  F11 m11 b11
 have G_leaves_square:=jJ G_power_by F12 m12 b12
 have G_bar_of_numbers:=i4 (P:=l.prog) (w:=w) (base:=base)  F13 m13 b13
 have G_is_form:=q9 G_is_whole_tuple G_bar_of_numbers F14 m14 b14
 have X_is_form:=oG X_is_whole_tuple G_bar_of_numbers F14 m14 b14
 have G_require_form:=ko G_is_form F15 m15 b15
 have X_require_form:=jA (cl:=cl) Q X_is_form F15 m15 b15
 have G_bar_of:=tS G_require_form G_bar_of_numbers F16 m16 b16
 have X_bar_of:=qp (cl:=cl) X_require_form F16 m16 b16
 have G_worth:=vk G_require_form F17 m17 b17
 have X_worth:=sX (cl:=cl) X_require_form F17 m17 b17
 have G_is_bare:=qZ G_require_form G_common_divisor F18 m18 b18
 have X_is_bare:=oE (cl:=cl) X_require_form F18 m18 b18
 have G_is_turning:=mo G_is_whole_tuple F19 m19 b19
 have X_is_turning:=kO X_is_whole_tuple F19 m19 b19
 have G_require_turning:=iM G_is_turning F20 m20 b20
 have X_require_turning:=ig (cl:=cl) Q X_is_turning F20 m20 b20
 have G_sent:=wQ (P:=l.prog) (w:=w) (base:=base)  F21 m21 b21
 have X_turned:=qy (cl:=cl) X_require_form G_require_form X_require_turning F22 m22 b22
 have X_behind:=qq (cl:=cl) X_require_turning G_require_turning F23 m23 b23
 have G_way_back:=pH G_require_turning F24 m24 b24
 have X_way_back:=nz (cl:=cl) X_require_turning F24 m24 b24
 have X_is_least:=nj (cl:=cl) X_require_form F25 m25 b25
 have G_stepped:=rc (P:=l.prog) (w:=w) (base:=base)  F26 m26 b26
 have G_behind_step:=lm (P:=l.prog) (w:=w) (base:=base)  F27 m27 b27
 have G_swapped:=rd (P:=l.prog) (w:=w) (base:=base)  F28 m28 b28
 have G_behind_swap:=lp (P:=l.prog) (w:=w) (base:=base)  F29 m29 b29
 have G_step_to_middle:=ja (P:=l.prog) (w:=w) (base:=base)  F30 m30 b30
 have G_least_of:=pD G_require_form G_step_to_middle G_stepped G_behind_step G_swapped G_behind_swap C_NO_TURN F31 m31 b31
 have X_least_of:=nn (cl:=cl) X_require_form F31 m31 b31
 have X_alike:=sV (cl:=cl) X_require_form G_require_form F32 m32 b32
 have X_own_turnings:=jw (cl:=cl) X_least_of F33 m33 b33
 have X_smallest:=nw (cl:=cl) X_least_of F34 m34 b34
 have G_require_bare:=km G_is_bare F35 m35 b35
 have X_require_bare:=jz (cl:=cl) Q G_is_bare F35 m35 b35
 have G_require_same_bar:=ik G_bar_of F36 m36 b36
 have X_require_same_bar:=gD (cl:=cl) Q G_bar_of F36 m36 b36
 have G_joint_divisor:=jI G_divisor_with_shares F37 m37 b37
 have G_joint_middle:=kg G_bar_of F38 m38 b38
 have G_joint_rows:=mr G_bar_of F39 m39 b39
 have G_joined_whole:=ke T G_bar_of G_joint_divisor G_joint_middle G_joint_rows G_least_of G_way_back G_sent F40 m40 b40
 have G_joined:=tU G_require_form G_require_same_bar G_require_bare G_joined_whole F41 m41 b41
 have X_joined:=qu (cl:=cl) X_require_form G_require_form X_require_same_bar X_require_bare G_require_same_bar G_require_bare F41 m41 b41
 have G_neutral:=rb G_require_bar F42 m42 b42
 have X_neutral:=oJ (cl:=cl) X_require_bar F42 m42 b42
 have X_opposite:=nr (cl:=cl) X_require_form G_require_form X_require_bare F43 m43 b43
 have X_repeated:=nu (cl:=cl) X_require_form G_require_form X_require_bare G_require_bare X_require_number C_MOST_TIMES F44 m44 b44
 have X_least_forms:=ka (cl:=cl) X_require_bar_from C_LOWEST_LISTED_BAR F45 m45 b45
 have X_classes:=oD (cl:=cl) X_least_forms F46 m46 b46
 have X_kept:=uq (cl:=cl) X_classes F47 m47 b47
 have G_marks_beside_odd_primes:=d6 (P:=l.prog) (w:=w) (base:=base)  F48 m48 b48
 have G_marks_of:=pE G_require_bar_from G_prime_divisors G_marks_beside_odd_primes C_LOWEST_MARKED_BAR F49 m49 b49
 have X_marks_of:=nq (cl:=cl) X_require_bar_from C_LOWEST_MARKED_BAR F49 m49 b49
 have G_is_plus_at:=mn G_leaves_square F50 m50 b50
 have G_telling_place:=jM G_bar_of G_prime_divisors F51 m51 b51
 have G_signs_of:=pG G_bar_of G_worth G_telling_place G_marks_of G_is_plus_at F52 m52 b52
 have G_genus_of:=pA T G_require_form G_require_bare G_require_bar_from G_bar_of G_signs_of C_LOWEST_MARKED_BAR F53 m53 b53
 have X_genus_of:=nh (cl:=cl) X_require_form G_require_form X_require_bare G_require_bare X_require_bar_from G_bar_of C_LOWEST_MARKED_BAR F53 m53 b53
 obtain⟨dp,G_same_genus⟩:=mt G_genus_of hcc B F54 m54 b54
 have X_same_genus:=kQ (cl:=cl) X_genus_of F54 m54 b54
 have X_halved:=qs (cl:=cl) X_require_form G_require_form X_require_bare G_require_bare X_require_bar_from G_bar_of C_LOWEST_LISTED_BAR F55 m55 b55
 have X_round_of:=nv (cl:=cl) X_require_form G_require_form X_require_bare X_require_bar_from G_require_bar_from G_bar_of C_LOWEST_LISTED_BAR F56 m56 b56
 have X_rounds:=qx (cl:=cl) X_classes F57 m57 b57
 have X_lengths:=oI (cl:=cl) X_rounds F58 m58 b58
 have X_parted:=qv (cl:=cl) X_classes F59 m59 b59
 have X_written:=oK (cl:=cl) X_require_form F60 m60 b60
 have X_table:=sW (cl:=cl) X_require_bar_from C_LOWEST_LISTED_BAR F61 m61 b61 bD61 ⟨_,rfl⟩
 have X_places:=qw (cl:=cl) X_require_form G_require_form X_require_number C_GREATEST_places F62 m62 b62
 have X_require_telling_prime:=eG (cl:=cl) Q X_require_number G_require_number G_prime_factors C_GREATEST_primes F63 m63 b63
 have X_prime_told:=kP (cl:=cl) X_require_bar_from G_require_bar_from X_require_telling_prime C_LOWEST_MARKED_BAR F64 m64 b64
 have X_ways:=ur (cl:=cl) X_require_bar_from G_require_bar_from X_require_number C_LOWEST_LISTED_BAR C_GREATEST_primes F65 m65 b65
 have X_ways_sum:=nA (cl:=cl) Q X_require_bar G_require_bar X_require_number G_require_number G_common_divisor C_GREATEST_primes F66 m66 b66
 have G_law_cell_at:=lw (P:=l.prog) (w:=w) (base:=base) T F67 m67 b67
 have G_law_bad_form:=kl (P:=l.prog) (w:=w) (base:=base)  F68 m68 b68
 have G_law_ask_form:=ki (cl:=cl) X_turned X_bar_of X_worth X_is_bare X_is_least X_least_of X_alike X_joined X_own_turnings X_smallest X_places F69 m69 b69
 have X_law_ask_form:=jv (cl:=cl) G_same_genus X_require_form F69 m69 b69
 have G_law_ask_late:=kj (cl:=cl) X_opposite X_repeated X_round_of X_genus_of X_written X_same_genus X_halved F70 m70 b70
 have G_law_ask_bar:=lq (cl:=cl) X_least_forms X_classes X_parted X_lengths X_ways X_ways_sum X_prime_told X_marks_of X_table X_kept X_neutral G_is_bare F71 m71 b71
 have G_law_ask_low:=lr (cl:=cl) G_law_ask_bar X_table X_kept X_round_of X_halved X_genus_of X_marks_of X_prime_told G_is_bare F72 m72 b72
 have G_law_ask_bare:=kh (cl:=cl) X_joined X_opposite X_repeated X_round_of X_genus_of X_same_genus X_halved F73 m73 b73
 have G_law_ask_bounds:=i7 (cl:=cl) X_places X_repeated X_prime_told X_ways X_ways_sum F74 m74 b74
 have G_law_ask:=ra (cl:=cl) G_law_bad_form G_law_ask_bar G_law_ask_form G_law_ask_late G_law_ask_low G_law_ask_bare G_law_ask_bounds X_turned X_way_back X_behind X_joined F75 m75 b75
 have X_law_ask:=oH (cl:=cl) G_law_bad_form X_law_ask_form F75 m75 b75
 have G_law_sorts:=nZ (P:=l.prog) (w:=w) (base:=base) (cl:=cl) T Q F76 m76 b76
 have G_law_told:=pC (cl:=cl) Q G_law_ask X_law_ask G_law_sorts F77 m77 b77
 exact yd T G_law_cell_at G_law_told G_joined G_neutral G_bar_of F78
end K23
open PySem PySem.W PyProof.Rows
set_option maxRecDepth 100000 in
set_option maxHeartbeats 0 in
theorem PySem.Challenge.cw_formturn_k23_refused_holds : PySem.Challenge.rw_formturn_k23_refused.Holds := by
 w_on;o_law;k_head;(case hw=>w_witness2)
 k_fill
 refine FM.walk_tab (l:=PySem.Challenge.rw_formturn_k23_refused) (n:=63) (k:=18) (mk:="same_genus") (x:="_law_script") (Pf:=CM.PfT) rfl (by decide) rfl ⟨rfl,by decide,by decide⟩ (λw h Y=>PySem.W.km_in_of Y) ?dm ?nt ?F ?S
 case dm=>kernel_rfl
 case nt=>intro w;first|k_is|kernel_rfl
 case F=>
  intro w mg fa h KX G hmg
  refine' K23.all_mk KX G hmg ?a0 ?l0 ?c0 ?k0 ?a1 ?l1 ?c1 ?k1 ?a2 ?l2 ?c2 ?k2 ?a3 ?l3 ?c3 ?k3 ?a4 ?l4 ?c4 ?k4 ?a5 ?l5 ?c5 ?k5 ?a6 ?l6 ?c6 ?k6 ?a7 ?l7 ?c7 ?k7 ?a8 ?l8 ?c8 ?k8 ?a9 ?l9 ?c9 ?k9 ?a10 ?l10 ?c10 ?k10 ?a11 ?l11 ?c11 ?k11 ?a12 ?l12 ?c12 ?k12 ?a13 ?l13 ?c13 ?k13 ?a14 ?l14 ?c14 ?k14 ?a15 ?l15 ?c15 ?k15 ?a16 ?l16 ?c16 ?k16 ?a17 ?l17 ?c17 ?k17 ?a18 ?l18 ?c18 ?k18 ?a19 ?l19 ?c19 ?k19 ?a20 ?l20 ?c20 ?k20 ?a21 ?l21 ?c21 ?k21 ?a22 ?l22 ?c22 ?k22 ?a23 ?l23 ?c23 ?k23 ?a24 ?l24 ?c24 ?k24 ?a25 ?l25 ?c25 ?k25 ?a26 ?l26 ?c26 ?k26 ?a27 ?l27 ?c27 ?k27 ?a28 ?l28 ?c28 ?k28 ?a29 ?l29 ?c29 ?k29 ?a30 ?l30 ?c30 ?k30 ?a31 ?l31 ?c31 ?k31 ?a32 ?l32 ?c32 ?k32 ?a33 ?l33 ?c33 ?k33 ?a34 ?l34 ?c34 ?k34 ?a35 ?l35 ?c35 ?k35 ?a36 ?l36 ?c36 ?k36 ?a37 ?l37 ?c37 ?k37 ?a38 ?l38 ?c38 ?k38 ?a39 ?l39 ?c39 ?k39 ?a40 ?l40 ?c40 ?k40 ?a41 ?l41 ?c41 ?k41 ?a42 ?l42 ?c42 ?k42 ?a43 ?l43 ?c43 ?k43 ?a44 ?l44 ?c44 ?k44 ?a45 ?l45 ?c45 ?k45 ?a46 ?l46 ?c46 ?k46 ?a47 ?l47 ?c47 ?k47 ?a48 ?l48 ?c48 ?k48 ?a49 ?l49 ?c49 ?k49 ?a50 ?l50 ?c50 ?k50 ?a51 ?l51 ?c51 ?k51 ?a52 ?l52 ?c52 ?k52 ?a53 ?l53 ?c53 ?k53 ?a54 ?l54 ?c54 ?k54 ?a55 ?l55 ?c55 ?k55 ?a56 ?l56 ?c56 ?k56 ?a57 ?l57 ?c57 ?k57 ?a58 ?l58 ?c58 ?k58 ?a59 ?l59 ?c59 ?k59 ?a60 ?l60 ?c60 ?k60 ?a61 ?l61 ?c61 ?k61 ?dl61 ?a62 ?l62 ?c62 ?k62 ?a63 ?l63 ?c63 ?k63 ?a64 ?l64 ?c64 ?k64 ?a65 ?l65 ?c65 ?k65 ?a66 ?l66 ?c66 ?k66 ?a67 ?l67 ?c67 ?k67 ?a68 ?l68 ?c68 ?k68 ?a69 ?l69 ?c69 ?k69 ?a70 ?l70 ?c70 ?k70 ?a71 ?l71 ?c71 ?k71 ?a72 ?l72 ?c72 ?k72 ?a73 ?l73 ?c73 ?k73 ?a74 ?l74 ?c74 ?k74 ?a75 ?l75 ?c75 ?k75 ?a76 ?l76 ?c76 ?k76 ?a77 ?l77 ?c77 ?k77 ?a78 ?l78 ?c78 ?k78 ?xg0 ?xa0 ?xb0 ?xc0 ?xo0 ?xe0 ?xt0 ?xs0 ?xv0 ?xg1 ?xa1 ?xb1 ?xc1 ?xo1 ?xe1 ?xt1 ?xs1 ?xv1 ?xg2 ?xa2 ?xb2 ?xc2 ?xo2 ?xe2 ?xt2 ?xs2 ?xv2 ?xg3 ?xa3 ?xb3 ?xc3 ?xo3 ?xe3 ?xt3 ?xs3 ?xv3 ?xg4 ?xa4 ?xb4 ?xc4 ?xo4 ?xe4 ?xt4 ?xs4 ?xv4 ?xg5 ?xa5 ?xb5 ?xc5 ?xo5 ?xe5 ?xt5 ?xs5 ?xv5 ?xg6 ?xa6 ?xb6 ?xc6 ?xo6 ?xe6 ?xt6 ?xs6 ?xv6 ?xg7 ?xa7 ?xb7 ?xc7 ?xo7 ?xe7 ?xt7 ?xs7 ?xv7 ?xd ?xf ?xn ?xm ?xq1 ?xr10 ?xr12 ?xr13 ?xr14 ?xr15 ?xr16 ?xr17 ?xq2 ?xr20 ?xr21 ?xr23 ?xr24 ?xr25 ?xr26 ?xr27 ?xq3 ?xr30 ?xr31 ?xr32 ?xr34 ?xr35 ?xr36 ?xr37 ?xq4 ?xr40 ?xr41 ?xr42 ?xr43 ?xr45 ?xr46 ?xr47 ?xq5 ?xr50 ?xr51 ?xr52 ?xr53 ?xr54 ?xr56 ?xr57 ?xq6 ?xr60 ?xr61 ?xr62 ?xr63 ?xr64 ?xr65 ?xr67 ?caNO_TURN ?clNO_TURN ?caLOWEST_LISTED_BAR ?caLOWEST_MARKED_BAR ?caMOST_TIMES ?caGREATEST_places ?caGREATEST_primes ?z0 ?z1 ?z2 ?z3 ?z4 ?z5 ?z6 ?z7 ?z8 ?z9 ?z10 ?z11 ?z12 ?z13 ?z14 ?z15 ?z16 ?z17 ?z18 ?z19
  (case a0|l0|c0|k0|a1|l1|c1|k1|a2|l2|c2|k2|a3|l3|c3|k3|a4|l4|c4|k4|a5|l5|c5|k5|a6|l6|c6|k6|a7|l7|c7|k7|a8|l8|c8|k8|a9|l9|c9|k9|a10|l10|c10|k10|a11|l11|c11|k11|a12|l12|c12|k12|a13|l13|c13|k13|a14|l14|c14|k14=>(change _=_;k_is))
  (case a15|l15|c15|k15|a16|l16|c16|k16|a17|l17|c17|k17|a18|l18|c18|k18|a19|l19|c19|k19|a20|l20|c20|k20|a21|l21|c21|k21|a22|l22|c22|k22|a23|l23|c23|k23|a24|l24|c24|k24|a25|l25|c25|k25|a26|l26|c26|k26|a27|l27|c27|k27|a28|l28|c28|k28|a29|l29|c29|k29=>(change _=_;k_is))
  (case a30|l30|c30|k30|a31|l31|c31|k31|a32|l32|c32|k32|a33|l33|c33|k33|a34|l34|c34|k34|a35|l35|c35|k35|a36|l36|c36|k36|a37|l37|c37|k37|a38|l38|c38|k38|a39|l39|c39|k39|a40|l40|c40|k40|a41|l41|c41|k41|a42|l42|c42|k42|a43|l43|c43|k43|a44|l44|c44|k44=>(change _=_;k_is))
  (case a45|l45|c45|k45|a46|l46|c46|k46|a47|l47|c47|k47|a48|l48|c48|k48|a49|l49|c49|k49|a50|l50|c50|k50|a51|l51|c51|k51|a52|l52|c52|k52|a53|l53|c53|k53|a54|l54|c54|k54|a55|l55|c55|k55|a56|l56|c56|k56|a57|l57|c57|k57|a58|l58|c58|k58|a59|l59|c59|k59=>(change _=_;k_is))
  (case a60|l60|c60|k60|a61|l61|c61|k61|dl61|a62|l62|c62|k62|a63|l63|c63|k63|a64|l64|c64|k64|a65|l65|c65|k65|a66|l66|c66|k66|a67|l67|c67|k67|a68|l68|c68|k68|a69|l69|c69|k69|a70|l70|c70|k70|a71|l71|c71|k71|a72|l72|c72|k72|a73|l73|c73|k73|a74|l74|c74=>(change _=_;k_is))
  (case k74|a75|l75|c75|k75|a76|l76|c76|k76|a77|l77|c77|k77|a78|l78|c78|k78|xg0|xa0|xb0|xc0|xo0|xe0|xt0|xs0|xv0|xg1|xa1|xb1|xc1|xo1|xe1|xt1|xs1|xv1|xg2|xa2|xb2|xc2|xo2|xe2|xt2|xs2|xv2|xg3|xa3|xb3|xc3|xo3|xe3|xt3|xs3|xv3|xg4|xa4|xb4|xc4|xo4|xe4|xt4=>(change _=_;k_is))
  (case xs4|xv4|xg5|xa5|xb5|xc5|xo5|xe5|xt5|xs5|xv5|xg6|xa6|xb6|xc6|xo6|xe6|xt6|xs6|xv6|xg7|xa7|xb7|xc7|xo7|xe7|xt7|xs7|xv7|xd|xf|xn|xm=>(change _=_;k_is))
  (case xq1=>k_exc)
  (case xr10|xr12|xr13|xr14|xr15|xr16|xr17=>(change _=_;k_is))
  (case xq2=>k_exc)
  (case xr20|xr21|xr23|xr24|xr25|xr26|xr27=>(change _=_;k_is))
  (case xq3=>k_exc)
  (case xr30|xr31|xr32|xr34|xr35|xr36|xr37=>(change _=_;k_is))
  (case xq4=>k_exc)
  (case xr40|xr41|xr42|xr43|xr45|xr46|xr47=>(change _=_;k_is))
  (case xq5=>k_exc)
  (case xr50|xr51|xr52|xr53|xr54|xr56|xr57=>(change _=_;k_is))
  (case xq6=>k_exc)
  (case xr60|xr61|xr62|xr63|xr64|xr65|xr67|caNO_TURN|clNO_TURN|caLOWEST_LISTED_BAR|caLOWEST_MARKED_BAR|caMOST_TIMES|caGREATEST_places|caGREATEST_primes|z0|z1|z2|z3|z4|z5|z6|z7|z8|z9|z10|z11|z12|z13|z14|z15|z16|z17|z18|z19=>(change _=_;k_is))
 case S=>exact CM.law_st
